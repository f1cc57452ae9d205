import PyProof.Rows.All
import Wide.All
import OpenK.AllK
import Wide.FinOn
import HandS.ForMost
import HandS.Evl
import HandS.Flow
import HandS.Style
import HandS.Star
import HandS.Wide
import HandS.WideBits
import HandS.IsInst
import HandS.Defaults
import HandS.WordsExc
import HandS.Steps
import HandS.Walk
import KE.GoesMore
import PyProof.Draws
import PyProof.EnumMake
import HandS.RevRange
import HandS.TupAny
import KE.KRevSl
import HandS.Head0
import HandS.Head1
import HandS.Head2
import HandS.HeadEnd
import HandS.HeadHook1
import HandS.HeadHook2
import PySem.Challenge.RW_offing_k04_whole_breaks_of_lists
set_option Elab.async false
set_option linter.all false
set_option maxRecDepth 100000
set_option maxHeartbeats 4000000
/-! A calculus over readings: what a part of the heap shows (G), what is hidden, what must stay. -/
namespace Wp
open PySem L2 Evl StX
set_option autoImplicit false

structure Vx where
  He : Hp
  Ge : Hp
  I : Hp → Prop
  m : Addr → Prop
  st : ∀ H H', I H → (∀ a, m a → H' a = H a) → I H'

structure J (U : Vx) (H G : Hp) : Prop where
  up : Ex G H
  keep : Ex U.He H
  new : ∀ a, G a ≠ none → U.Ge a = none → U.He a = none
  hid : U.I H
  msk : ∀ a, U.m a → G a = none ∧ H a ≠ none

theorem none_of_ex {H H' : Hp} {a : Addr} (e : Ex H H') (h : H' a = none) : H a = none := fresh_back e h
theorem ex_upd2 {G H : Hp} {p : Addr} {o : HO} (e : Ex G H) : Ex (upd G p o) (upd H p o) := fun a u h => by
  by_cases z : a = p
  · subst z; rw [upd_same] at h ⊢; exact h
  · rw [upd_ne z] at h ⊢; exact e a u h
theorem J.alloc {U : Vx} {H G : Hp} {p : Addr} {o : HO} (j : J U H G) (h : H p = none) : J U (upd H p o) (upd G p o) where
  up := ex_upd2 j.up
  keep := fun a u e => by
    have e1 := j.keep a u e
    rw [upd_ne (ne_of_none e1 h)]; exact e1
  new := fun a e g => by
    by_cases z : a = p
    · subst z; exact none_of_ex j.keep h
    · rw [upd_ne z] at e; exact j.new a e g
  hid := U.st H _ j.hid fun a ma => by
    have q := (j.msk a ma).2
    have : a ≠ p := fun z => by subst z; exact q h
    rw [upd_ne this]
  msk := fun a ma => by
    obtain ⟨q1, q2⟩ := j.msk a ma
    have : a ≠ p := fun z => by subst z; exact q2 h
    rw [upd_ne this, upd_ne this]; exact ⟨q1, q2⟩
theorem J.write {U : Vx} {H G : Hp} {p : Addr} {o o' : HO} (j : J U H G) (h : G p = some o) (g : U.Ge p = none) : J U (upd H p o') (upd G p o') where
  up := ex_upd2 j.up
  keep := fun a u e => by
    have : a ≠ p := fun z => by
      subst z
      rw [j.new a (by rw [h]; exact fun q => by cases q) g] at e; cases e
    rw [upd_ne this]; exact j.keep a u e
  new := fun a e q => by
    by_cases z : a = p
    · subst z; exact j.new a (by rw [h]; exact fun q => by cases q) q
    · rw [upd_ne z] at e; exact j.new a e q
  hid := U.st H _ j.hid fun a ma => by
    have q := (j.msk a ma).1
    have : a ≠ p := fun z => by subst z; rw [h] at q; cases q
    rw [upd_ne this]
  msk := fun a ma => by
    obtain ⟨q1, q2⟩ := j.msk a ma
    have : a ≠ p := fun z => by subst z; rw [h] at q1; cases q1
    rw [upd_ne this, upd_ne this]; exact ⟨q1, q2⟩
theorem J.free {U : Vx} {H G : Hp} {p : Addr} (j : J U H G) (h : H p = none) : G p = none := none_of_ex j.up h
/-- behind a call that keeps what stood -/
theorem J.call {U : Vx} {H G H' G' : Hp} (j : J U H G) (e1 : Ex H H') (e3 : Ex G' H') (n : ∀ a, G' a ≠ none → G a = none → H a = none) : J U H' G' where
  up := e3
  keep := j.keep.trans e1
  new := fun a q g => by
    cases z : G a with
    | none => exact none_of_ex j.keep (n a q z)
    | some o => exact j.new a (by rw [z]; exact fun q => by cases q) g
  hid := U.st H _ j.hid fun a ma => by
    obtain ⟨_, q2⟩ := j.msk a ma
    cases z : H a with
    | none => exact absurd z q2
    | some o => exact e1 a o z
  msk := fun a ma => by
    obtain ⟨q1, q2⟩ := j.msk a ma
    constructor
    · cases z : G' a with
      | none => rfl
      | some o => exact absurd (n a (by rw [z]; exact fun q => by cases q) q1) q2
    · cases z : H a with
      | none => exact absurd z q2
      | some o => rw [e1 a o z]; exact fun q => by cases q
/-- the hidden part alone has changed, at p -/
theorem J.hidden {U : Vx} {H G : Hp} {p : Addr} {o : HO} (j : J U H G) (mp : U.m p) (hI : U.I (upd H p o)) (hne : U.He p = none) : J U (upd H p o) G where
  up := fun a u e => by
    have : a ≠ p := fun z => by subst z; rw [(j.msk a mp).1] at e; cases e
    rw [upd_ne this]; exact j.up a u e
  keep := fun a u e => by
    have : a ≠ p := fun z => by subst z; rw [hne] at e; cases e
    rw [upd_ne this]; exact j.keep a u e
  new := j.new
  hid := hI
  msk := fun a ma => by
    refine ⟨(j.msk a ma).1, ?_⟩
    by_cases z : a = p
    · subst z; rw [upd_same]; exact fun q => by cases q
    · rw [upd_ne z]; exact (j.msk a ma).2
/-- nothing hidden -/
def V0 (H G : Hp) : Vx := ⟨H, G, fun _ => True, fun _ => False, fun _ _ _ _ => trivial⟩
theorem J.start {H G : Hp} (e : Ex G H) : J (V0 H G) H G := ⟨e, Ex.refl H, fun a q g => absurd g q, trivial, fun _ z => z.elim⟩
/-- one more object hidden: the list at D -/
def Vx.hide (U : Vx) (D : Addr) (o : HO) : Vx := ⟨U.He, U.Ge, fun H => U.I H ∧ H D = some o, fun a => U.m a ∨ a = D, fun H H' ⟨i, d⟩ e => ⟨U.st H H' i fun a ma => e a (.inl ma), by rw [e D (.inr rfl)]; exact d⟩⟩
theorem J.hide {U : Vx} {H G : Hp} {D : Addr} {o : HO} (j : J U H G) (h : H D = some o) (g : G D = none) : J (U.hide D o) H G where
  up := j.up
  keep := j.keep
  new := j.new
  hid := ⟨j.hid, h⟩
  msk := fun a ma => by
    rcases ma with ma | rfl
    · exact j.msk a ma
    · exact ⟨g, by rw [h]; exact fun q => by cases q⟩
theorem J.unhide {U : Vx} {H G : Hp} {D : Addr} {o : HO} (j : J (U.hide D o) H G) (hm : ¬ U.m D) (hn : U.He D = none) : J U H (upd G D o) where
  up := fun a u e => by
    by_cases z : a = D
    · subst z; rw [upd_same] at e; rw [j.hid.2]; exact e
    · rw [upd_ne z] at e; exact j.up a u e
  keep := j.keep
  new := fun a q g => by
    by_cases z : a = D
    · subst z; exact hn
    · rw [upd_ne z] at q; exact j.new a q g
  hid := j.hid.1
  msk := fun a ma => by
    have : a ≠ D := fun z => by subst z; exact hm ma
    rw [upd_ne this]; exact j.msk a (.inl ma)
theorem J.rehide {U : Vx} {H G : Hp} {D : Addr} {o o' : HO} (j : J (U.hide D o) H G) (hm : ¬ U.m D) (hn : U.He D = none) : J (U.hide D o') (upd H D o') G where
  up := fun a u e => by
    have : a ≠ D := fun z => by subst z; rw [(j.msk a (.inr rfl)).1] at e; cases e
    rw [upd_ne this]; exact j.up a u e
  keep := fun a u e => by
    have : a ≠ D := fun z => by subst z; exact absurd (show U.He a = some u from e) (by rw [hn]; exact fun q => by cases q)
    rw [upd_ne this]; exact j.keep a u e
  new := j.new
  hid := ⟨U.st H _ j.hid.1 fun a ma => by
    have : a ≠ D := fun z => by subst z; exact hm ma
    rw [upd_ne this], upd_same⟩
  msk := fun a ma => by
    refine ⟨(j.msk a ma).1, ?_⟩
    by_cases z : a = D
    · subst z; rw [upd_same]; exact fun q => by cases q
    · rw [upd_ne z]; exact (j.msk a ma).2

/-! ### data that stands -/
theorem dp_mono {K : PySem.W.Frag} {H H' : Hp} (e : Ex H H') : ∀ (d : PyData) (v : V), Dp K H v d → Dp K H' v d
  | .none, v, h => by cases h; exact .non
  | .bool b, v, h => by cases h; exact .bl b
  | .int b, v, h => by cases h; exact .int b
  | .str b, v, h => by cases h; exact .str b
  | .list ds, v, h => by cases h with | lst a b => exact .lst (ex_l e a) (dpAll_mono e ds _ b)
  | .tuple ds, v, h => by cases h with | tup a b => exact .tup (ex_t e a) (dpAll_mono e ds _ b)
  | .dict _, v, h => by cases h
where
  dpAll_mono {K : PySem.W.Frag} {H H' : Hp} (e : Ex H H') : ∀ (ds : List PyData) (vs : List V), DpAll K H vs ds → DpAll K H' vs ds
  | [], vs, h => by cases h; exact .nil
  | d :: ds, vs, h => by cases h with | cons a b => exact .cons (dp_mono e d _ a) (dpAll_mono e ds _ b)

/-! ### the judgements -/
def EM (U : Vx) (te : TE) (σ : L2.St) (G : Hp) (Q : VK) : Prop := ∀ H, J U H G → ∀ QH : VK, (∀ v H' G', J U H' G' → Q v G' → QH v H') → te σ H QH
def TM (U : Vx) (tt : TT) (σ : L2.St) (G : Hp) (Q : Bool → Hp → Prop) : Prop := ∀ H, J U H G → ∀ QH : Bool → Hp → Prop, (∀ v H' G', J U H' G' → Q v G' → QH v H') → tt σ H QH
def AM (U : Vx) (ta : TA) (σ : L2.St) (G : Hp) (Q : List V → Hp → Prop) : Prop := ∀ H, J U H G → ∀ QH : List V → Hp → Prop, (∀ v H' G', J U H' G' → Q v G' → QH v H') → ta σ H QH
def GM (U : Vx) (g : TG) (v : V) (σ : L2.St) (G : Hp) (Q : L2.St → Hp → Prop) : Prop := ∀ H, J U H G → ∀ QH : L2.St → Hp → Prop, (∀ σ' H' G', J U H' G' → Q σ' G' → QH σ' H') → g v σ H QH
def RM (U : Vx) (r : Hp → VK → Prop) (G : Hp) (Q : VK) : Prop := ∀ H, J U H G → ∀ QH : VK, (∀ v H' G', J U H' G' → Q v G' → QH v H') → r H QH
def CM (U : Vx) (sp : Sp) (vs : List V) (G : Hp) (Q : VK) : Prop := ∀ H, J U H G → ∀ QH : VK, (∀ v H' G', J U H' G' → Q v G' → QH v H') → ∀ E, sp vs H QH E
def SM (U : Vx) (t : TS) (D : Ends) (σ : L2.St) (G : Hp) : Prop := ∀ H, J U H G → t D σ H
def KM (U : Vx) (nx : L2.St → Hp → Prop) (σ : L2.St) (G : Hp) : Prop := ∀ H, J U H G → nx σ H
def KV (U : Vx) (rt : VK) (v : V) (G : Hp) : Prop := ∀ H, J U H G → rt v H
/-- a bool's way on -/
def BV (x : V) (P : Bool → Prop) : Prop := ∃ k, x = .bl k ∧ P k

section
variable {U : Vx} {σ : L2.St} {G : Hp} {Q : VK} {te ta tb tc tx : TE} {t u tt : TT} {v x y z : V} {r : R2} {K : PySem.W.Frag} {QT : Bool → Hp → Prop}
theorem bv {b : Bool} {P : Bool → Prop} (h : P b) : BV (.bl b) P := ⟨b, rfl, h⟩
theorem em_var {i : Nat} (h : σ[i]? = some (some v)) (k : Q v G) : EM U (tVar i) σ G Q := fun H j _ q => ⟨v, h, q v H G j k⟩
theorem em_here {i : Nat} (h : ∃ v, σ[i]? = some (some v) ∧ Q v G) : EM U (tVar i) σ G Q := fun H j _ q => h.elim fun v e => ⟨v, e.1, q v H G j e.2⟩
theorem em_c (k : Q v G) : EM U (tC v) σ G Q := fun H j _ q => q v H G j k
theorem em_op (h : EM U ta σ G fun x G1 => EM U tb σ G1 fun y G2 => RM U (r x y) G2 Q) : EM U (tOp r ta tb) σ G Q := fun H j QH q =>
  h H j _ fun x H1 G1 j1 h1 => h1 H1 j1 _ fun y H2 G2 j2 h2 => h2 H2 j2 QH q
theorem em_un {ru : V → Hp → VK → Prop} (h : EM U ta σ G fun x G1 => RM U (ru x) G1 Q) : EM U (tUn ru ta) σ G Q := fun H j QH q => h H j _ fun x H1 G1 j1 h1 => h1 H1 j1 QH q
theorem rm_I0 {g : Int → Int → V} {i j : Int} (k : Q (g i j) G) : RM U (rI0 g (.int i) (.int j)) G Q := fun H jj _ q => ⟨i, j, rfl, rfl, q _ H G jj k⟩
theorem rm_I {C : Int → Int → Prop} {g : Int → Int → V} {i j : Int} (c : C i j) (k : Q (g i j) G) : RM U (rI C g (.int i) (.int j)) G Q := fun H jj _ q => ⟨i, j, rfl, rfl, c, q _ H G jj k⟩
theorem rm_U {g : Int → V} {i : Int} (k : Q (g i) G) : RM U (rU g (.int i)) G Q := fun H jj _ q => ⟨i, rfl, q _ H G jj k⟩
theorem rm_eq (h : scal x y = true) (k : Q (.bl (decide (x = y))) G) : RM U (rEq x y) G Q := fun H j _ q => ⟨h, q _ H G j k⟩
theorem rm_ne (h : scal x y = true) (k : Q (.bl (!decide (x = y))) G) : RM U (rNe x y) G Q := fun H j _ q => ⟨h, q _ H G j k⟩
theorem rm_eqI {i j : Int} (k : Q (.bl (decide (i = j))) G) : RM U (rEq (.int i) (.int j)) G Q := rm_eq rfl (by
  have e : decide (V.int i = V.int j) = decide (i = j) := by simp
  rw [e]; exact k)
theorem rm_neI {i j : Int} (k : Q (.bl (!decide (i = j))) G) : RM U (rNe (.int i) (.int j)) G Q := rm_ne rfl (by
  have e : decide (V.int i = V.int j) = decide (i = j) := by simp
  rw [e]; exact k)
theorem rm_eqD {d e : PyData} (hd : Dp K G x d) (he : Dp K G y e) (sd : SeqAt.shaped d = true) (se : SeqAt.shaped e = true) (k : Q (.bl (PyData.eqv d e)) G) : RM U (rEqD K x y) G Q := fun H j _ q =>
  ⟨d, e, dp_mono j.up d x hd, dp_mono j.up e y he, sd, se, q _ H G j k⟩
theorem rm_neD {d e : PyData} (hd : Dp K G x d) (he : Dp K G y e) (sd : SeqAt.shaped d = true) (se : SeqAt.shaped e = true) (k : Q (.bl (!PyData.eqv d e)) G) : RM U (rNeD K x y) G Q := fun H j _ q =>
  ⟨d, e, dp_mono j.up d x hd, dp_mono j.up e y he, sd, se, q _ H G j k⟩
theorem rm_ixL {p : Addr} {xs : List V} {i : Int} (h : SqL K G p xs) (ha : atI xs i = some v) (k : Q v G) : RM U (rIxL K (.ref p) (.int i)) G Q := fun H j _ q => ⟨p, xs, i, v, rfl, rfl, ex_l j.up h, ha, q _ H G j k⟩
theorem rm_ixT {p : Addr} {xs : List V} {i : Int} (h : SqT K G p xs) (ha : atI xs i = some v) (k : Q v G) : RM U (rIxT K (.ref p) (.int i)) G Q := fun H j _ q => ⟨p, xs, i, v, rfl, rfl, ex_t j.up h, ha, q _ H G j k⟩
theorem rm_cat {l b : Addr} {xs zs : List V} (h1 : G l = some (.lst xs)) (h2 : G b = some (.lst zs)) (hs : xs.length + zs.length ≤ sizeLine) (k : ∀ p G', G p = none → Ex G G' → G' p = some (.lst (xs ++ zs)) → Q (.ref p) G') : RM U (rCat (.ref l) (.ref b)) G Q :=
  fun H j _ q => ⟨l, b, xs, zs, rfl, rfl, j.up _ _ h1, j.up _ _ h2, hs, fun p hp => q _ _ _ (j.alloc hp) (k p _ (j.free hp) (Ex.new (j.free hp)) upd_same)⟩
theorem rm_catT {a b : Addr} {xs ys : List V} (h1 : SqT K G a xs) (h2 : SqT K G b ys) (hx : xs ≠ []) (hs : xs.length + ys.length ≤ sizeLine) (k : ∀ p G', Ex G G' → SqT K G' p (xs ++ ys) → Q (.ref p) G') : RM U (rCatT K (.ref a) (.ref b)) G Q :=
  fun H j _ q => ⟨a, b, xs, ys, rfl, rfl, ex_t j.up h1, ex_t j.up h2, hx, hs, fun e => q _ _ _ j (k a G (Ex.refl G) (by rw [e, List.append_nil]; exact h1)), fun _ p hp => q _ _ _ (j.alloc hp) (k p _ (Ex.new (j.free hp)) (SqT.of upd_same))⟩
theorem em_orV (h : EM U ta σ G fun x G1 => BV x fun c => if c = true then Q (.bl true) G1 else EM U tb σ G1 Q) : EM U (tOrV ta tb) σ G Q := fun H j QH q => h H j _ fun x H1 G1 j1 ⟨c, e, h1⟩ => ⟨c, e, by
  cases c with
  | true => rw [if_pos rfl] at h1 ⊢; exact q _ _ _ j1 h1
  | false => rw [if_neg Bool.false_ne_true] at h1 ⊢; exact h1 H1 j1 QH q⟩
theorem em_andV (h : EM U ta σ G fun x G1 => BV x fun c => if c = true then EM U tb σ G1 Q else Q (.bl false) G1) : EM U (tAndV ta tb) σ G Q := fun H j QH q => h H j _ fun x H1 G1 j1 ⟨c, e, h1⟩ => ⟨c, e, by
  cases c with
  | true => rw [if_pos rfl] at h1 ⊢; exact h1 H1 j1 QH q
  | false => rw [if_neg Bool.false_ne_true] at h1 ⊢; exact q _ _ _ j1 h1⟩
theorem em_notV (h : EM U ta σ G fun x G1 => BV x fun c => Q (.bl (!c)) G1) : EM U (tNotV ta) σ G Q := fun H j QH q => h H j _ fun x H1 G1 j1 ⟨c, e, h1⟩ => ⟨c, e, q _ _ _ j1 h1⟩
theorem em_if (h : TM U t σ G fun c G1 => if c = true then EM U ta σ G1 Q else EM U tb σ G1 Q) : EM U (tIf t ta tb) σ G Q := fun H j QH q => h H j _ fun c H1 G1 j1 h1 => by
  cases c with
  | true => rw [if_pos rfl] at h1 ⊢; exact h1 H1 j1 QH q
  | false => rw [if_neg Bool.false_ne_true] at h1 ⊢; exact h1 H1 j1 QH q
theorem em_chain {r' : R2} (h : EM U ta σ G fun x G1 => EM U tb σ G1 fun y G2 => RM U (r x y) G2 fun z G3 => BV z fun k => if k = true then EM U tc σ G3 fun w G4 => RM U (r' y w) G4 Q else Q (.bl false) G3) : EM U (tChain r r' ta tb tc) σ G Q := fun H j QH q =>
  h H j _ fun x H1 G1 j1 h1 => h1 H1 j1 _ fun y H2 G2 j2 h2 => h2 H2 j2 _ fun z H3 G3 j3 ⟨k, e, h3⟩ => ⟨k, e, by
    cases k with
    | true => rw [if_pos rfl] at h3 ⊢; exact h3 H3 j3 _ fun w H4 G4 j4 h4 => h4 H4 j4 QH q
    | false => rw [if_neg Bool.false_ne_true] at h3 ⊢; exact q _ _ _ j3 h3⟩
theorem em_lst {tas : TA} (h : AM U tas σ G fun vs G1 => vs.length ≤ sizeLine ∧ ∀ p G2, G1 p = none → Ex G1 G2 → G2 p = some (.lst vs) → Q (.ref p) G2) : EM U (tLst tas) σ G Q := fun H j QH q =>
  h H j _ fun vs H1 G1 j1 ⟨hz, h1⟩ => ⟨hz, fun p hp => q _ _ _ (j1.alloc hp) (h1 p _ (j1.free hp) (Ex.new (j1.free hp)) upd_same)⟩
theorem em_tup {tas : TA} (h : AM U tas σ G fun vs G1 => vs.length ≤ sizeLine ∧ ∀ p G2, G1 p = none → Ex G1 G2 → G2 p = some (.tup vs) → Q (.ref p) G2) : EM U (tTup tas) σ G Q := fun H j QH q =>
  h H j _ fun vs H1 G1 j1 ⟨hz, h1⟩ => ⟨hz, fun p hp => q _ _ _ (j1.alloc hp) (h1 p _ (j1.free hp) (Ex.new (j1.free hp)) upd_same)⟩
theorem am_nil {QA : List V → Hp → Prop} (k : QA [] G) : AM U tNil σ G QA := fun H j _ q => q _ H G j k
theorem am_cons {tr : TA} {QA : List V → Hp → Prop} (h : EM U ta σ G fun x G1 => AM U tr σ G1 fun vs G2 => QA (x :: vs) G2) : AM U (tCons ta tr) σ G QA := fun H j QH q =>
  h H j _ fun x H1 G1 j1 h1 => h1 H1 j1 _ fun vs H2 G2 j2 h2 => q _ _ _ j2 h2
theorem am_star {tr : TA} {QA : List V → Hp → Prop} (h : EM U ta σ G fun x G1 => ∃ p xs, x = V.ref p ∧ (SqT K G1 p xs ∨ SqL K G1 p xs) ∧ AM U tr σ G1 fun vs G2 => QA (xs ++ vs) G2) : AM U (tStar K ta tr) σ G QA := fun H j QH q =>
  h H j _ fun x H1 G1 j1 ⟨p, xs, e, s, h1⟩ => ⟨p, xs, e, s.elim (fun s => .inl (ex_t j1.up s)) (fun s => .inr (ex_l j1.up s)), h1 H1 j1 _ fun vs H2 G2 j2 h2 => q _ _ _ j2 h2⟩
theorem em_cb {rc : List V → Hp → VK → Prop} {tas : TA} (h : AM U tas σ G fun vs G1 => RM U (rc vs) G1 Q) : EM U (tCB rc tas) σ G Q := fun H j QH q => h H j _ fun vs H1 G1 j1 h1 => h1 H1 j1 QH q
def IV (x : V) (P : Int → Prop) : Prop := ∃ i : Int, x = .int i ∧ P i
theorem iv {i : Int} {P : Int → Prop} (h : P i) : IV (.int i) P := ⟨i, rfl, h⟩
theorem em_bits (h : EM U ta σ G fun x G1 => IV x fun i => Q (.int (Builtin.Int.intBits i : Nat)) G1) : EM U (tBits ta) σ G Q := fun H j QH q => h H j _ fun x H1 G1 j1 ⟨i, e, h1⟩ => ⟨i, e, q _ _ _ j1 h1⟩
theorem em_call {sp : Sp} {E : XK} {tas : TA} (h : AM U tas σ G fun vs G1 => CM U sp vs G1 Q) : EM U (tCall sp [] E tas) σ G Q := fun H j QH q => h H j _ fun vs H1 G1 j1 h1 => by
  show sp (vs ++ []) H1 QH E
  rw [List.append_nil]
  exact h1 H1 j1 QH q E
/-- a method of the instance at a; a field -/
def FM (K : PySem.W.Frag) (f : Str) (x : V) (G : Hp) (Q : VK) : Prop := ∃ a C dx fs v, x = .ref a ∧ G a = some (.ins C dx fs) ∧ Cls K C ∧ NoAttr K C f ∧ fs.lookup f = some v ∧ Q v G
theorem fm {C a dx : Addr} {fs : List (Str × V)} {f : Str} (h : G a = some (.ins C dx fs)) (c : Cls K C) (n : NoAttr K C f) (l : fs.lookup f = some v) (k : Q v G) : FM K f (.ref a) G Q := ⟨a, C, dx, fs, v, rfl, h, c, n, l, k⟩
theorem em_fld {f : Str} (h : EM U ta σ G fun x G1 => FM K f x G1 Q) : EM U (tFld K ta f) σ G Q := fun H j QH q =>
  h H j _ fun x H1 G1 j1 ⟨a, C, dx, fs, v, e, g, c, n, l, h1⟩ => ⟨a, C, dx, fs, v, e, j1.up _ _ g, c, n, l, q _ _ _ j1 h1⟩
def MM (C : Addr) (m : Str) (x : V) (G : Hp) (k : Prop) : Prop := ∃ a dx fs, x = V.ref a ∧ G a = some (.ins C dx fs) ∧ fs.lookup m = none ∧ k
theorem mm {C a dx : Addr} {fs : List (Str × V)} {m : Str} {k : Prop} (h : G a = some (.ins C dx fs)) (l : fs.lookup m = none) (q : k) : MM C m (.ref a) G k := ⟨a, dx, fs, rfl, h, l, q⟩
theorem em_meth {C : Addr} {m : Str} {sp : Sp} {E : XK} {tas : TA} (h : EM U ta σ G fun x G1 => MM C m x G1 (AM U tas σ G1 fun vs G2 => CM U sp (x :: vs) G2 Q)) : EM U (tMeth C m sp [] E ta tas) σ G Q := fun H j QH q =>
  h H j _ fun x H1 G1 j1 ⟨a, dx, fs, e, g, l, h1⟩ => ⟨a, dx, fs, e, j1.up _ _ g, l, h1 H1 j1 _ fun vs H2 G2 j2 h2 => by
    show sp (x :: (vs ++ [])) H2 QH E
    rw [List.append_nil]
    exact h2 H2 j2 QH q E⟩
/-! ### promises that keep what stood -/
def spP (pre : List V → Hp → Prop) (post : List V → Hp → V → Hp → Prop) : Sp := fun vs H Q _ => ∃ G, Ex G H ∧ pre vs G ∧ ∀ v H' G', Ex H H' → Ex G G' → Ex G' H' → (∀ a, G' a ≠ none → G a = none → H a = none) → post vs G v G' → Q v H'
theorem cm_p {pre : List V → Hp → Prop} {post : List V → Hp → V → Hp → Prop} {vs : List V} (h : pre vs G) (k : ∀ v G', Ex G G' → post vs G v G' → Q v G') : CM U (spP pre post) vs G Q := fun H j QH q E =>
  ⟨G, j.up, h, fun v H' G' e1 e2 e3 n p => q v H' G' (j.call e1 e3 n) (k v G' e2 p)⟩
/-- at a def's end -/
theorem kv_ret {p : V → Hp → Prop} {H0 G0 : Hp} (k : ∀ v H' G', Ex H0 H' → Ex G0 G' → Ex G' H' → (∀ a, G' a ≠ none → G0 a = none → H0 a = none) → p v G' → Q v H') (e : Ex G0 G) (h : p v G) : KV (V0 H0 G0) Q v G :=
  fun H j => k v H G j.keep e j.up j.new h
/-! ### tests -/
theorem tm_test (h : EM U te σ G fun x G1 => BV x fun k => QT k G1) : TM U (tTest te) σ G QT := fun H j QH q => h H j _ fun x H1 G1 j1 ⟨k, e, h1⟩ => ⟨k, e, q _ _ _ j1 h1⟩
theorem tm_B (h : EM U te σ G fun x G1 => BV x fun k => QT k G1) : TM U (tB te) σ G QT := fun H j QH q => h H j _ fun x H1 G1 j1 ⟨k, e, h1⟩ => ⟨k, e, q _ _ _ j1 h1⟩
theorem tm_and (h : TM U t σ G fun c G1 => if c = true then TM U u σ G1 QT else QT false G1) : TM U (tAnd t u) σ G QT := fun H j QH q => h H j _ fun c H1 G1 j1 h1 => by
  cases c with
  | true => rw [if_pos rfl] at h1 ⊢; exact h1 H1 j1 QH q
  | false => rw [if_neg Bool.false_ne_true] at h1 ⊢; exact q _ _ _ j1 h1
theorem tm_or (h : TM U t σ G fun c G1 => if c = true then QT true G1 else TM U u σ G1 QT) : TM U (tOr t u) σ G QT := fun H j QH q => h H j _ fun c H1 G1 j1 h1 => by
  cases c with
  | true => rw [if_pos rfl] at h1 ⊢; exact q _ _ _ j1 h1
  | false => rw [if_neg Bool.false_ne_true] at h1 ⊢; exact h1 H1 j1 QH q
theorem tm_not (h : TM U t σ G fun c G1 => QT (!c) G1) : TM U (tNot t) σ G QT := fun H j QH q => h H j _ fun c H1 G1 j1 h1 => q _ _ _ j1 h1
theorem tm_yes (k : QT true G) : TM U tYes σ G QT := fun H j QH q => q _ _ _ j k
/-! ### statements -/
variable {D : Ends} {t1 t2 ts : TS} {g : TG}
theorem gm_name {i : Nat} {QG : L2.St → Hp → Prop} (k : QG (σ.set i (some v)) G) : GM U (gName i) v σ G QG := fun H j QH q => q _ _ _ j k
theorem sm_seq (h : SM U t1 ⟨t2 D, D.rt, D.bk, D.ct⟩ σ G) : SM U (tSeq t1 t2) D σ G := h
theorem km_next (h : SM U ts D σ G) {r : VK} {b c : L2.St → Hp → Prop} : KM U (Ends.nx ⟨ts D, r, b, c⟩) σ G := h
theorem kv_rt {rt : VK} (h : KV U rt v G) {n b c : L2.St → Hp → Prop} : KV U (Ends.rt ⟨n, rt, b, c⟩) v G := h
theorem sm_next (h : KM U D.nx σ G) : SM U tNext D σ G := h
theorem sm_brk (h : KM U D.bk σ G) : SM U tBreak D σ G := h
theorem sm_cont (h : KM U D.ct σ G) : SM U tCont D σ G := h
theorem sm_asg (h : EM U te σ G fun v G1 => GM U g v σ G1 fun σ' G2 => KM U D.nx σ' G2) : SM U (tAsg te g) D σ G := fun H j => h H j _ fun v H1 G1 j1 h1 => h1 H1 j1 _ fun σ' H2 G2 j2 h2 => h2 H2 j2
theorem sm_drop (h : EM U te σ G fun _ G1 => KM U D.nx σ G1) : SM U (tDrop te) D σ G := fun H j => h H j _ fun v H1 G1 j1 h1 => h1 H1 j1
theorem sm_ret (h : EM U te σ G fun v G1 => KV U D.rt v G1) : SM U (tRet te) D σ G := fun H j => h H j _ fun v H1 G1 j1 h1 => h1 H1 j1
theorem sm_retN (h : KV U D.rt .non G) : SM U tRetN D σ G := fun H j => h H j
theorem sm_if (h : TM U t σ G fun c G1 => if c = true then SM U t1 D σ G1 else SM U t2 D σ G1) : SM U (tIfS t t1 t2) D σ G := fun H j => h H j _ fun c H1 G1 j1 h1 => by
  cases c with
  | true => rw [if_pos rfl] at h1 ⊢; exact h1 H1 j1
  | false => rw [if_neg Bool.false_ne_true] at h1 ⊢; exact h1 H1 j1
/-- xs.append(e) of a visible list of its own -/
theorem em_append {l : Addr} {xs : List V} (h : EM U ta σ G fun x G1 => x = .ref l ∧ G1 l = some (.lst xs) ∧ EM U te σ G1 fun y G2 => G2 l = some (.lst xs) ∧ U.Ge l = none ∧ xs.length < sizeLine ∧ Q .non (upd G2 l (.lst (xs ++ [y])))) : EM U (tBM K "list" rAppend ta (tCons te tNil)) σ G Q := fun H j QH q =>
  h H j _ fun x H1 G1 j1 ⟨e, g1, h1⟩ => by
    subst e
    exact ⟨.inl ⟨rfl, xs, SqL.of (j1.up _ _ g1)⟩, h1 H1 j1 _ fun y H2 G2 j2 ⟨g2, ge, hz, h2⟩ => ⟨l, xs, y, rfl, rfl, j2.up _ _ g2, hz, q _ _ _ (j2.write g2 ge) h2⟩⟩
/-! ### loops -/
def KJ (U : Vx) (P : L2.St → Hp → Prop) : L2.St → Hp → Prop := fun σ H => ∃ G, J U H G ∧ P σ G
theorem km_kj {P : L2.St → Hp → Prop} (h : P σ G) {r : VK} {b c : L2.St → Hp → Prop} : KM U (Ends.nx ⟨KJ U P, r, b, c⟩) σ G := fun _ j => ⟨G, j, h⟩
theorem km_kc {P : L2.St → Hp → Prop} (h : P σ G) {r : VK} {b n : L2.St → Hp → Prop} : KM U (Ends.ct ⟨n, r, b, KJ U P⟩) σ G := fun _ j => ⟨G, j, h⟩
theorem km_bk {P : L2.St → Hp → Prop} (h : KM U P σ G) {r : VK} {c n : L2.St → Hp → Prop} : KM U (Ends.bk ⟨n, r, P, c⟩) σ G := h
theorem sm_forL {tl : TE} (h : EM U tl σ G fun v G1 => ∃ a xs, v = .ref a ∧ SqL K G1 a xs ∧ ∃ P : Nat → L2.St → Hp → Prop, P 0 σ G1 ∧ (∀ i σ' G', i ≤ xs.length → P i σ' G' → SqL K G' a xs) ∧
    (∀ i x σ' G', xs[i]? = some x → P i σ' G' → GM U g x σ' G' fun σ2 G2 => SM U ts ⟨KJ U (P (i + 1)), D.rt, D.nx, KJ U (P (i + 1))⟩ σ2 G2) ∧ (∀ σ' G', P xs.length σ' G' → KM U D.nx σ' G')) : SM U (tFor (iList K tl) g ts) D σ G := fun H j =>
  h H j _ fun v H1 G1 j1 ⟨a, xs, e, hx, P, h0, hl, hs, hd⟩ => ⟨a, e, ⟨xs, ex_l j1.up hx⟩, for_list (fun i => KJ U (P i)) ⟨G1, j1, h0⟩ (fun i σ' H' hi ⟨G', j', p⟩ => ex_l j'.up (hl i σ' G' hi p))
    (fun i x σ' H' hi ⟨G', j', p⟩ => hs i x σ' G' hi p H' j' _ fun σ2 H2 G2 j2 h2 => h2 H2 j2) (fun σ' H' ⟨G', j', p⟩ => hd σ' G' p H' j')⟩
theorem sm_forT {tl : TE} (h : EM U tl σ G fun v G1 => ∃ a xs, v = .ref a ∧ SqT K G1 a xs ∧ ∃ P : Nat → L2.St → Hp → Prop, P 0 σ G1 ∧ (∀ i σ' G', i ≤ xs.length → P i σ' G' → SqT K G' a xs) ∧
    (∀ i x σ' G', xs[i]? = some x → P i σ' G' → GM U g x σ' G' fun σ2 G2 => SM U ts ⟨KJ U (P (i + 1)), D.rt, D.nx, KJ U (P (i + 1))⟩ σ2 G2) ∧ (∀ σ' G', P xs.length σ' G' → KM U D.nx σ' G')) : SM U (tFor (iTup K tl) g ts) D σ G := fun H j =>
  h H j _ fun v H1 G1 j1 ⟨a, xs, e, hx, P, h0, hl, hs, hd⟩ => ⟨a, e, ⟨xs, ex_t j1.up hx⟩, for_tup (fun i => KJ U (P i)) ⟨G1, j1, h0⟩ (fun i σ' H' hi ⟨G', j', p⟩ => ex_t j'.up (hl i σ' G' hi p))
    (fun i x σ' H' hi ⟨G', j', p⟩ => hs i x σ' G' hi p H' j' _ fun σ2 H2 G2 j2 h2 => h2 H2 j2) (fun σ' H' ⟨G', j', p⟩ => hd σ' G' p H' j')⟩
theorem sm_forR1 {ta : TA} {i0 : Nat} (h : AM U ta σ G fun vs G1 => ∃ n : Int, vs = [.int n] ∧ -(2 ^ 62) ≤ n ∧ n < 2 ^ 62 ∧ ∃ P : Nat → L2.St → Hp → Prop, P 0 σ G1 ∧
    (∀ (i : Nat) σ' G', (i : Int) < n → P i σ' G' → SM U ts ⟨KJ U (P (i + 1)), D.rt, D.nx, KJ U (P (i + 1))⟩ (σ'.set i0 (some (.int (i : Int)))) G') ∧ (∀ σ' G', P n.toNat σ' G' → KM U D.nx σ' G')) : SM U (tFor (iRng1 ta) (gName i0) ts) D σ G := fun H j =>
  h H j _ fun vs H1 G1 j1 ⟨n, e, b1, b2, P, h0, hs, hd⟩ => ⟨n, e, b1, b2, for_range (lo := 0) (n := n.toNat) (fun i => KJ U (P i)) ⟨G1, j1, h0⟩
    (fun i σ' H' hi ⟨G', j', p⟩ => by
      have e0 : (0 : Int) + (i : Int) = (i : Int) := Int.zero_add _
      show ts ⟨KJ U (P (i + 1)), D.rt, D.nx, KJ U (P (i + 1))⟩ (σ'.set i0 (some (.int ((0 : Int) + (i : Int))))) H'
      rw [e0]
      exact hs i σ' G' (by omega) p H' j') (fun σ' H' ⟨G', j', p⟩ => hd σ' G' p H' j')⟩
theorem sm_forR2 {ta : TA} {i0 : Nat} (h : AM U ta σ G fun vs G1 => ∃ lo n : Int, vs = [.int lo, .int n] ∧ (-(2 ^ 62) ≤ lo ∧ lo < 2 ^ 62 ∧ -(2 ^ 62) ≤ n ∧ n < 2 ^ 62) ∧ ∃ P : Nat → L2.St → Hp → Prop, P 0 σ G1 ∧
    (∀ (i : Nat) σ' G', lo + (i : Int) < n → P i σ' G' → SM U ts ⟨KJ U (P (i + 1)), D.rt, D.nx, KJ U (P (i + 1))⟩ (σ'.set i0 (some (.int (lo + (i : Int))))) G') ∧ (∀ σ' G', P (n - lo).toNat σ' G' → KM U D.nx σ' G')) : SM U (tFor (iRng2 ta) (gName i0) ts) D σ G := fun H j =>
  h H j _ fun vs H1 G1 j1 ⟨lo, n, e, b, P, h0, hs, hd⟩ => ⟨lo, n, e, b, for_range (lo := lo) (n := (n - lo).toNat) (fun i => KJ U (P i)) ⟨G1, j1, h0⟩
    (fun i σ' H' hi ⟨G', j', p⟩ => hs i σ' G' (by omega) p H' j') (fun σ' H' ⟨G', j', p⟩ => hd σ' G' p H' j')⟩
theorem sm_while (W : Nat → L2.St → Hp → Prop) (m0 : Nat) (h0 : W m0 σ G)
    (hs : ∀ m σ' G', W m σ' G' → TM U t σ' G' fun b G1 => if b = true then SM U ts ⟨KJ U (fun σ2 G2 => ∃ m', m' < m ∧ W m' σ2 G2), D.rt, D.nx, KJ U (fun σ2 G2 => ∃ m', m' < m ∧ W m' σ2 G2)⟩ σ' G1 else KM U D.nx σ' G1) : SM U (tWhile t ts) D σ G := fun H j =>
  ⟨fun m => KJ U (W m), ⟨m0, G, j, h0⟩, fun m σ' H' ⟨G', j', w⟩ => hs m σ' G' w H' j' _ fun b H1 G1 j1 h1 => by
    cases b with
    | true =>
      rw [if_pos rfl] at h1 ⊢
      exact ⟨KJ U (fun σ2 G2 => ∃ m', m' < m ∧ W m' σ2 G2), fun σ2 H2 ⟨G2, j2, m', hm, w'⟩ => ⟨m', hm, G2, j2, w'⟩, h1 H1 j1⟩
    | false => rw [if_neg Bool.false_ne_true] at h1 ⊢; exact h1 H1 j1⟩
/-! ### comprehensions -/
theorem em_lcR1 {ta : TA} {i0 : Nat} {vs : List Nat} (h : AM U ta σ G fun ws G1 => ∃ n : Int, ws = [.int n] ∧ 0 ≤ n ∧ n ≤ 16000000 ∧ (∀ x, wipe ((wipe σ vs).set i0 (some x)) vs = wipe σ vs) ∧ ∃ P : Nat → List V → Hp → Prop, P 0 [] G1 ∧ (∀ i acc G', P i acc G' → acc.length ≤ i) ∧
    (∀ (i : Nat) acc G' (D : Addr) (U' : Vx), U' = U.hide D (.lst acc) → ¬ U.m D → (i : Int) < n → P i acc G' → TM U' tt ((wipe σ vs).set i0 (some (.int (i : Int)))) G' fun b G2 => if b = true then EM U' te ((wipe σ vs).set i0 (some (.int (i : Int)))) G2 fun y G3 => P (i + 1) (acc ++ [y]) G3 else P (i + 1) acc G2) ∧
    (∀ acc D G' G'', P n.toNat acc G' → Ex G' G'' → G' D = none → G'' D = some (.lst acc) → Q (.ref D) G'')) : EM U (tLc (iRng1 ta) (gName i0) tt te vs) σ G Q := fun H j QH q =>
  h H j _ fun ws H1 G1 j1 ⟨n, e, b1, b2, hw, P, h0, hz, hs, hd⟩ => ⟨n, e, by omega, by omega, fun D hD => by
    have nm : ¬ U.m D := fun z => (j1.msk D z).2 hD
    have nh : U.He D = none := none_of_ex j1.keep hD
    refine lc_range (lo := 0) (n := n.toNat) (fun i H' => ∃ acc G', J (U.hide D (.lst acc)) H' G' ∧ P i acc G') ⟨[], G1, ?_, h0⟩ (fun i H' hi ⟨acc, G', j', p⟩ => ?_) (fun H' ⟨acc, G', j', p⟩ => ?_)
    · have ja := j1.alloc (o := .lst []) hD
      refine ⟨fun a u e => ?_, ja.keep, j1.new, ⟨ja.hid, upd_same⟩, fun a ma => ?_⟩
      · rw [upd_ne (fun z => by subst z; rw [j1.free hD] at e; cases e)]; exact j1.up a u e
      · rcases ma with ma | rfl
        · obtain ⟨q1, q2⟩ := j1.msk a ma
          refine ⟨q1, ?_⟩
          rw [upd_ne (fun z => by subst z; exact q2 hD)]; exact q2
        · exact ⟨j1.free hD, by rw [upd_same]; exact fun q => by cases q⟩
    · have e0 : (0 : Int) + (i : Int) = (i : Int) := Int.zero_add _
      show wipe ((wipe σ vs).set i0 (some (.int ((0 : Int) + (i : Int))))) vs = wipe σ vs ∧ tt ((wipe σ vs).set i0 (some (.int ((0 : Int) + (i : Int))))) H' fun b H3 => if b = true then te ((wipe σ vs).set i0 (some (.int ((0 : Int) + (i : Int))))) H3 fun y H4 => ∃ acc, H4 D = some (.lst acc) ∧ acc.length < sizeLine ∧ ∃ acc' G', J (U.hide D (.lst acc')) (upd H4 D (.lst (acc ++ [y]))) G' ∧ P (i + 1) acc' G' else ∃ acc' G', J (U.hide D (.lst acc')) H3 G' ∧ P (i + 1) acc' G'
      rw [e0]
      refine ⟨hw _, hs i acc G' D _ rfl nm (by omega) p H' j' _ fun b H3 G3 j3 h3 => ?_⟩
      cases b with
      | true =>
        rw [if_pos rfl] at h3 ⊢
        refine h3 H3 j3 _ fun y H4 G4 j4 h4 => ⟨acc, j4.hid.2, ?_, acc ++ [y], G4, j4.rehide nm nh, h4⟩
        have := hz i acc G' p
        exact Nat.lt_of_le_of_lt this (Nat.lt_of_lt_of_le (show i < 16000000 by omega) (by decide))
      | false =>
        rw [if_neg Bool.false_ne_true] at h3 ⊢
        exact ⟨acc, G3, j3, h3⟩
    · have gd : G' D = none := (j'.msk D (.inr rfl)).1
      exact q _ _ _ (j'.unhide nm nh) (hd acc D G' _ p (Ex.new gd) gd upd_same)⟩
end
/-! ### built-ins by named readings -/
section
variable {X : Cx}
def rLenQ (K : PySem.W.Frag) : List V → Hp → VK → Prop := fun xs H Q => ∃ p ys, xs = [.ref p] ∧ (SqL K H p ys ∨ SqT K H p ys) ∧ Q (.int ys.length) H
def rIntQ : List V → Hp → VK → Prop := fun xs H Q => (∃ i, xs = [.int i] ∧ Q (.int i) H) ∨ ∃ k, xs = [.bl k] ∧ Q (.int (if k then 1 else 0)) H
def rMaxQ : List V → Hp → VK → Prop := fun xs H Q => ∃ i j, xs = [.int i, .int j] ∧ Q (.int (if j > i then j else i)) H
def rMinQ : List V → Hp → VK → Prop := fun xs H Q => ∃ i j, xs = [.int i, .int j] ∧ Q (.int (if j < i then j else i)) H
def rListQ (K : PySem.W.Frag) : List V → Hp → VK → Prop := fun xs H Q => ∃ p ys, xs = [.ref p] ∧ (SqL K H p ys ∨ SqT K H p ys) ∧ ∀ l, H l = none → Q (.ref l) (upd H l (.lst ys))
def rTupQ (K : PySem.W.Frag) : List V → Hp → VK → Prop := fun xs H Q => ∃ p ys, xs = [.ref p] ∧ ((SqL K H p ys ∧ ∀ l, H l = none → Q (.ref l) (upd H l (.tup ys))) ∨ (SqT K H p ys ∧ Q (.ref p) H))
theorem cq_len : CallR X (.builtin "len") (rLenQ X.K) := call_len_seq
theorem cq_int : CallR X (.type "int") rIntQ := call_int1
theorem cq_max (hc : X.calm = true := by rfl) : CallR X (.builtin "max") rMaxQ := call_max2 hc
theorem cq_min (hc : X.calm = true := by rfl) : CallR X (.builtin "min") rMinQ := call_min2 hc
theorem cq_list : CallR X (.type "list") (rListQ X.K) := call_list_of
theorem cq_tuple : CallR X (.type "tuple") (rTupQ X.K) := call_tuple_of
end
section
variable {U : Vx} {σ : L2.St} {G : Hp} {Q : VK} {K : PySem.W.Frag}
theorem rm_lenL {p : Addr} {ys : List V} (h : SqL K G p ys) (k : Q (.int ys.length) G) : RM U (rLenQ K [.ref p]) G Q := fun H j _ q => ⟨p, ys, rfl, .inl (ex_l j.up h), q _ H G j k⟩
theorem rm_lenT {p : Addr} {ys : List V} (h : SqT K G p ys) (k : Q (.int ys.length) G) : RM U (rLenQ K [.ref p]) G Q := fun H j _ q => ⟨p, ys, rfl, .inr (ex_t j.up h), q _ H G j k⟩
theorem rm_int {i : Int} (k : Q (.int i) G) : RM U (rIntQ [.int i]) G Q := fun H j _ q => .inl ⟨i, rfl, q _ H G j k⟩
theorem rm_max {i l : Int} (k : Q (.int (if l > i then l else i)) G) : RM U (rMaxQ [.int i, .int l]) G Q := fun H j _ q => ⟨i, l, rfl, q _ H G j k⟩
theorem rm_min {i l : Int} (k : Q (.int (if l < i then l else i)) G) : RM U (rMinQ [.int i, .int l]) G Q := fun H j _ q => ⟨i, l, rfl, q _ H G j k⟩
theorem rm_list {p : Addr} {ys : List V} (h : SqL K G p ys ∨ SqT K G p ys) (k : ∀ l G', G l = none → Ex G G' → G' l = some (.lst ys) → Q (.ref l) G') : RM U (rListQ K [.ref p]) G Q := fun H j _ q => ⟨p, ys, rfl, h.elim (fun h => .inl (ex_l j.up h)) (fun h => .inr (ex_t j.up h)), fun l hl => q _ _ _ (j.alloc hl) (k l _ (j.free hl) (Ex.new (j.free hl)) upd_same)⟩
theorem rm_tupL {p : Addr} {ys : List V} (h : SqL K G p ys) (k : ∀ l G', G l = none → Ex G G' → G' l = some (.tup ys) → Q (.ref l) G') : RM U (rTupQ K [.ref p]) G Q := fun H j _ q => ⟨p, ys, rfl, .inl ⟨ex_l j.up h, fun l hl => q _ _ _ (j.alloc hl) (k l _ (j.free hl) (Ex.new (j.free hl)) upd_same)⟩⟩
theorem rm_tupT {p : Addr} {ys : List V} (h : SqT K G p ys) (k : Q (.ref p) G) : RM U (rTupQ K [.ref p]) G Q := fun H j _ q => ⟨p, ys, rfl, .inr ⟨ex_t j.up h, q _ _ _ j k⟩⟩
theorem rm_sum {a : Addr} {ns : List Int} (h : SqL K G a (ns.map V.int)) (k : Q (.int ns.sum) G) : RM U (rSum K [.ref a]) G Q := fun H j _ q => ⟨a, ns, rfl, ex_l j.up h, q _ H G j k⟩
theorem rm_all {a : Addr} {bs : List Bool} (h : SqL K G a (bs.map V.bl)) (k : Q (.bl (bs.all id)) G) : RM U (rAll K [.ref a]) G Q := fun H j _ q => ⟨a, bs, rfl, ex_l j.up h, q _ H G j k⟩
theorem rm_any {a : Addr} {bs : List Bool} (h : SqL K G a (bs.map V.bl)) (k : Q (.bl (bs.any id)) G) : RM U (rAny K [.ref a]) G Q := fun H j _ q => ⟨a, bs, rfl, ex_l j.up h, q _ H G j k⟩
theorem rm_isB {a b : Bool} (k : Q (.bl (decide (a = b))) G) : RM U (rIsB (.bl a) (.bl b)) G Q := fun H j _ q => ⟨a, b, rfl, rfl, q _ H G j k⟩
theorem rm_notB {a b : Bool} (k : Q (.bl (!decide (a = b))) G) : RM U (rNotB (.bl a) (.bl b)) G Q := fun H j _ q => ⟨a, b, rfl, rfl, q _ H G j k⟩
/-- isinstance(n, int), isinstance(n, bool) of an int -/
theorem rm_isiI {i : Int} (k : Q (.bl true) G) : RM U (rIsi K [.int i, .ty "int"]) G Q := fun H j _ q => ⟨.int i, .ty "int", .type "int", .type "int", true, rfl, .ty "int", .base (by constructor), kit_ty (by decide +kernel), q _ H G j k⟩
theorem rm_isiB {i : Int} (k : Q (.bl false) G) : RM U (rIsi K [.int i, .ty "bool"]) G Q := fun H j _ q => ⟨.int i, .ty "bool", .type "int", .type "bool", false, rfl, .ty "bool", .base (by constructor), kit_ty (by decide +kernel), q _ H G j k⟩
end
/-! ### defs and methods of the text -/
structure Def (K : PySem.W.Frag) (mg : Str → Option Value) (x qual : Str) (st : Stmt) (ps : List Str) (f : Addr) (fd : FuncData) : Prop where
  F : FunD K x qual (defArgs st) (defBody st) (defScope st) [] [] f fd
  g : mg x = some (.ref f)
  b : Binds K fd ps []
structure MDef (K : PySem.W.Frag) (mg : Str → Option Value) (x qual : Str) (st : Stmt) (ps : List Str) (f : Addr) (fd : FuncData) : Prop where
  F : FunD K x qual (defArgs st) (defBody st) (defScope st) [] [] f fd
  b : Binds K fd ps []
/-! ### the law's draws: a list of two ints that is hidden -/
def wo (st : Addr) (G : Hp) : Hp := fun a => if a = st then none else G a
theorem wo_same {st : Addr} {G : Hp} : wo st G st = none := by unfold wo; rw [if_pos rfl]
theorem wo_ne {st a : Addr} {G : Hp} (h : a ≠ st) : wo st G a = G a := by unfold wo; rw [if_neg h]
def spDraw (K : PySem.W.Frag) : Sp := fun vs H Q _ => ∃ (st sc : Addr) (ns : List Int) (a b sz : Int), vs = [.ref st, .ref sc, .int sz] ∧ H st = some (.lst [.int a, .int b]) ∧ 0 ≤ a ∧ 0 ≤ b ∧ SqL K (wo st H) sc (ns.map V.int) ∧ 0 < sz ∧ sz.natAbs.log2 < 9000 ∧
  ∀ (d a' b' : Int) (H' : Hp), 0 ≤ d → d < sz → 0 ≤ a' → 0 ≤ b' → (∀ x o, x ≠ st → H x = some o → H' x = some o) → H' st = some (.lst [.int a', .int b']) → Q (.int d) H'
def StAt (H : Hp) (st : Addr) : Prop := ∃ a b : Int, H st = some (.lst [.int a, .int b]) ∧ 0 ≤ a ∧ 0 ≤ b
structure DrawOk (U : Vx) (st : Addr) : Prop where
  m : U.m st
  ne : U.He st = none
  at_ : ∀ H, U.I H → StAt H st
  to : ∀ H H', U.I H → (∀ x, U.m x → x ≠ st → H' x = H x) → StAt H' st → U.I H'
theorem DrawOk.hide {U : Vx} {st D : Addr} {o : HO} (d : DrawOk U st) (h : ¬ U.m D) : DrawOk (U.hide D o) st where
  m := .inl d.m
  ne := d.ne
  at_ := fun H i => d.at_ H i.1
  to := fun H H' i e s => ⟨d.to H H' i.1 (fun x mx nx => e x (.inl mx) nx) s, by
    rw [e D (.inr rfl) (fun z => by subst z; exact h d.m)]; exact i.2⟩
section
variable {U : Vx} {σ : L2.St} {G : Hp} {Q : VK} {K : PySem.W.Frag}
theorem cm_draw {st sc : Addr} {ns : List Int} {sz : Int} (d : DrawOk U st) (h : SqL K G sc (ns.map V.int)) (h0 : 0 < sz) (hz : sz.natAbs.log2 < 9000) (k : ∀ n : Int, 0 ≤ n → n < sz → Q (.int n) G) : CM U (spDraw K) [.ref st, .ref sc, .int sz] G Q := fun H j QH q E => by
  obtain ⟨a, b, e, ha, hb⟩ := d.at_ H j.hid
  refine ⟨st, sc, ns, a, b, sz, rfl, e, ha, hb, ex_l (H := G) (fun x o ex => by
    have nx : x ≠ st := fun z => by subst z; rw [(j.msk x d.m).1] at ex; cases ex
    rw [wo_ne nx]; exact j.up x o ex) h, h0, hz, fun n a' b' H' n0 n1 ha' hb' hx he => q _ H' G ?_ (k n n0 n1)⟩
  have gs := (j.msk st d.m).1
  exact {
    up := fun x o ex => hx x o (fun z => by subst z; rw [gs] at ex; cases ex) (j.up x o ex)
    keep := fun x o ex => hx x o (fun z => by subst z; rw [d.ne] at ex; cases ex) (j.keep x o ex)
    new := j.new
    hid := d.to H H' j.hid (fun x mx nx => by
      cases z : H x with
      | none => exact absurd z (j.msk x mx).2
      | some o => exact hx x o nx z) ⟨a', b', he, ha', hb'⟩
    msk := fun x mx => ⟨(j.msk x mx).1, by
      by_cases nx : x = st
      · subst nx; rw [he]; exact fun q => by cases q
      · cases z : H x with
        | none => exact absurd z (j.msk x mx).2
        | some o => rw [hx x o nx z]; exact fun q => by cases q⟩ }
end
/-- the law's own view: its script shown, the draws' list hidden -/
def V1 (H G : Hp) (st : Addr) : Vx := ⟨H, G, fun H' => StAt H' st, fun a => a = st, fun H1 H2 ⟨a, b, e, h⟩ k => ⟨a, b, by rw [k st rfl]; exact e, h⟩⟩
theorem V1.draw {H G : Hp} {st : Addr} (h : H st = none) : DrawOk (V1 H G st) st := ⟨rfl, h, fun _ i => i, fun _ _ _ _ s => s⟩
theorem J.draws {H0 G0 H G : Hp} {st : Addr} (j : J (V0 H0 G0) H G) (h : H st = some (.lst [.int 0, .int 0])) : J (V1 H0 G0 st) H (wo st G) where
  up := fun a o e => by
    by_cases z : a = st
    · rw [z, wo_same] at e; cases e
    · rw [wo_ne z] at e; exact j.up a o e
  keep := j.keep
  new := fun a q gg => by
    by_cases z : a = st
    · rw [z, wo_same] at q; exact absurd rfl q
    · rw [wo_ne z] at q; exact j.new a q gg
  hid := ⟨0, 0, h, Int.le_refl 0, Int.le_refl 0⟩
  msk := fun a z => by
    have z' : a = st := z
    subst z'
    exact ⟨wo_same, by rw [h]; exact fun q => by cases q⟩
/-- from the statement that makes the draws' list on: the rest under the view V1 -/
theorem sm_draws {H0 G0 G : Hp} {t : TS} {D : Ends} {σ : L2.St} {st : Addr} (h : G st = some (.lst [.int 0, .int 0])) (g : G0 st = none) (k : ∀ G1, (∀ a o, a ≠ st → G a = some o → G1 a = some o) → H0 st = none → G1 st = none → SM (V1 H0 G0 st) t D σ G1) : SM (V0 H0 G0) t D σ G := fun H j =>
  k (wo st G) (fun a o z e => by rw [wo_ne z]; exact e) (j.new st (by rw [h]; exact fun q => by cases q) g) wo_same H (j.draws (j.up _ _ h))
section
variable {U : Vx} {σ : L2.St} {G : Hp} {Q : VK} {K : PySem.W.Frag} {te : TE} {tt : TT}
/-- [e for i in range(n)], [.. if t]: a list whose items are told by the turn alone -/
theorem em_filtR1 {ta : TA} {i0 : Nat} {vs : List Nat} (f : Nat → Bool) (v : Nat → V) (h : AM U ta σ G fun ws G1 => ∃ n : Int, ws = [.int n] ∧ 0 ≤ n ∧ n ≤ 16000000 ∧ (∀ x, wipe ((wipe σ vs).set i0 (some x)) vs = wipe σ vs) ∧
    (∀ (i : Nat) G' (U' : Vx), Ex G1 G' → (i : Int) < n → TM U' tt ((wipe σ vs).set i0 (some (.int (i : Int)))) G' fun b G2 => b = f i ∧ Ex G' G2 ∧ (b = true → EM U' te ((wipe σ vs).set i0 (some (.int (i : Int)))) G2 fun y G3 => y = v i ∧ Ex G2 G3)) ∧
    (∀ D G'', Ex G1 G'' → G1 D = none → G'' D = some (.lst (given n.toNat f v)) → Q (.ref D) G'')) : EM U (tLc (iRng1 ta) (gName i0) tt te vs) σ G Q := by
  refine em_lcR1 (fun H j QH q => h H j QH fun ws H' G1 j1 ⟨n, e, b1, b2, hw, hs, hd⟩ => q ws H' G1 j1 ⟨n, e, b1, b2, hw, fun i acc G' => acc = given i f v ∧ Ex G1 G', ⟨rfl, Ex.refl G1⟩, fun i acc G' p => by rw [p.1]; exact given_len i f v, ?_, ?_⟩)
  · intro i acc G' D U' _ _ hi ⟨p1, p2⟩ H j QT qt
    refine hs i G' U' p2 hi H j _ fun b H1 G2 j1 ⟨hb, e1, k⟩ => qt b H1 G2 j1 ?_
    cases b with
    | true =>
      rw [if_pos rfl]
      intro H2 j2 QE qe
      refine k rfl H2 j2 _ fun y H3 G3 j3 ⟨hy, e3⟩ => qe y H3 G3 j3 ⟨?_, (p2.trans e1).trans e3⟩
      rw [given_yes hb.symm, p1, hy]
    | false =>
      rw [if_neg Bool.false_ne_true]
      refine ⟨?_, p2.trans e1⟩
      rw [given_no hb.symm, p1]
  · intro acc D G' G'' ⟨p1, p2⟩ e g1 g2
    refine hd D G'' (p2.trans e) (none_of_ex p2 g1) ?_
    rw [← p1]; exact g2
theorem given_all (n : Nat) (v : Nat → V) : given n (fun _ => true) v = (List.range n).map v := by
  unfold given
  rw [List.filter_eq_self.mpr (fun _ _ => rfl)]
theorem em_mapR1 {ta : TA} {i0 : Nat} {vs : List Nat} (v : Nat → V) (h : AM U ta σ G fun ws G1 => ∃ n : Int, ws = [.int n] ∧ 0 ≤ n ∧ n ≤ 16000000 ∧ (∀ x, wipe ((wipe σ vs).set i0 (some x)) vs = wipe σ vs) ∧
    (∀ (i : Nat) G' (U' : Vx), Ex G1 G' → (i : Int) < n → EM U' te ((wipe σ vs).set i0 (some (.int (i : Int)))) G' fun y G3 => y = v i ∧ Ex G' G3) ∧
    (∀ D G'', Ex G1 G'' → G1 D = none → G'' D = some (.lst ((List.range n.toNat).map v)) → Q (.ref D) G'')) : EM U (tLc (iRng1 ta) (gName i0) tYes te vs) σ G Q := by
  refine em_filtR1 (fun _ => true) v (fun H j QH q => h H j QH fun ws H' G1 j1 ⟨n, e, b1, b2, hw, hs, hd⟩ => q ws H' G1 j1 ⟨n, e, b1, b2, hw, fun i G' U' p hi => tm_yes ⟨rfl, Ex.refl G', fun _ => hs i G' U' p hi⟩, fun D G'' e1 g1 g2 => hd D G'' e1 g1 ?_⟩)
  rw [← given_all]; exact g2
/-- over a list that stands -/
theorem em_lcL {tl : TE} {g : TG} {vs : List Nat} (h : EM U tl σ G fun w G1 => ∃ a xs, w = .ref a ∧ SqL K G1 a xs ∧ xs.length < 16000000 ∧ ∃ P : Nat → List V → Hp → Prop, P 0 [] G1 ∧ (∀ i acc G', P i acc G' → acc.length ≤ i ∧ SqL K G' a xs) ∧
    (∀ (i : Nat) x acc G' (D : Addr) (U' : Vx), U' = U.hide D (.lst acc) → ¬ U.m D → xs[i]? = some x → P i acc G' → GM U' g x (wipe σ vs) G' fun σ2 G0 => wipe σ2 vs = wipe σ vs ∧ TM U' tt σ2 G0 fun b G2 => if b = true then EM U' te σ2 G2 fun y G3 => P (i + 1) (acc ++ [y]) G3 else P (i + 1) acc G2) ∧
    (∀ acc D G' G'', P xs.length acc G' → Ex G' G'' → G' D = none → G'' D = some (.lst acc) → Q (.ref D) G'')) : EM U (tLc (iList K tl) g tt te vs) σ G Q := fun H j QH q =>
  h H j _ fun w H1 G1 j1 ⟨a, xs, e, hx, hlen, P, h0, hz, hs, hd⟩ => ⟨a, e, ⟨xs, ex_l j1.up hx⟩, fun D hD => by
    have nm : ¬ U.m D := fun z => (j1.msk D z).2 hD
    have nh : U.He D = none := none_of_ex j1.keep hD
    refine lc_list (K := K) (a := a) (xs := xs) (fun i H' => i ≤ xs.length ∧ ∃ acc G', J (U.hide D (.lst acc)) H' G' ∧ P i acc G') ⟨Nat.zero_le _, [], G1, ?_, h0⟩ (fun i H' _ ⟨_, acc, G', j', p⟩ => ex_l j'.up (hz i acc G' p).2) (fun i x H' hi ⟨_, acc, G', j', p⟩ => ?_) (fun H' ⟨_, acc, G', j', p⟩ => ?_)
    · have ja := j1.alloc (o := .lst []) hD
      refine ⟨fun a u e => ?_, ja.keep, j1.new, ⟨ja.hid, upd_same⟩, fun a ma => ?_⟩
      · rw [upd_ne (fun z => by subst z; rw [j1.free hD] at e; cases e)]; exact j1.up a u e
      · rcases ma with ma | rfl
        · obtain ⟨q1, q2⟩ := j1.msk a ma
          refine ⟨q1, ?_⟩
          rw [upd_ne (fun z => by subst z; exact q2 hD)]; exact q2
        · exact ⟨j1.free hD, by rw [upd_same]; exact fun q => by cases q⟩
    · have hil : i < xs.length := (List.getElem?_eq_some_iff.mp hi).1
      refine hs i x acc G' D _ rfl nm hi p H' j' _ fun σ2 H2 G2 j2 ⟨w2, k2⟩ => ⟨w2, k2 H2 j2 _ fun b H3 G3 j3 h3 => ?_⟩
      cases b with
      | true =>
        rw [if_pos rfl] at h3 ⊢
        refine h3 H3 j3 _ fun y H4 G4 j4 h4 => ⟨acc, j4.hid.2, ?_, hil, acc ++ [y], G4, j4.rehide nm nh, h4⟩
        have := (hz i acc G' p).1
        exact Nat.lt_of_le_of_lt this (Nat.lt_of_lt_of_le (show i < 16000000 by omega) (by decide))
      | false =>
        rw [if_neg Bool.false_ne_true] at h3 ⊢
        exact ⟨hil, acc, G3, j3, h3⟩
    · have gd : G' D = none := (j'.msk D (.inr rfl)).1
      exact q _ _ _ (j'.unhide nm nh) (hd acc D G' _ p (Ex.new gd) gd upd_same)⟩
theorem em_mapL {tl : TE} {g : TG} {vs : List Nat} (v : V → V) (h : EM U tl σ G fun w G1 => ∃ a xs, w = .ref a ∧ SqL K G1 a xs ∧ xs.length < 16000000 ∧
    (∀ (i : Nat) x G' (U' : Vx), Ex G1 G' → xs[i]? = some x → GM U' g x (wipe σ vs) G' fun σ2 G2 => wipe σ2 vs = wipe σ vs ∧ Ex G' G2 ∧ EM U' te σ2 G2 fun y G3 => y = v x ∧ Ex G2 G3) ∧
    (∀ D G'', Ex G1 G'' → G1 D = none → G'' D = some (.lst (xs.map v)) → Q (.ref D) G'')) : EM U (tLc (iList K tl) g tYes te vs) σ G Q := by
  refine em_lcL (fun H j QH q => h H j QH fun w H' G1 j1 ⟨a, xs, e, hx, hlen, hs, hd⟩ => q w H' G1 j1 ⟨a, xs, e, hx, hlen, fun i acc G' => i ≤ xs.length ∧ acc = (xs.take i).map v ∧ Ex G1 G', ⟨Nat.zero_le _, rfl, Ex.refl G1⟩, fun i acc G' p => ⟨by rw [p.2.1, List.length_map, List.length_take]; omega, ex_l p.2.2 hx⟩, ?_, ?_⟩)
  · intro i x acc G' D U' _ _ hi ⟨p0, p1, p2⟩ H j QT qt
    have hil : i < xs.length := (List.getElem?_eq_some_iff.mp hi).1
    refine hs i x G' U' p2 hi H j _ fun σ2 H1 G2 j1 ⟨hw, e1, k⟩ => qt σ2 H1 G2 j1 ⟨hw, tm_yes ?_⟩
    rw [if_pos rfl]
    intro H2 j2 QE qe
    refine k H2 j2 _ fun y H3 G3 j3 ⟨hy, e3⟩ => qe y H3 G3 j3 ⟨hil, ?_, (p2.trans e1).trans e3⟩
    rw [p1, hy, List.take_add_one, hi]
    simp
  · intro acc D G' G'' ⟨_, p1, p2⟩ e g1 g2
    refine hd D G'' (p2.trans e) (none_of_ex p2 g1) ?_
    rw [p1, List.take_length] at g2; exact g2
end
/-! ### where ways meet -/
def tCut (t : TS) : TS := fun D σ H => ∃ P : L2.St → Hp → Prop, (∀ σ' H', P σ' H' → D.nx σ' H') ∧ t ⟨P, D.rt, D.bk, D.ct⟩ σ H
theorem ps_cut {X : Cx} {st : Stmt} {t : TS} (h : PS X st t) : PS X st (tCut t) := by
  refine ⟨fun pins s σ H D I ⟨P, hP, ht⟩ => ?_⟩
  refine thn (h.run pins s σ H _ I ht) fun f s1 q => ?_
  cases f with
  | next => obtain ⟨σ', H', I', q'⟩ := q; exact ⟨σ', H', I', hP σ' H' q'⟩
  | ret v => exact q
  | brk => exact q
  | cont => exact q
section
variable {U : Vx} {σ : L2.St} {G : Hp} {Q : VK} {K : PySem.W.Frag} {te to ti : TE} {tt : TT} {t ts : TS} {D : Ends} {v : V}
theorem sm_cut (P : L2.St → Hp → Prop) (h1 : ∀ σ' G', P σ' G' → KM U D.nx σ' G') (h2 : SM U t ⟨KJ U P, D.rt, D.bk, D.ct⟩ σ G) : SM U (tCut t) D σ G := fun H j =>
  ⟨KJ U P, fun σ' H' ⟨G', j', p⟩ => h1 σ' G' p H' j', h2 H j⟩
def SLM (U : Vx) (o i v : V) (G : Hp) (k : Hp → Prop) : Prop := ∃ l xs n j, o = .ref l ∧ i = .int n ∧ G l = some (.lst xs) ∧ U.Ge l = none ∧ ixN xs.length n = some j ∧ k (upd G l (.lst (xs.set j v)))
theorem slm {l : Addr} {xs : List V} {n : Int} {j : Nat} {k : Hp → Prop} (h : G l = some (.lst xs)) (g : U.Ge l = none) (hj : ixN xs.length n = some j) (q : k (upd G l (.lst (xs.set j v)))) : SLM U (.ref l) (.int n) v G k := ⟨l, xs, n, j, rfl, rfl, h, g, hj, q⟩
theorem gm_subL {QG : L2.St → Hp → Prop} (h : EM U to σ G fun o G1 => EM U ti σ G1 fun i G2 => SLM U o i v G2 fun G3 => QG σ G3) : GM U (gSub to ti rSetL) v σ G QG := fun H j QH q =>
  h H j _ fun o H1 G1 j1 h1 => h1 H1 j1 _ fun i H2 G2 j2 ⟨l, xs, n, k, e1, e2, g, ge, hk, h2⟩ => ⟨l, xs, n, k, e1, e2, j2.up _ _ g, hk, q _ _ _ (j2.write g ge) h2⟩
end
/-- the view of a draw: all but the draws' list stays -/
def VD (st : Addr) (H : Hp) : Vx := ⟨wo st H, wo st H, fun _ => True, fun _ => False, fun _ _ _ _ => trivial⟩
theorem wo_ex {st : Addr} {H : Hp} : Ex (wo st H) H := fun x o e => by
  by_cases z : x = st
  · rw [z, wo_same] at e; cases e
  · rw [wo_ne z] at e; exact e
theorem VD.start {st : Addr} {H : Hp} : J (VD st H) H H := ⟨Ex.refl H, wo_ex, fun _ _ g => g, trivial, fun _ z => z.elim⟩
theorem sql_wo {K : PySem.W.Frag} {st a : Addr} {H : Hp} {xs : List V} (h : SqL K H a xs) (ne : a ≠ st) : SqL K (wo st H) a xs := by
  rcases h with (h | ⟨o, h⟩) | h
  · exact .inl (.inl (by rw [wo_ne ne]; exact h))
  · exact .inl (.inr ⟨o, by rw [wo_ne ne]; exact h⟩)
  · exact .inr h
theorem wo_upd {st : Addr} {H G : Hp} {o : HO} (e : Ex (wo st H) G) : Ex (wo st H) (upd G st o) := fun x u ex => by
  have : x ≠ st := fun z => by rw [z, wo_same] at ex; cases ex
  rw [upd_ne this]; exact e x u ex
theorem kv_draw {st : Addr} {H G : Hp} {Q : VK} {sz d a' b' : Int} (q : ∀ (d a' b' : Int) (H' : Hp), 0 ≤ d → d < sz → 0 ≤ a' → 0 ≤ b' → (∀ x o, x ≠ st → H x = some o → H' x = some o) → H' st = some (.lst [.int a', .int b']) → Q (.int d) H')
    (h0 : 0 ≤ d) (h1 : d < sz) (ha : 0 ≤ a') (hb : 0 ≤ b') (g : G st = some (.lst [.int a', .int b'])) : KV (VD st H) Q (.int d) G := fun H' j =>
  q d a' b' H' h0 h1 ha hb (fun x o nx e => j.keep x o (by show wo st H x = some o; rw [wo_ne nx]; exact e)) (j.up _ _ g)
theorem ifd {p A B : Prop} [Decidable p] (h1 : p → A) (h2 : ¬ p → B) : if decide p = true then A else B := by
  by_cases h : p
  · rw [decide_eq_true h, if_pos rfl]; exact h1 h
  · rw [decide_eq_false h, if_neg Bool.false_ne_true]; exact h2 h
theorem ifn {p A B : Prop} [Decidable p] (h1 : ¬ p → A) (h2 : p → B) : if (!decide p) = true then A else B := by
  by_cases h : p
  · rw [decide_eq_true h, Bool.not_true, if_neg Bool.false_ne_true]; exact h2 h
  · rw [decide_eq_false h, Bool.not_false, if_pos rfl]; exact h1 h
theorem ifdT {p A B : Prop} [Decidable p] (h : p) (a : A) : if decide p = true then A else B := ifd (fun _ => a) fun z => absurd h z
theorem ifdF {p A B : Prop} [Decidable p] (h : ¬ p) (b : B) : if decide p = true then A else B := ifd (fun z => absurd z h) fun _ => b
theorem ifnT {p A B : Prop} [Decidable p] (h : ¬ p) (a : A) : if (!decide p) = true then A else B := ifn (fun _ => a) fun z => absurd z h
theorem ifnF {p A B : Prop} [Decidable p] (h : p) (b : B) : if (!decide p) = true then A else B := ifn (fun z => absurd h z) fun _ => b
/-! ### lists of ints as data -/
theorem dpAll_ints {K : PySem.W.Frag} {H : Hp} : ∀ ns : List Int, DpAll K H (ns.map V.int) (ns.map PyData.int)
  | [] => .nil
  | n :: ns => .cons (.int n) (dpAll_ints ns)
theorem canLay_ints : ∀ ns : List Int, PyData.canLayAll0 (ns.map PyData.int) = true
  | [] => by simp [PyData.canLayAll0]
  | n :: ns => by
    show PyData.canLayAll0 (PyData.int n :: ns.map PyData.int) = true
    rw [PyData.canLayAll0, canLay_ints ns]
    simp [PyData.canLay0]
theorem depth_ints : ∀ ns : List Int, PyData.depthAll (ns.map PyData.int) ≤ 1
  | [] => by simp [PyData.depthAll]
  | n :: ns => by
    have h := depth_ints ns
    show PyData.depthAll (PyData.int n :: ns.map PyData.int) ≤ 1
    rw [PyData.depthAll]
    simp only [PyData.depth]
    omega
theorem shaped_ints (ns : List Int) : SeqAt.shaped (.list (ns.map PyData.int)) = true := by
  unfold SeqAt.shaped
  have h := depth_ints ns
  rw [PyData.canLay0, canLay_ints, PyData.depth]
  simp
  omega
theorem shaped_intsT (ns : List Int) : SeqAt.shaped (.tuple (ns.map PyData.int)) = true := by
  unfold SeqAt.shaped
  have h := depth_ints ns
  rw [PyData.canLay0, canLay_ints, PyData.depth]
  simp
  omega
theorem eqv_ints : ∀ ns ms : List Int, PyData.eqvAll (ns.map PyData.int) (ms.map PyData.int) = decide (ns = ms)
  | [], [] => by simp [PyData.eqvAll]
  | [], m :: ms => by simp [PyData.eqvAll]
  | n :: ns, [] => by simp [PyData.eqvAll]
  | n :: ns, m :: ms => by
    show PyData.eqvAll (PyData.int n :: ns.map PyData.int) (PyData.int m :: ms.map PyData.int) = _
    rw [PyData.eqvAll, eqv_ints ns ms, PyData.eqv]
    simp [Bool.decide_and]
    by_cases h : n = m <;> simp [h]
theorem dp_ints {K : PySem.W.Frag} {H : Hp} {a : Addr} {ns : List Int} (h : SqL K H a (ns.map V.int)) : Dp K H (.ref a) (.list (ns.map PyData.int)) := .lst h (dpAll_ints ns)
theorem dp_intsT {K : PySem.W.Frag} {H : Hp} {a : Addr} {ns : List Int} (h : SqT K H a (ns.map V.int)) : Dp K H (.ref a) (.tuple (ns.map PyData.int)) := .tup h (dpAll_ints ns)
section
variable {U : Vx} {σ : L2.St} {G : Hp} {Q : VK} {K : PySem.W.Frag}
theorem rm_eqL {a b : Addr} {ns ms : List Int} (ha : SqL K G a (ns.map V.int)) (hb : SqL K G b (ms.map V.int)) (k : Q (.bl (decide (ns = ms))) G) : RM U (rEqD K (.ref a) (.ref b)) G Q :=
  rm_eqD (dp_ints ha) (dp_ints hb) (shaped_ints ns) (shaped_ints ms) (by rw [PyData.eqv, eqv_ints]; exact k)
theorem rm_neL {a b : Addr} {ns ms : List Int} (ha : SqL K G a (ns.map V.int)) (hb : SqL K G b (ms.map V.int)) (k : Q (.bl (!decide (ns = ms))) G) : RM U (rNeD K (.ref a) (.ref b)) G Q :=
  rm_neD (dp_ints ha) (dp_ints hb) (shaped_ints ns) (shaped_ints ms) (by rw [PyData.eqv, eqv_ints]; exact k)
theorem rm_eqT {a b : Addr} {ns ms : List Int} (ha : SqT K G a (ns.map V.int)) (hb : SqT K G b (ms.map V.int)) (k : Q (.bl (decide (ns = ms))) G) : RM U (rEqD K (.ref a) (.ref b)) G Q :=
  rm_eqD (dp_intsT ha) (dp_intsT hb) (shaped_intsT ns) (shaped_intsT ms) (by rw [PyData.eqv, eqv_ints]; exact k)
theorem rm_neT {a b : Addr} {ns ms : List Int} (ha : SqT K G a (ns.map V.int)) (hb : SqT K G b (ms.map V.int)) (k : Q (.bl (!decide (ns = ms))) G) : RM U (rNeD K (.ref a) (.ref b)) G Q :=
  rm_neD (dp_intsT ha) (dp_intsT hb) (shaped_intsT ns) (shaped_intsT ms) (by rw [PyData.eqv, eqv_ints]; exact k)
/-- an item at an unknown place within bounds -/
theorem atI_ex {xs : List V} {i : Int} (h0 : 0 ≤ i) (h1 : i < xs.length) : ∃ v, v ∈ xs ∧ atI xs i = some v ∧ xs[i.toNat]? = some v := by
  obtain ⟨k, rfl⟩ := Int.eq_ofNat_of_zero_le h0
  have hk : k < xs.length := by omega
  refine ⟨xs[k], List.getElem_mem hk, atI_nat (List.getElem?_eq_getElem hk), ?_⟩
  rw [Int.toNat_natCast]; exact List.getElem?_eq_getElem hk
theorem rm_ixM {p : Addr} {xs : List V} {i : Int} (h : SqL K G p xs) (h0 : 0 ≤ i) (h1 : i < xs.length) (k : ∀ v, v ∈ xs → Q v G) : RM U (rIxL K (.ref p) (.int i)) G Q := by
  obtain ⟨v, hv, e, _⟩ := atI_ex h0 h1
  exact rm_ixL h e (k v hv)
end
theorem log2_pow_lt {n : Nat} (h : n < 9000) : (2 ^ n : Nat).log2 < 9000 := by
  rw [Nat.log2_two_pow]; exact h
theorem pow_cast (n : Nat) : ((2 : Int) ^ n).natAbs = 2 ^ n := by rw [Int.natAbs_pow]; rfl
theorem sz_pow {w : Int} (h0 : 0 ≤ w) (h1 : w < 9000) : 0 < (1 : Int) * 2 ^ w.toNat ∧ ((1 : Int) * 2 ^ w.toNat).natAbs.log2 < 9000 := by
  rw [Int.one_mul]
  refine ⟨PySem.W.kbt_pos _, ?_⟩
  rw [pow_cast]
  exact log2_pow_lt (by omega)
theorem sz_small {n : Int} (h0 : 0 ≤ n) (h1 : n < 2 ^ 8999) : n.natAbs.log2 < 9000 := by
  by_cases z : n = 0
  · subst z; decide
  · have : n.natAbs < 2 ^ 8999 := by
      have e : ((n.natAbs : Nat) : Int) < ((2 ^ 8999 : Nat) : Int) := by
        rw [PySem.W.kbt_cast]; omega
      exact Int.ofNat_lt.mp e
    have := (Nat.log2_lt (by omega)).mpr this
    omega
theorem same_of {H G G1 : Hp} {st : Addr} (hs : H st = none) (e : Ex H G) (k : ∀ a o, a ≠ st → G a = some o → G1 a = some o) : Ex H G1 := fun a o h => k a o (fun z => by rw [z, hs] at h; cases h) (e a o h)
/-! ### rules with the written part by its own name -/
section
variable {X : Cx} {K : PySem.W.Frag} {e : Expr} {te : TE} {tg : Expr} {pos : Pos}
theorem kx_list (h : X.K = K := by rfl) : IxR X (rIxL K) := by subst h; exact ix_list
theorem kx_tup (h : X.K = K := by rfl) : IxR X (rIxT K) := by subst h; exact ix_tup
theorem kq_len (h : X.K = K := by rfl) : CallR X (.builtin "len") (rLenQ K) := by subst h; exact cq_len
theorem kq_list (h : X.K = K := by rfl) : CallR X (.type "list") (rListQ K) := by subst h; exact cq_list
theorem kq_tuple (h : X.K = K := by rfl) : CallR X (.type "tuple") (rTupQ K) := by subst h; exact cq_tuple
theorem kr_sum (h : X.K = K := by rfl) (hc : X.calm = true := by rfl) : CallR X (.builtin "sum") (rSum K) := by subst h; exact cr_sum hc
theorem kr_all (h : X.K = K := by rfl) (hc : X.calm = true := by rfl) : CallR X (.builtin "all") (rAll K) := by subst h; exact cr_all hc
theorem kr_any (h : X.K = K := by rfl) (hc : X.calm = true := by rfl) : CallR X (.builtin "any") (rAny K) := by subst h; exact cr_any hc
theorem kr_isi (h : X.K = K := by rfl) : CallR X (.builtin "isinstance") (rIsi K) := by subst h; exact call_isi
theorem kp_eqD (hu : X.A.units + 64 < cLine) (h : X.K = K := by rfl) : OpR X (compareOp .Eq) (rEqD K) := by subst h; exact op_eqD hu
theorem kp_neD (hu : X.A.units + 64 < cLine) (h : X.K = K := by rfl) : OpR X (compareOp .NotEq) (rNeD K) := by subst h; exact op_neD hu
theorem kp_catT (h : X.K = K := by rfl) : OpR X (binaryOp .Add) (rCatT K) := by subst h; exact op_catT
theorem kp_in (h : X.K = K := by rfl) : OpR X (compareOp .In) (rIn K false) := by subst h; exact op_in_seq
theorem kp_notIn (h : X.K = K := by rfl) : OpR X (compareOp .NotIn) (rIn K true) := by subst h; exact op_notIn_seq
theorem kl_list (h : X.K = K := by rfl) : SlR X (rSlL K) := by subst h; exact sl_list
theorem kl_tup (h : X.K = K := by rfl) : SlR X (rSlT K) := by subst h; exact sl_tup
theorem ke_fld {f : Str} (he : PE X e te) (hb : attributeBase e f X.env (eval e X.env) = eval e X.env := by rfl) (h : X.K = K := by rfl) : PE X (.Attribute e f pos) (tFld K te f) := by subst h; exact pe_fld he hb
theorem ki_list (hl : PE X e te) (h : X.K = K := by rfl) : PI X tg e (iList K te) := by subst h; exact pi_list hl
theorem ki_tup (hl : PE X e te) (h : X.K = K := by rfl) : PI X tg e (iTup K te) := by subst h; exact pi_tup hl
theorem ka_star {es : List Expr} {t : TA} {p : Pos} (he : PE X e te) (hr : PA X es t) (hs : starEach (.Starred e p :: es) X.env = (true, eval e X.env) :: starEach es X.env := by rfl) (h : X.K = K := by rfl) : PA X (.Starred e p :: es) (tStar K te t) := by subst h; exact pa_star he hr hs
end
/-! ### a list or a tuple -/
def SqS (K : PySem.W.Frag) (H : Hp) (a : Addr) (xs : List V) : Prop := SqL K H a xs ∨ SqT K H a xs
theorem ex_s {K : PySem.W.Frag} {H H' : Hp} {a : Addr} {xs : List V} (e : Ex H H') (h : SqS K H a xs) : SqS K H' a xs := h.elim (fun h => .inl (ex_l e h)) fun h => .inr (ex_t e h)
def iOr (w1 w2 : TI) : TI := fun σ H R => w1 σ H R ∨ w2 σ H R
theorem pi_or {X : Cx} {tg e : Expr} {w1 w2 : TI} (h1 : PI X tg e w1) (h2 : PI X tg e w2) : PI X tg e (iOr w1 w2) := ⟨fun pins s σ H R I h => h.elim (h1.run pins s σ H R I) (h2.run pins s σ H R I)⟩
def iSeq (K : PySem.W.Frag) (tl : TE) : TI := iOr (iList K tl) (iTup K tl)
theorem ki_seq {X : Cx} {K : PySem.W.Frag} {tg e : Expr} {te : TE} (hl : PE X e te) (h : X.K = K := by rfl) : PI X tg e (iSeq K te) := pi_or (ki_list hl h) (ki_tup hl h)
section
variable {U : Vx} {σ : L2.St} {G : Hp} {Q : VK} {K : PySem.W.Frag} {tl te ta : TE} {tt : TT} {g : TG} {ts : TS} {D : Ends}
/-- over a list or tuple of B, which stays -/
theorem sm_forS {a : Addr} {xs : List V} {B : Hp} (P : Nat → L2.St → Hp → Prop) (hx : SqS K B a xs) (hB : Ex B G) (h : EM U tl σ G fun v G1 => v = .ref a ∧ G1 = G) (h0 : P 0 σ G) (hp : ∀ i σ' G', P i σ' G' → Ex B G')
    (hs : ∀ i x σ' G', xs[i]? = some x → P i σ' G' → GM U g x σ' G' fun σ2 G2 => SM U ts ⟨KJ U (P (i + 1)), D.rt, D.nx, KJ U (P (i + 1))⟩ σ2 G2) (hd : ∀ σ' G', P xs.length σ' G' → KM U D.nx σ' G') : SM U (tFor (iSeq K tl) g ts) D σ G := by
  rcases hx with hx | hx
  · have k : SM U (tFor (iList K tl) g ts) D σ G := sm_forL (fun H j QH q => h H j QH fun v H' G1 j1 ⟨e, eg⟩ => q v H' G1 j1 ⟨a, xs, e, by rw [eg]; exact ex_l hB hx, P, by rw [eg]; exact h0, fun i σ' G' _ p => ex_l (hp i σ' G' p) hx, hs, hd⟩)
    exact fun H j => .inl (k H j)
  · have k : SM U (tFor (iTup K tl) g ts) D σ G := sm_forT (fun H j QH q => h H j QH fun v H' G1 j1 ⟨e, eg⟩ => q v H' G1 j1 ⟨a, xs, e, by rw [eg]; exact ex_t hB hx, P, by rw [eg]; exact h0, fun i σ' G' _ p => ex_t (hp i σ' G' p) hx, hs, hd⟩)
    exact fun H j => .inr (k H j)
theorem rm_lenS {p : Addr} {ys : List V} (h : SqS K G p ys) (k : Q (.int ys.length) G) : RM U (rLenQ K [.ref p]) G Q := h.elim (fun h => rm_lenL h k) fun h => rm_lenT h k
theorem rm_tupS {p : Addr} {ys : List V} (h : SqS K G p ys) (k : ∀ l G', Ex G G' → SqT K G' l ys → Q (.ref l) G') : RM U (rTupQ K [.ref p]) G Q :=
  h.elim (fun h => rm_tupL h fun l G' _ e g => k l G' e (st_of g)) fun h => rm_tupT h (k p G (Ex.refl G) h)
/-! ### making -/
theorem J.writeX {H G H' : Hp} {p : Addr} {o' : HO} (j : J U H G) (hk : ∀ b o, b ≠ p → H b = some o → H' b = some o) (hp : H' p = some o') (h : ∃ o, G p = some o) (g : U.Ge p = none) : J U H' (upd G p o') := by
  obtain ⟨o, h⟩ := h
  exact {
    up := fun a u e => by
      by_cases z : a = p
      · subst z; rw [upd_same] at e; rw [hp]; exact e
      · rw [upd_ne z] at e; exact hk a u z (j.up a u e)
    keep := fun a u e => by
      have : a ≠ p := fun z => by
        subst z
        rw [j.new a (by rw [h]; exact fun q => by cases q) g] at e; cases e
      exact hk a u this (j.keep a u e)
    new := fun a e q => by
      by_cases z : a = p
      · subst z; exact j.new a (by rw [h]; exact fun q => by cases q) q
      · rw [upd_ne z] at e; exact j.new a e q
    hid := U.st H _ j.hid fun a ma => by
      have q := (j.msk a ma)
      have : a ≠ p := fun z => by subst z; rw [h] at q; cases q.1
      cases z : H a with
      | none => exact absurd z q.2
      | some o => rw [hk a o this z]
    msk := fun a ma => by
      obtain ⟨q1, q2⟩ := j.msk a ma
      have : a ≠ p := fun z => by subst z; rw [h] at q1; cases q1
      rw [upd_ne this]
      refine ⟨q1, ?_⟩
      cases z : H a with
      | none => exact absurd z q2
      | some o => rw [hk a o this z]; exact fun q => by cases q }
theorem em_makeI {C : Addr} {fs : List (Str × V)} {sp : Sp} {E : XK} {tas : TA} (h : AM U tas σ G fun vs G1 => (∀ x dx H QI EI, H x = some (.ins C dx []) → (∀ H', (∀ b o, b ≠ x → H b = some o → H' b = some o) → H' x = some (.ins C dx fs) → QI .non H') → sp (.ref x :: vs) H QI EI) ∧
    ∀ x dx G2, G1 x = none → Ex G1 G2 → G2 x = some (.ins C dx fs) → Q (.ref x) G2) : EM U (tMake C sp [] E tas) σ G Q := fun H j QH q =>
  h H j _ fun vs H1 G1 j1 ⟨hi, hk⟩ x dx nx ndx ne => by
    show sp (.ref x :: (vs ++ [])) _ _ _
    rw [List.append_nil]
    have n2 : upd H1 dx (.own x) x = none := by rw [upd_ne (Ne.symm ne)]; exact nx
    have j2 := (j1.alloc (o := .own x) ndx).alloc (o := .ins C dx []) n2
    refine hi x dx _ _ _ upd_same fun H' hk' hx' => ⟨rfl, ?_⟩
    have gx : U.Ge x = none ∨ U.Ge x ≠ none := by cases U.Ge x <;> simp
    have gn : G1 x = none := j1.free nx
    refine q _ H' _ (?_ : J U H' (upd (upd G1 dx (.own x)) x (.ins C dx fs))) (hk x dx _ gn (fun a o e => ?_) upd_same)
    · have e1 : upd (upd (upd G1 dx (.own x)) x (.ins C dx [])) x (.ins C dx fs) = upd (upd G1 dx (.own x)) x (.ins C dx fs) := upd_upd
      exact {
        up := fun a u e => by
          by_cases z : a = x
          · subst z; rw [upd_same] at e; rw [hx']; exact e
          · rw [upd_ne z] at e; exact hk' a u z (j2.up a u (by rw [upd_ne z]; exact e))
        keep := fun a u e => by
          have e0 := j1.keep a u e
          have na : a ≠ x := ne_of_none e0 nx
          exact hk' a u na (j2.keep a u e)
        new := fun a e q => by
          by_cases z : a = x
          · subst z; exact none_of_ex j1.keep nx
          · exact j2.new a (by rw [upd_ne z] at e ⊢; exact e) q
        hid := U.st _ _ j2.hid fun a ma => by
          have q := j2.msk a ma
          have na : a ≠ x := fun z => by subst z; rw [upd_same] at q; cases q.1
          cases z : upd (upd H1 dx (HO.own x)) x (HO.ins C dx []) a with
          | none => exact absurd z q.2
          | some o => rw [hk' a o na z]
        msk := fun a ma => by
          obtain ⟨q1, q2⟩ := j2.msk a ma
          have na : a ≠ x := fun z => by subst z; rw [upd_same] at q1; cases q1
          refine ⟨by rw [upd_ne na] at q1 ⊢; exact q1, ?_⟩
          cases z : upd (upd H1 dx (HO.own x)) x (HO.ins C dx []) a with
          | none => exact absurd z q2
          | some o => rw [hk' a o na z]; exact fun q => by cases q }
    · have na : a ≠ x := ne_of_none e gn
      have nd : a ≠ dx := ne_of_none e (j1.free ndx)
      rw [upd_ne na, upd_ne nd]; exact e
/-! ### a law's own defs that draw -/
end
def spS (K : PySem.W.Frag) (pre : List V → Hp → Prop) (post : List V → V → Hp → Prop) : Sp := fun vs H Q _ => ∃ (st sc : Addr) (ns : List Int) (rest : List V) (G : Hp), vs = .ref st :: .ref sc :: rest ∧ StAt H st ∧ G st = none ∧ Ex G H ∧ SqL K G sc (ns.map V.int) ∧ pre rest G ∧
  ∀ v H' G', (∀ x o, x ≠ st → H x = some o → H' x = some o) → StAt H' st → Ex G G' → Ex G' H' → (∀ a, G' a ≠ none → G a = none → H a = none) → G' st = none → post rest v G' → Q v H'
/-- the view of such a def -/
def VS (st : Addr) (H G : Hp) : Vx := ⟨wo st H, G, fun H' => StAt H' st, fun a => a = st, fun H1 H2 ⟨a, b, e, h⟩ k => ⟨a, b, by rw [k st rfl]; exact e, h⟩⟩
theorem VS.draw {st : Addr} {H G : Hp} : DrawOk (VS st H G) st := ⟨rfl, wo_same, fun _ i => i, fun _ _ _ _ s => s⟩
theorem VS.start {st : Addr} {H G : Hp} (s : StAt H st) (g : G st = none) (e : Ex G H) : J (VS st H G) H G := ⟨e, wo_ex, fun a q z => absurd z q, s, fun a z => by
  have z' : a = st := z
  subst z'
  obtain ⟨x, y, h, _⟩ := s
  exact ⟨g, by rw [h]; exact fun q => by cases q⟩⟩
section
variable {U : Vx} {σ : L2.St} {G : Hp} {Q : VK} {K : PySem.W.Frag}
theorem kv_s {st : Addr} {H0 G0 : Hp} {p : V → Hp → Prop} {v : V} (k : ∀ v H' G', (∀ x o, x ≠ st → H0 x = some o → H' x = some o) → StAt H' st → Ex G0 G' → Ex G' H' → (∀ a, G' a ≠ none → G0 a = none → H0 a = none) → G' st = none → p v G' → Q v H') (e : Ex G0 G) (h : p v G) : KV (VS st H0 G0) Q v G := fun H j =>
  k v H G (fun x o nx ex => j.keep x o (by show wo st H0 x = some o; rw [wo_ne nx]; exact ex)) j.hid e j.up (fun a q z => by
    have n := j.new a q z
    have na : a ≠ st := fun w => by subst w; exact q (j.msk a rfl).1
    have n' : wo st H0 a = none := n
    rw [wo_ne na] at n'; exact n') (j.msk st rfl).1 h
theorem cm_s {pre : List V → Hp → Prop} {post : List V → V → Hp → Prop} {st sc : Addr} {ns : List Int} {rest : List V} (d : DrawOk U st) (hs : SqL K G sc (ns.map V.int)) (h : pre rest G) (k : ∀ v G', Ex G G' → post rest v G' → Q v G') : CM U (spS K pre post) (.ref st :: .ref sc :: rest) G Q := fun H j QH q E => by
  have gs := (j.msk st d.m).1
  refine ⟨st, sc, ns, rest, G, rfl, d.at_ H j.hid, gs, j.up, hs, h, fun v H' G' hx hst e1 e2 hn gn hp => q v H' G' ?_ (k v G' e1 hp)⟩
  obtain ⟨a0, b0, est, _⟩ := hst
  exact {
    up := e2
    keep := fun x o ex => hx x o (fun z => by subst z; rw [d.ne] at ex; cases ex) (j.keep x o ex)
    new := fun a z g => by
      cases w : G a with
      | none => exact none_of_ex j.keep (hn a z w)
      | some o => exact j.new a (by rw [w]; exact fun q => by cases q) g
    hid := d.to H H' j.hid (fun x mx nx => by
      cases z : H x with
      | none => exact absurd z (j.msk x mx).2
      | some o => exact hx x o nx z) ⟨a0, b0, est, by assumption⟩
    msk := fun x mx => by
      refine ⟨?_, ?_⟩
      · cases z : G' x with
        | none => rfl
        | some o => exact absurd (hn x (by rw [z]; exact fun q => by cases q) (j.msk x mx).1) (j.msk x mx).2
      · by_cases nx : x = st
        · subst nx; rw [est]; exact fun q => by cases q
        · cases z : H x with
          | none => exact absurd z (j.msk x mx).2
          | some o => rw [hx x o nx z]; exact fun q => by cases q }
end
/-! ### promises over a datum -/
def spA {α : Type} (pre : α → List V → Hp → Prop) (post : α → V → Hp → Prop) : Sp := fun vs H Q _ => ∃ (x : α) (G : Hp), Ex G H ∧ pre x vs G ∧ ∀ v H' G', Ex H H' → Ex G G' → Ex G' H' → (∀ a, G' a ≠ none → G a = none → H a = none) → post x v G' → Q v H'
def spSA {α : Type} (K : PySem.W.Frag) (pre : α → List V → Hp → Prop) (post : α → V → Hp → Prop) : Sp := fun vs H Q _ => ∃ (x : α) (st sc : Addr) (ns : List Int) (rest : List V) (G : Hp), vs = .ref st :: .ref sc :: rest ∧ StAt H st ∧ G st = none ∧ Ex G H ∧ SqL K G sc (ns.map V.int) ∧ pre x rest G ∧
  ∀ v H' G', (∀ x o, x ≠ st → H x = some o → H' x = some o) → StAt H' st → Ex G G' → Ex G' H' → (∀ a, G' a ≠ none → G a = none → H a = none) → G' st = none → post x v G' → Q v H'
section
variable {U : Vx} {σ : L2.St} {G : Hp} {Q : VK} {K : PySem.W.Frag} {α : Type}
theorem cm_a {pre : α → List V → Hp → Prop} {post : α → V → Hp → Prop} {vs : List V} (x : α) (h : pre x vs G) (k : ∀ v G', Ex G G' → post x v G' → Q v G') : CM U (spA pre post) vs G Q := fun H j QH q E =>
  ⟨x, G, j.up, h, fun v H' G' e1 e2 e3 n p => q v H' G' (j.call e1 e3 n) (k v G' e2 p)⟩
theorem cm_sa {pre : α → List V → Hp → Prop} {post : α → V → Hp → Prop} {st sc : Addr} {ns : List Int} {rest : List V} (x : α) (d : DrawOk U st) (hs : SqL K G sc (ns.map V.int)) (h : pre x rest G) (k : ∀ v G', Ex G G' → post x v G' → Q v G') : CM U (spSA K pre post) (.ref st :: .ref sc :: rest) G Q := fun H j QH q E =>
  have c := cm_s (K := K) (pre := pre x) (post := fun _ => post x) d hs h k H j QH q E
  let ⟨st', sc', ns', rest', G', e, r⟩ := c
  ⟨x, st', sc', ns', rest', G', e, r⟩
end
theorem ifNT {A B : Prop} (h : B) : if (!true) = true then A else B := h
theorem ifNF {A B : Prop} (h : A) : if (!false) = true then A else B := h
theorem kg_tup {X : Cx} {K : PySem.W.Frag} {es : List Expr} {k n : Nat} {t : TGs} {pos : Pos} (hc : X.calm = true) (h : PGs X es t) (hn : (assignEach es X.env).length = n := by rfl) (hst : (assignEach es X.env).findIdx? (·.1) = none := by rfl) (hk : X.K = K := by rfl) : PG X (.Tuple es k pos) (gTup K n t) := by
  subst hk; exact pg_tup hc h hn hst
section
variable {U : Vx} {σ : L2.St} {G : Hp} {Q : VK} {K : PySem.W.Frag} {QG : L2.St → Hp → Prop} {g : TG} {gs : TGs}
def GsM (U : Vx) (g : TGs) (vs : List V) (σ : L2.St) (G : Hp) (Q : L2.St → Hp → Prop) : Prop := ∀ H, J U H G → ∀ QH : L2.St → Hp → Prop, (∀ σ' H' G', J U H' G' → Q σ' G' → QH σ' H') → g vs σ H QH
theorem gm_tup {a : Addr} {xs : List V} {n : Nat} (h : SqT K G a xs) (hl : xs.length = n) (k : GsM U gs xs σ G QG) : GM U (gTup K n gs) (.ref a) σ G QG := fun H j QH q => ⟨a, xs, rfl, ex_t j.up h, hl, k H j QH q⟩
theorem gs_nil (k : QG σ G) : GsM U gNil [] σ G QG := fun H j QH q => ⟨rfl, q _ _ _ j k⟩
theorem gs_cons {v : V} {vs : List V} (k : GM U g v σ G fun σ' G' => GsM U gs vs σ' G' QG) : GsM U (gCons g gs) (v :: vs) σ G QG := fun H j QH q => ⟨v, vs, rfl, k H j _ fun σ' H' G' j' k' => k' H' j' QH q⟩
end
section
variable {U : Vx} {σ : L2.St} {G : Hp} {Q : VK} {K : PySem.W.Frag} {te : TE} {tt : TT}
/-- over a tuple that stands -/
theorem em_lcT {tl : TE} {g : TG} {vs : List Nat} (h : EM U tl σ G fun w G1 => ∃ a xs, w = .ref a ∧ SqT K G1 a xs ∧ xs.length < 16000000 ∧ ∃ P : Nat → List V → Hp → Prop, P 0 [] G1 ∧ (∀ i acc G', P i acc G' → acc.length ≤ i ∧ SqT K G' a xs) ∧
    (∀ (i : Nat) x acc G' (D : Addr) (U' : Vx), U' = U.hide D (.lst acc) → ¬ U.m D → xs[i]? = some x → P i acc G' → GM U' g x (wipe σ vs) G' fun σ2 G0 => wipe σ2 vs = wipe σ vs ∧ TM U' tt σ2 G0 fun b G2 => if b = true then EM U' te σ2 G2 fun y G3 => P (i + 1) (acc ++ [y]) G3 else P (i + 1) acc G2) ∧
    (∀ acc D G' G'', P xs.length acc G' → Ex G' G'' → G' D = none → G'' D = some (.lst acc) → Q (.ref D) G'')) : EM U (tLc (iTup K tl) g tt te vs) σ G Q := fun H j QH q =>
  h H j _ fun w H1 G1 j1 ⟨a, xs, e, hx, hlen, P, h0, hz, hs, hd⟩ => ⟨a, e, ⟨xs, ex_t j1.up hx⟩, fun D hD => by
    have nm : ¬ U.m D := fun z => (j1.msk D z).2 hD
    have nh : U.He D = none := none_of_ex j1.keep hD
    refine lc_tup (K := K) (a := a) (xs := xs) (fun i H' => i ≤ xs.length ∧ ∃ acc G', J (U.hide D (.lst acc)) H' G' ∧ P i acc G') ⟨Nat.zero_le _, [], G1, ?_, h0⟩ (fun i H' _ ⟨_, acc, G', j', p⟩ => ex_t j'.up (hz i acc G' p).2) (fun i x H' hi ⟨_, acc, G', j', p⟩ => ?_) (fun H' ⟨_, acc, G', j', p⟩ => ?_)
    · have ja := j1.alloc (o := .lst []) hD
      refine ⟨fun a u e => ?_, ja.keep, j1.new, ⟨ja.hid, upd_same⟩, fun a ma => ?_⟩
      · rw [upd_ne (fun z => by subst z; rw [j1.free hD] at e; cases e)]; exact j1.up a u e
      · rcases ma with ma | rfl
        · obtain ⟨q1, q2⟩ := j1.msk a ma
          refine ⟨q1, ?_⟩
          rw [upd_ne (fun z => by subst z; exact q2 hD)]; exact q2
        · exact ⟨j1.free hD, by rw [upd_same]; exact fun q => by cases q⟩
    · have hil : i < xs.length := (List.getElem?_eq_some_iff.mp hi).1
      refine hs i x acc G' D _ rfl nm hi p H' j' _ fun σ2 H2 G2 j2 ⟨w2, k2⟩ => ⟨w2, k2 H2 j2 _ fun b H3 G3 j3 h3 => ?_⟩
      cases b with
      | true =>
        rw [if_pos rfl] at h3 ⊢
        refine h3 H3 j3 _ fun y H4 G4 j4 h4 => ⟨acc, j4.hid.2, ?_, hil, acc ++ [y], G4, j4.rehide nm nh, h4⟩
        have := (hz i acc G' p).1
        exact Nat.lt_of_le_of_lt this (Nat.lt_of_lt_of_le (show i < 16000000 by omega) (by decide))
      | false =>
        rw [if_neg Bool.false_ne_true] at h3 ⊢
        exact ⟨hil, acc, G3, j3, h3⟩
    · have gd : G' D = none := (j'.msk D (.inr rfl)).1
      exact q _ _ _ (j'.unhide nm nh) (hd acc D G' _ p (Ex.new gd) gd upd_same)⟩
theorem em_mapT {tl : TE} {g : TG} {vs : List Nat} (v : V → V) (h : EM U tl σ G fun w G1 => ∃ a xs, w = .ref a ∧ SqT K G1 a xs ∧ xs.length < 16000000 ∧
    (∀ (i : Nat) x G' (U' : Vx), Ex G1 G' → xs[i]? = some x → GM U' g x (wipe σ vs) G' fun σ2 G2 => wipe σ2 vs = wipe σ vs ∧ Ex G' G2 ∧ EM U' te σ2 G2 fun y G3 => y = v x ∧ Ex G2 G3) ∧
    (∀ D G'', Ex G1 G'' → G1 D = none → G'' D = some (.lst (xs.map v)) → Q (.ref D) G'')) : EM U (tLc (iTup K tl) g tYes te vs) σ G Q := by
  refine em_lcT (fun H j QH q => h H j QH fun w H' G1 j1 ⟨a, xs, e, hx, hlen, hs, hd⟩ => q w H' G1 j1 ⟨a, xs, e, hx, hlen, fun i acc G' => i ≤ xs.length ∧ acc = (xs.take i).map v ∧ Ex G1 G', ⟨Nat.zero_le _, rfl, Ex.refl G1⟩, fun i acc G' p => ⟨by rw [p.2.1, List.length_map, List.length_take]; omega, ex_t p.2.2 hx⟩, ?_, ?_⟩)
  · intro i x acc G' D U' _ _ hi ⟨p0, p1, p2⟩ H j QT qt
    have hil : i < xs.length := (List.getElem?_eq_some_iff.mp hi).1
    refine hs i x G' U' p2 hi H j _ fun σ2 H1 G2 j1 ⟨hw, e1, k⟩ => qt σ2 H1 G2 j1 ⟨hw, tm_yes ?_⟩
    rw [if_pos rfl]
    intro H2 j2 QE qe
    refine k H2 j2 _ fun y H3 G3 j3 ⟨hy, e3⟩ => qe y H3 G3 j3 ⟨hil, ?_, (p2.trans e1).trans e3⟩
    rw [p1, hy, List.take_add_one, hi]
    simp
  · intro acc D G' G'' ⟨_, p1, p2⟩ e g1 g2
    refine hd D G'' (p2.trans e) (none_of_ex p2 g1) ?_
    rw [p1, List.take_length] at g2; exact g2
end
/-! ### slices, None, texts -/
section
variable {U : Vx} {σ : L2.St} {G : Hp} {Q : VK} {K : PySem.W.Frag} {te : TE} {tl th : TO} {x : V}
def OM (U : Vx) (to : TO) (σ : L2.St) (G : Hp) (Q : Option Int → Hp → Prop) : Prop := ∀ H, J U H G → ∀ QH : Option Int → Hp → Prop, (∀ v H' G', J U H' G' → Q v G' → QH v H') → to σ H QH
theorem om_none {QO : Option Int → Hp → Prop} (k : QO none G) : OM U tNoPart σ G QO := fun H j QH q => q _ _ _ j k
theorem om_some {QO : Option Int → Hp → Prop} (h : EM U te σ G fun x G1 => IV x fun i => QO (some i) G1) : OM U (tPart te) σ G QO := fun H j QH q => h H j _ fun x H1 G1 j1 ⟨i, e, k⟩ => ⟨i, e, q _ _ _ j1 k⟩
theorem em_sl {r : V → Option Int → Option Int → Hp → VK → Prop} (h : EM U te σ G fun x G1 => OM U tl σ G1 fun l G2 => OM U th σ G2 fun u G3 => RM U (r x l u) G3 Q) : EM U (tSl r te tl th) σ G Q := fun H j QH q =>
  h H j _ fun x H1 G1 j1 h1 => h1 H1 j1 _ fun l H2 G2 j2 h2 => h2 H2 j2 _ fun u H3 G3 j3 h3 => h3 H3 j3 QH q
theorem rm_slT {a : Addr} {xs : List V} {lo hi : Option Int} (h : SqT K G a xs) (hn : ¬ (HT.sIx xs.length 0 lo = 0 ∧ HT.sIx xs.length xs.length hi = xs.length)) (k : ∀ p G', Ex G G' → G' p = some (.tup (cutV xs lo hi)) → Q (.ref p) G') : RM U (rSlT K (.ref a) lo hi) G Q :=
  fun H j _ q => ⟨a, xs, rfl, ex_t j.up h, hn, fun p hp => q _ _ _ (j.alloc hp) (k p _ (Ex.new (j.free hp)) upd_same)⟩
theorem rm_slL {a : Addr} {xs : List V} {lo hi : Option Int} (h : SqL K G a xs) (k : ∀ p G', G p = none → Ex G G' → G' p = some (.lst (cutV xs lo hi)) → Q (.ref p) G') : RM U (rSlL K (.ref a) lo hi) G Q :=
  fun H j _ q => ⟨a, xs, rfl, ex_l j.up h, fun p hp => q _ _ _ (j.alloc hp) (k p _ (j.free hp) (Ex.new (j.free hp)) upd_same)⟩
theorem rm_isN_ref {a : Addr} (k : Q (.bl false) G) : RM U (rIsN (.ref a) .non) G Q := fun H j _ q => ⟨rfl, q _ _ _ j k⟩
theorem rm_isN_non (k : Q (.bl true) G) : RM U (rIsN .non .non) G Q := fun H j _ q => ⟨rfl, q _ _ _ j k⟩
theorem rm_isN_int {i : Int} (k : Q (.bl false) G) : RM U (rIsN (.int i) .non) G Q := fun H j _ q => ⟨rfl, q _ _ _ j k⟩
theorem rm_notN_ref {a : Addr} (k : Q (.bl true) G) : RM U (rNotN (.ref a) .non) G Q := fun H j _ q => ⟨rfl, q _ _ _ j k⟩
theorem rm_notN_non (k : Q (.bl false) G) : RM U (rNotN .non .non) G Q := fun H j _ q => ⟨rfl, q _ _ _ j k⟩
theorem rm_notN_int {i : Int} (k : Q (.bl true) G) : RM U (rNotN (.int i) .non) G Q := fun H j _ q => ⟨rfl, q _ _ _ j k⟩
theorem rm_eqS {s t : Str} (k : Q (.bl (decide (s = t))) G) : RM U (rEq (.str s) (.str t)) G Q := rm_eq rfl (by
  have e : decide (V.str s = V.str t) = decide (s = t) := by simp
  rw [e]; exact k)
theorem rm_neS {s t : Str} (k : Q (.bl (!decide (s = t))) G) : RM U (rNe (.str s) (.str t)) G Q := rm_ne rfl (by
  have e : decide (V.str s = V.str t) = decide (s = t) := by simp
  rw [e]; exact k)
theorem rm_eqB {s t : Bool} (k : Q (.bl (decide (s = t))) G) : RM U (rEq (.bl s) (.bl t)) G Q := rm_eq rfl (by
  have e : decide (V.bl s = V.bl t) = decide (s = t) := by simp
  rw [e]; exact k)
theorem rm_neB {s t : Bool} (k : Q (.bl (!decide (s = t))) G) : RM U (rNe (.bl s) (.bl t)) G Q := rm_ne rfl (by
  have e : decide (V.bl s = V.bl t) = decide (s = t) := by simp
  rw [e]; exact k)
end
/-! ### one hidden object that a def may change, kept good -/
structure HidOk (U : Vx) (a : Addr) (P : HO → Prop) : Prop where
  m : U.m a
  ne : U.He a = none
  at_ : ∀ H, U.I H → ∃ o, H a = some o ∧ P o
  to : ∀ H H', U.I H → (∀ x, U.m x → x ≠ a → H' x = H x) → (∃ o, H' a = some o ∧ P o) → U.I H'
def Vx.hid (U : Vx) (a : Addr) (P : HO → Prop) : Vx := ⟨U.He, U.Ge, fun H => U.I H ∧ ∃ o, H a = some o ∧ P o, fun x => U.m x ∨ x = a, fun H H' ⟨i, o, h, p⟩ e => ⟨U.st H H' i fun x mx => e x (.inl mx), o, by rw [e a (.inr rfl)]; exact h, p⟩⟩
theorem HidOk.self {U : Vx} {a : Addr} {P : HO → Prop} (hm : ¬ U.m a) (hn : U.He a = none) : HidOk (U.hid a P) a P where
  m := .inr rfl
  ne := hn
  at_ := fun _ i => i.2
  to := fun H H' i e h => ⟨U.st H H' i.1 fun x mx => e x (.inl mx) (fun z => by subst z; exact hm mx), h⟩
theorem HidOk.hide {U : Vx} {a D : Addr} {P : HO → Prop} {o : HO} (d : HidOk U a P) (h : ¬ U.m D) : HidOk (U.hide D o) a P where
  m := .inl d.m
  ne := d.ne
  at_ := fun H i => d.at_ H i.1
  to := fun H H' i e s => ⟨d.to H H' i.1 (fun x mx nx => e x (.inl mx) nx) s, by
    rw [e D (.inr rfl) (fun z => by subst z; exact h d.m)]; exact i.2⟩
theorem DrawOk.hid {U : Vx} {st D : Addr} {P : HO → Prop} (d : DrawOk U st) (h : ¬ U.m D) : DrawOk (U.hid D P) st where
  m := .inl d.m
  ne := d.ne
  at_ := fun H i => d.at_ H i.1
  to := fun H H' i e s => ⟨d.to H H' i.1 (fun x mx nx => e x (.inl mx) nx) s, by
    rw [e D (.inr rfl) (fun z => by subst z; exact h d.m)]; exact i.2⟩
def spM {α : Type} (hid : α → Addr) (P : α → HO → Prop) (pre : α → List V → Hp → Prop) (post : α → V → Hp → Prop) : Sp := fun vs H Q _ => ∃ (x : α) (G : Hp) (o : HO), H (hid x) = some o ∧ P x o ∧ G (hid x) = none ∧ Ex G H ∧ pre x vs G ∧
  ∀ v H' G' o', (∀ y u, y ≠ hid x → H y = some u → H' y = some u) → H' (hid x) = some o' → P x o' → Ex G G' → Ex G' H' → (∀ a, G' a ≠ none → G a = none → H a = none) → G' (hid x) = none → post x v G' → Q v H'
def VM (a : Addr) (P : HO → Prop) (H G : Hp) : Vx := ⟨wo a H, G, fun H' => ∃ o, H' a = some o ∧ P o, fun x => x = a, fun H1 H2 ⟨o, e, h⟩ k => ⟨o, by rw [k a rfl]; exact e, h⟩⟩
theorem VM.ok {a : Addr} {P : HO → Prop} {H G : Hp} : HidOk (VM a P H G) a P := ⟨rfl, wo_same, fun _ i => i, fun _ _ _ _ s => s⟩
theorem VM.start {a : Addr} {P : HO → Prop} {H G : Hp} {o : HO} (h : H a = some o) (p : P o) (g : G a = none) (e : Ex G H) : J (VM a P H G) H G := ⟨e, wo_ex, fun x q z => absurd z q, ⟨o, h, p⟩, fun x z => by
  have z' : x = a := z
  subst z'
  exact ⟨g, by rw [h]; exact fun q => by cases q⟩⟩
section
variable {U : Vx} {σ : L2.St} {G : Hp} {Q : VK} {K : PySem.W.Frag} {α : Type}
theorem kv_m {a : Addr} {P : HO → Prop} {H0 G0 : Hp} {p : V → Hp → Prop} {v : V} (k : ∀ v H' G' o', (∀ y u, y ≠ a → H0 y = some u → H' y = some u) → H' a = some o' → P o' → Ex G0 G' → Ex G' H' → (∀ x, G' x ≠ none → G0 x = none → H0 x = none) → G' a = none → p v G' → Q v H') (e : Ex G0 G) (h : p v G) : KV (VM a P H0 G0) Q v G := fun H j => by
  obtain ⟨o, ho, po⟩ := j.hid
  refine k v H G o (fun x o nx ex => j.keep x o (by show wo a H0 x = some o; rw [wo_ne nx]; exact ex)) ho po e j.up (fun x q z => ?_) (j.msk a rfl).1 h
  have n := j.new x q z
  have na : x ≠ a := fun w => by subst w; exact q (j.msk x rfl).1
  have n' : wo a H0 x = none := n
  rw [wo_ne na] at n'; exact n'
theorem J.hidden_call {a : Addr} {P : HO → Prop} {H H' G' : Hp} {o' : HO} (d : HidOk U a P) (j : J U H G) (hx : ∀ y u, y ≠ a → H y = some u → H' y = some u) (ho : H' a = some o') (hp : P o') (e2 : Ex G' H') (hn : ∀ x, G' x ≠ none → G x = none → H x = none) : J U H' G' where
  up := e2
  keep := fun x o ex => hx x o (fun z => by subst z; rw [d.ne] at ex; cases ex) (j.keep x o ex)
  new := fun x z g => by
    cases w : G x with
    | none => exact none_of_ex j.keep (hn x z w)
    | some o => exact j.new x (by rw [w]; exact fun q => by cases q) g
  hid := d.to H H' j.hid (fun x mx nx => by
    cases z : H x with
    | none => exact absurd z (j.msk x mx).2
    | some o => exact hx x o nx z) ⟨o', ho, hp⟩
  msk := fun x mx => by
    refine ⟨?_, ?_⟩
    · cases z : G' x with
      | none => rfl
      | some o => exact absurd (hn x (by rw [z]; exact fun q => by cases q) (j.msk x mx).1) (j.msk x mx).2
    · by_cases nx : x = a
      · subst nx; rw [ho]; exact fun q => by cases q
      · cases z : H x with
        | none => exact absurd z (j.msk x mx).2
        | some o => rw [hx x o nx z]; exact fun q => by cases q
theorem cm_m {hid : α → Addr} {P : α → HO → Prop} {pre : α → List V → Hp → Prop} {post : α → V → Hp → Prop} {vs : List V} (x : α) (d : HidOk U (hid x) (P x)) (h : pre x vs G) (k : ∀ v G', Ex G G' → post x v G' → Q v G') : CM U (spM hid P pre post) vs G Q := fun H j QH q E => by
  obtain ⟨o, ho, po⟩ := d.at_ H j.hid
  exact ⟨x, G, o, ho, po, (j.msk _ d.m).1, j.up, h, fun v H' G' o' hx ho' po' e1 e2 hn gn hp => q v H' G' (J.hidden_call d j hx ho' po' e2 hn) (k v G' e1 hp)⟩
/-- over enumerate(xs): a new pair each turn -/
theorem em_mapE {ta : TA} {te : TE} {i0 i1 : Nat} {vs : List Nat} (v : Nat → V → V) (h : AM U ta σ G fun ws G1 => ∃ a xs, ws = [.ref a] ∧ SqL K G1 a xs ∧ xs.length < 16000000 ∧
    (∀ x y, wipe (((wipe σ vs).set i0 (some x)).set i1 (some y)) vs = wipe σ vs) ∧
    (∀ (i : Nat) x G' (D : Addr) (acc : List V) (U' : Vx), U' = U.hide D (.lst acc) → ¬ U.m D → Ex G1 G' → xs[i]? = some x → EM U' te (((wipe σ vs).set i0 (some (.int (i : Int)))).set i1 (some x)) G' fun y G3 => y = v i x ∧ Ex G' G3) ∧
    (∀ D G'', Ex G1 G'' → G1 D = none → G'' D = some (.lst ((List.range xs.length).map fun i => v i (xs.getD i .non))) → Q (.ref D) G'')) : EM U (tLc (iEnum K ta) (gTup K 2 (gCons (gName i0) (gCons (gName i1) gNil))) tYes te vs) σ G Q := fun H j QH q =>
  h H j _ fun ws H1 G1 j1 ⟨a, xs, e, hx, hlen, hw, hs, hd⟩ => ⟨a, xs, e, ex_l j1.up hx, fun D hD => by
    have nm : ¬ U.m D := fun z => (j1.msk D z).2 hD
    have nh : U.He D = none := none_of_ex j1.keep hD
    have wk : Walk (Ite K a) xs.length (fun H => SqL K H a xs) (fun i H v H' => ∃ T x, v = .ref T ∧ H T = none ∧ H' = upd H T (.tup [.int (i : Nat), x]) ∧ xs[i]? = some x) :=
      ⟨fun i H hi hq => ⟨xs, xs[i], hq, by simp [hi]⟩, fun H hq => ⟨xs, hq, Nat.le_refl _⟩, fun i H x H' hi hq ⟨T, y, e1, e2, e3, e4⟩ => ⟨T, y, e1, e2, e3, e4 xs hq⟩⟩
    refine lc_it wk (fun i H' => i ≤ xs.length ∧ ∃ G', J (U.hide D (.lst ((List.range i).map fun i => v i (xs.getD i .non)))) H' G' ∧ Ex G1 G') ⟨Nat.zero_le _, G1, ?_, Ex.refl _⟩ (fun i H' _ ⟨_, G', j', e'⟩ => ex_l j'.up (ex_l e' hx)) (fun i x H' H'' hi ⟨_, G', j', e'⟩ ⟨T, y, ex, hT, eH, hy⟩ => ?_) (fun H' ⟨_, G', j', e'⟩ => ?_)
    · have ja := j1.alloc (o := .lst []) hD
      refine ⟨fun a u e => ?_, ja.keep, j1.new, ⟨ja.hid, upd_same⟩, fun a ma => ?_⟩
      · rw [upd_ne (fun z => by subst z; rw [j1.free hD] at e; cases e)]; exact j1.up a u e
      · rcases ma with ma | rfl
        · obtain ⟨q1, q2⟩ := j1.msk a ma
          refine ⟨q1, ?_⟩
          rw [upd_ne (fun z => by subst z; exact q2 hD)]; exact q2
        · exact ⟨j1.free hD, by rw [upd_same]; exact fun q => by cases q⟩
    · subst ex eH
      have jT := j'.alloc (o := .tup [.int (i : Nat), y]) hT
      have gT := j'.free hT
      have e2 : Ex G' (upd G' T (.tup [.int (i : Nat), y])) := Ex.new gT
      refine ⟨T, [.int (i : Nat), y], rfl, SqT.of upd_same, rfl, _, _, rfl, _, _, rfl, rfl, hw _ _, ?_⟩
      show (if true = true then te (((wipe σ vs).set i0 (some (.int (i : Int)))).set i1 (some y)) (upd H' T (.tup [.int (i : Nat), y])) (fun y H4 => ∃ acc, H4 D = some (.lst acc) ∧ acc.length < sizeLine ∧ (i + 1 ≤ xs.length ∧ ∃ G', J (U.hide D (.lst ((List.range (i + 1)).map fun i => v i (xs.getD i .non)))) (upd H4 D (.lst (acc ++ [y]))) G' ∧ Ex G1 G')) else (i + 1 ≤ xs.length ∧ ∃ G'', J (U.hide D (.lst ((List.range (i + 1)).map fun i => v i (xs.getD i .non)))) (upd H' T (.tup [.int (i : Nat), y])) G'' ∧ Ex G1 G''))
      rw [if_pos rfl]
      refine hs i y _ D _ _ rfl nm (e'.trans e2) hy _ jT _ fun z H4 G4 j4 ⟨ez, e4⟩ => ⟨_, j4.hid.2, ?_, hi, G4, ?_, (e'.trans e2).trans e4⟩
      · rw [List.length_map, List.length_range]
        exact Nat.lt_of_lt_of_le (show i < 16000000 by omega) (by decide)
      · have je := j4.rehide (o' := .lst (((List.range i).map fun i => v i (xs.getD i .non)) ++ [z])) nm nh
        have el : (List.range (i + 1)).map (fun i => v i (xs.getD i .non)) = ((List.range i).map fun i => v i (xs.getD i .non)) ++ [z] := by
          rw [List.range_succ, List.map_append, ez]
          show _ ++ [v i (xs.getD i .non)] = _
          rw [List.getD_eq_getElem?_getD, hy]
          rfl
        rw [el]; exact je
    · have gd : G' D = none := (j'.msk D (.inr rfl)).1
      exact q _ _ _ (j'.unhide nm nh) (hd D _ (e'.trans (Ex.new gd)) (none_of_ex e' gd) upd_same)⟩
end
theorem nodup_len {α : Type} [DecidableEq α] : ∀ (ks L : List α), ks.Nodup → (∀ k ∈ ks, k ∈ L) → ks.length ≤ L.length
  | [], _, _, _ => Nat.zero_le _
  | k :: ks, L, h, s => by
    have hk := s k (by simp)
    have h1 := List.nodup_cons.mp h
    have ih := nodup_len ks (L.erase k) h1.2 fun x hx => (List.mem_erase_of_ne (fun e => by subst e; exact h1.1 hx)).mpr (s x (by simp [hx]))
    rw [List.length_erase_of_mem hk] at ih
    have := List.length_pos_of_mem hk
    rw [List.length_cons]
    omega
/-! ### fields stored, objects hidden on the way, instances made with an object of their own -/
section
variable {U : Vx} {σ : L2.St} {G : Hp} {Q : VK} {K : PySem.W.Frag} {ta tv te : TE} {ts : TS} {D : Ends}
theorem em_newT (k : ∀ p G', G p = none → Ex G G' → G' p = some (.dT []) → Q (.ref p) G') : EM U tDNewT σ G Q := fun H j QH q p hp => q _ _ _ (j.alloc hp) (k p _ (j.free hp) (Ex.new (j.free hp)) upd_same)
theorem em_newK (k : ∀ p G', G p = none → Ex G G' → G' p = some (.dK []) → Q (.ref p) G') : EM U tDNewK σ G Q := fun H j QH q p hp => q _ _ _ (j.alloc hp) (k p _ (j.free hp) (Ex.new (j.free hp)) upd_same)
theorem sm_fld {f : Str} (h : EM U tv σ G fun y G1 => EM U ta σ G1 fun x G2 => ∃ a C dx fs, x = .ref a ∧ G2 a = some (.ins C dx fs) ∧ Cls K C ∧ NoAttr K C f ∧ fs.length < 1000 ∧ U.Ge a = none ∧ KM U D.nx σ (upd G2 a (.ins C dx (putF f y fs)))) : SM U (sFld K ta tv f) D σ G := fun H j =>
  h H j _ fun y H1 G1 j1 h1 => h1 H1 j1 _ fun x H2 G2 j2 ⟨a, C, dx, fs, e, g, c, n, l, ge, k⟩ => ⟨a, C, dx, fs, e, j2.up _ _ g, c, n, l, k _ (j2.write g ge)⟩
theorem J.mask {H : Hp} {d : Addr} {P : HO → Prop} {o : HO} (j : J U H G) (h : G d = some o) (p : P o) (hn : U.Ge d = none) : J (U.hid d P) H (wo d G) where
  up := fun a u e => by
    by_cases z : a = d
    · rw [z, wo_same] at e; cases e
    · rw [wo_ne z] at e; exact j.up a u e
  keep := j.keep
  new := fun a q g => by
    by_cases z : a = d
    · rw [z, wo_same] at q; exact absurd rfl q
    · rw [wo_ne z] at q; exact j.new a q g
  hid := ⟨j.hid, o, j.up _ _ h, p⟩
  msk := fun a ma => by
    rcases ma with ma | rfl
    · obtain ⟨q1, q2⟩ := j.msk a ma
      refine ⟨?_, q2⟩
      by_cases z : a = d
      · rw [z, wo_same]
      · rw [wo_ne z]; exact q1
    · exact ⟨wo_same, by rw [j.up _ _ h]; exact fun q => by cases q⟩
/-- an object of the def's own is hidden from here on, kept good -/
theorem sm_hide {d : Addr} (P : HO → Prop) {o : HO} (h : G d = some o) (p : P o) (hn : U.Ge d = none) (k : ∀ G1, (∀ a u, a ≠ d → G a = some u → G1 a = some u) → G1 d = none → (¬ U.m d) → U.He d = none → SM (U.hid d P) ts D σ G1) : SM U ts D σ G := fun H j =>
  k (wo d G) (fun a u z e => by rw [wo_ne z]; exact e) wo_same (fun m => by have := (j.msk d m).1; rw [h] at this; cases this) (j.new d (by rw [h]; exact fun q => by cases q) hn) H (j.mask h p hn)
theorem em_make2 {C : Addr} {fs : Addr → List (Str × V)} {P : HO → Prop} {sp : Sp} {E : XK} {tas : TA} (h : AM U tas σ G fun vs G1 => (∀ x dx H QI EI, Ex G1 H → H x = some (.ins C dx []) → G1 x = none → (∀ H' d o, (∀ b u, b ≠ x → H b = some u → H' b = some u) → H d = none → H' d = some o → P o → H' x = some (.ins C dx (fs d)) → QI .non H') → sp (.ref x :: vs) H QI EI) ∧
    ∀ x dx d o G2, G1 x = none → G1 d = none → d ≠ x → Ex G1 G2 → G2 x = some (.ins C dx (fs d)) → G2 d = some o → P o → Q (.ref x) G2) : EM U (tMake C sp [] E tas) σ G Q := fun H j QH q =>
  h H j _ fun vs H1 G1 j1 ⟨hi, hk⟩ x dx nx ndx ne => by
    show sp (.ref x :: (vs ++ [])) _ _ _
    rw [List.append_nil]
    have n2 : upd H1 dx (.own x) x = none := by rw [upd_ne (Ne.symm ne)]; exact nx
    have j2 := (j1.alloc (o := .own x) ndx).alloc (o := .ins C dx []) n2
    have gn : G1 x = none := j1.free nx
    have gdx : G1 dx = none := j1.free ndx
    have e12 : Ex G1 (upd (upd H1 dx (.own x)) x (.ins C dx [])) := fun a o e => by
      rw [upd_ne (ne_of_none e gn), upd_ne (ne_of_none e gdx)]; exact j1.up a o e
    refine hi x dx _ _ _ e12 upd_same gn fun H' d o hk' hd hd' hp hx' => ⟨rfl, ?_⟩
    have dx1 : d ≠ x := fun z => by rw [z, upd_same] at hd; cases hd
    have dx2 : d ≠ dx := fun z => by rw [z, upd_ne ne, upd_same] at hd; cases hd
    have hd1 : H1 d = none := by rw [upd_ne dx1, upd_ne dx2] at hd; exact hd
    refine q _ H' (upd (upd (upd G1 dx (.own x)) x (.ins C dx (fs d))) d o) ?_ (hk x dx d o _ gn (j1.free hd1) dx1 (fun a u e => ?_) ?_ upd_same hp)
    · exact {
        up := fun a u e => by
          by_cases z : a = d
          · subst z; rw [upd_same] at e; rw [hd']; exact e
          · rw [upd_ne z] at e
            by_cases z2 : a = x
            · subst z2; rw [upd_same] at e; rw [hx']; exact e
            · rw [upd_ne z2] at e; exact hk' a u z2 (j2.up a u (by rw [upd_ne z2]; exact e))
        keep := fun a u e => by
          have e0 := j1.keep a u e
          exact hk' a u (ne_of_none e0 nx) (j2.keep a u e)
        new := fun a e q => by
          by_cases z : a = d
          · subst z; exact none_of_ex j1.keep hd1
          · by_cases z2 : a = x
            · subst z2; exact none_of_ex j1.keep nx
            · exact j2.new a (by rw [upd_ne z, upd_ne z2] at e; rw [upd_ne z2]; exact e) q
        hid := U.st _ _ j2.hid fun a ma => by
          have q := j2.msk a ma
          have na : a ≠ x := fun z => by subst z; rw [upd_same] at q; cases q.1
          cases z : upd (upd H1 dx (HO.own x)) x (HO.ins C dx []) a with
          | none => exact absurd z q.2
          | some o => rw [hk' a o na z]
        msk := fun a ma => by
          obtain ⟨q1, q2⟩ := j2.msk a ma
          have na : a ≠ x := fun z => by subst z; rw [upd_same] at q1; cases q1
          have nd : a ≠ d := fun z => by subst z; exact q2 hd
          refine ⟨by rw [upd_ne na] at q1; rw [upd_ne nd, upd_ne na]; exact q1, ?_⟩
          cases z : upd (upd H1 dx (HO.own x)) x (HO.ins C dx []) a with
          | none => exact absurd z q2
          | some o => rw [hk' a o na z]; exact fun q => by cases q }
    · rw [upd_ne (ne_of_none e (j1.free hd1)), upd_ne (ne_of_none e gn), upd_ne (ne_of_none e gdx)]; exact e
    · rw [upd_ne (Ne.symm dx1)]; exact upd_same
/-- [e for i in range(n)], the items told by the turn, where e may change what is hidden -/
theorem em_mapR1H {ta : TA} {i0 : Nat} {vs : List Nat} (v : Nat → V) (h : AM U ta σ G fun ws G1 => ∃ n : Int, ws = [.int n] ∧ 0 ≤ n ∧ n ≤ 16000000 ∧ (∀ x, wipe ((wipe σ vs).set i0 (some x)) vs = wipe σ vs) ∧
    (∀ (i : Nat) G' (D : Addr) (acc : List V) (U' : Vx), U' = U.hide D (.lst acc) → ¬ U.m D → Ex G1 G' → (i : Int) < n → EM U' te ((wipe σ vs).set i0 (some (.int (i : Int)))) G' fun y G3 => y = v i ∧ Ex G' G3) ∧
    (∀ D G'', Ex G1 G'' → G1 D = none → G'' D = some (.lst ((List.range n.toNat).map v)) → Q (.ref D) G'')) : EM U (tLc (iRng1 ta) (gName i0) tYes te vs) σ G Q := by
  refine em_lcR1 (fun H j QH q => h H j QH fun ws H' G1 j1 ⟨n, e, b1, b2, hw, hs, hd⟩ => q ws H' G1 j1 ⟨n, e, b1, b2, hw, fun i acc G' => acc = (List.range i).map v ∧ Ex G1 G', ⟨rfl, Ex.refl G1⟩, fun i acc G' p => by rw [p.1]; simp, ?_, ?_⟩)
  · intro i acc G' D U' hU hm hi ⟨p1, p2⟩
    refine tm_yes ?_
    rw [if_pos rfl]
    intro H j QE qe
    refine hs i G' D acc U' hU hm p2 hi H j _ fun y H3 G3 j3 ⟨hy, e3⟩ => qe y H3 G3 j3 ⟨?_, p2.trans e3⟩
    rw [List.range_succ, List.map_append, p1, hy]; rfl
  · intro acc D G' G'' ⟨p1, p2⟩ e g1 g2
    refine hd D G'' (p2.trans e) (none_of_ex p2 g1) ?_
    rw [← p1]; exact g2
end
section
open PySem.Spec PyProof.Rows
/-! ### enumerate(tuple) -/
section
open PySem.AutoSeq1 (wpAny_loadPart')
theorem meets_enumerate_newT (l : Addr) (items : Array Value) (n : Nat) (dct : Option Addr) (sl : Array (Option Value)) :
    Meets (Builtin.«enumerate.__new__» ⟨[.type "enumerate", .ref l], []⟩) (fun _ R s => s.heap.get? l = some { cls := .type "tuple", dict := dct, data := .seq items n, slots := sl } ∧
      R (.ok (.ret (.ref (s.heap.push { cls := .type "tuple_iterator", data := .fields #[.ref l, .int 0 0] }).objs.size)))
        { s with heap := (s.heap.push { cls := .type "tuple_iterator", data := .fields #[.ref l, .int 0 0] }).push { cls := .type "enumerate", data := .fields #[.none, .bool false, .ref s.heap.objs.size, rawInt 0, .none, .none] } }) :=
  .of_wp fun prog w A R s h => by
    obtain ⟨hp, g, d, tk, os⟩ := s; obtain ⟨hl, h⟩ := h
    have hsub := sub_enumerate
    have hL : Heap.IsTuple (Shared.heap ⟨hp, g, d, tk, os⟩) l items := ⟨_, hl, rfl, n, rfl⟩
    wp_walk using wpAny_loadPart' hl
    refine wpAny_stack_any fun st => wpAny_pure ?_
    split
    · rename_i c _ _ _ _ _
      cases (c == Value.type "enumerate")
      · wp_walk using wpAny_loadPart' hl, wpAny_pyIter_tuple hL
        exact ⟨_, rfl, h⟩
      · wp_walk using wpAny_loadPart' hl, wpAny_pyIter_tuple hL
        exact ⟨_, rfl, h⟩
    · wp_walk using wpAny_loadPart' hl, wpAny_pyIter_tuple hL
      exact ⟨_, rfl, h⟩
theorem call_enumerate_tuple {prog : Program} {w : World} {A : Around} {E : Value → Shared → Prop} {s : Shared} {l : Addr} {items : Array Value} {Q : Value → Shared → Prop} (hL : s.heap.IsTuple l items)
    (h : ∀ h', IsEnum h' (s.heap.objs.size + 1) s.heap.objs.size 0 .none → h'.IsTupleIter s.heap.objs.size l 0 → h'.objs.size = s.heap.objs.size + 2 →
      (∀ b o, s.heap.get? b = some o → h'.get? b = some o) → Q (.ref (s.heap.objs.size + 1)) { s with heap := h' }) :
    wpAny (model prog w) A (call (.type "enumerate") [.ref l]) Q E s := by
  obtain ⟨⟨c, dct, dt, sl⟩, hl, hc, n, hd⟩ := hL
  replace hc : c = .type "tuple" := hc
  replace hd : dt = .seq items n := hd
  subst hc hd
  refine callType_new F.called_enumerate (by decide) (F.typeCall_enumerate_1 _) (F.newCall_enumerate_1 _) (fun obj => F.args_object_init_2 obj _) F.entry_enumerate_new
    (meets_enumerate_newT l items n dct sl) ⟨hl, ?_⟩
  have hz : (s.heap.push { cls := .type "tuple_iterator", data := .fields #[.ref l, .int 0 0] }).objs.size = s.heap.objs.size + 1 := Heap.size_push ..
  show _ ∧ _
  rw [hz]
  have he : IsEnum ((s.heap.push { cls := .type "tuple_iterator", data := .fields #[.ref l, .int 0 0] }).push
      { cls := .type "enumerate", data := .fields #[.none, .bool false, .ref s.heap.objs.size, rawInt 0, .none, .none] }) (s.heap.objs.size + 1) s.heap.objs.size 0 .none := by
    have := Heap.get?_push_size (s.heap.push { cls := .type "tuple_iterator", data := .fields #[.ref l, .int 0 0] })
      (o := { cls := .type "enumerate", data := .fields #[.none, .bool false, .ref s.heap.objs.size, rawInt 0, .none, .none] }) rfl
    rw [hz] at this; exact this
  refine ⟨⟨_, he, rfl⟩, h _ he ⟨_, Heap.get?_push_of_some _ (Heap.get?_push_size _ rfl), rfl, rfl⟩ (by rw [Heap.size_push, hz]) fun b o x => Heap.get?_push_of_some _ (Heap.get?_push_of_some _ x)⟩
def IteT (K : PySem.W.Frag) (a : Addr) : It :=
  ⟨fun i H => ∃ (xs : List V) (x : V), SqT K H a xs ∧ xs[i]? = some x, fun i H v H' => ∃ T x, v = .ref T ∧ H T = none ∧ H' = upd H T (.tup [.int (i : Nat), x]) ∧ ∀ xs, SqT K H a xs → xs[i]? = some x, fun i H => ∃ xs : List V, SqT K H a xs ∧ xs.length ≤ i⟩
theorem turn_enumT {P : Program} {w : World} {K : PySem.W.Frag} {elts : List Expr} {kk : Nat} {tpos : Pos} (a e it : Addr) :
    Turn P w K (.Tuple elts kk tpos) (IteT K a) [e, it] e (fun i h => (∃ old, IsEnum h e it ((i : Nat) : Int) old) ∧ h.IsTupleIter it a i ∧ e ≠ it ∧ a ≠ it ∧ e ≠ a) where
  mem := by simp
  obj := fun i h st b hb => by
    obtain ⟨⟨old, he⟩, ⟨o, ho, hc, hd⟩, _⟩ := st
    have e' : b = e ∨ b = it := by simpa using hb
    rcases e' with z | z
    · rw [z]; exact ⟨_, he, fun v q => nomatch q⟩
    · rw [z]; exact ⟨o, ho, fun v q => by rw [hd] at q; cases q⟩
  keep := fun i h h' st k => let ⟨⟨old, he⟩, hi, hne⟩ := st; ⟨⟨old, k e (by simp) _ he⟩, hi.at fun o q => k it (by simp) o q, hne⟩
  item := by
    intro X hP hw hK hc i pins s σ H E I hf st hg
    subst hP hw hK
    obtain ⟨⟨old, he⟩, hit, hne, hai, hea⟩ := st
    obtain ⟨xs, x, hq, hx⟩ := hg
    obtain ⟨its, rv, p, hz⟩ := I.tuple hq
    obtain ⟨u, hu, ru⟩ := rv.get hx
    have hel : e < s.heap.objs.size := Heap.lt_size he
    have hil : it < s.heap.objs.size := by obtain ⟨_, q, _⟩ := hit; exact Heap.lt_size q
    have D := Draws.tuple (prog := X.prog) (w := X.w) (A := X.A.in1) (I.ok.hd hc) it a hai its.toArray
    have hlt : i < its.toArray.size := by
      have := (List.getElem?_eq_some_iff.mp hu).1
      simpa using this
    refine wpAny_pyNext_enum_itemD D he ⟨hit, p⟩ hlt hne (by simp [hne, hea]) fun u' h' tk hPu ho hit' hT hsz hk => ?_
    have hu' : u' = u := by
      have h1 : its.toArray[i]? = some u' := hPu
      have h2 : its[i]? = some u' := by simpa using h1
      rw [hu] at h2; exact (Option.some.inj h2).symm
    subst hu'
    refine ⟨_, rfl, wpAny_letOwnedTupleGo_enum (s := { s with heap := h', toks := tk + 1 }) ho fun h'' he' sb => ?_⟩
    have hT2 : h''.get? s.heap.objs.size = some { cls := .type "tuple", data := .seq #[.int i tk, u'] } := (sb.2 _ (Nat.ne_of_gt hel)).trans hT
    have new : ObjOk X.prog X.w (upd H s.heap.objs.size (.tup [.int (i : Nat), x])) h'' s.heap.objs.size (.tup [.int (i : Nat), x]) :=
      ⟨by show 2 ≤ sizeLine; decide, [.int i tk, u'], .cons ⟨_, rfl⟩ (.cons ru .nil), ⟨_, hT2, rfl, _, rfl⟩⟩
    have I1 : Inv X pins σ (upd H s.heap.objs.size (.tup [.int (i : Nat), x])) { s with heap := h'', toks := tk + 1 } :=
      I.turnedNew (ch := [e, it]) (fun b ob hb q => (sb.2 b (fun z => hb (by simp [z]))).trans (hk b ob (fun z => hb (by simp [z])) (fun z => hb (by simp [z])) q)) hf (Nat.le_refl _) new
    refine ⟨.ref s.heap.objs.size, _, I1, rfl, ⟨_, x, rfl, I.hok.fresh (Nat.le_refl _), rfl, fun ys hy => by rw [I.tuple_inj hy hq]; exact hx⟩, ⟨⟨u', ?_⟩, hit'.1.at fun o q => (sb.2 it (Ne.symm hne)).trans q, hne, hai, hea⟩, fun b hb => ?_⟩
    · have e1 : ((i + 1 : Nat) : Int) = (i : Int) + 1 := by omega
      rw [e1]; exact he'
    · have hb' : b < s.heap.objs.size := by
        have e' : b = e ∨ b = it := by simpa using hb
        rcases e' with z | z
        · rw [z]; exact hel
        · rw [z]; exact hil
      rw [upd_ne (Nat.ne_of_lt hb')]
      exact (hf b hb).1
  done := by
    intro X hP hw hK hc i pins s σ H E I hf st hg
    subst hP hw hK
    obtain ⟨⟨old, he⟩, hit, hne, hai, hea⟩ := st
    obtain ⟨xs, hq, hx⟩ := hg
    obtain ⟨its, rv, p, hz⟩ := I.tuple hq
    obtain ⟨f0, f1, f2, f3, f4, f5⟩ := hf it (by simp)
    have hl := rv.length
    have hT : s.TypeIs (.ref e) "enumerate" := ⟨_, he, rfl⟩
    unfold pyNext
    refine wpAny_bind (wpAny_attempt (wpAny_callSpecial?_slot (name := Str.ofString "__next__") hT F.slot_enumerate_next
      (wpAny_call_entry F.slot_enumerate_next hT F.entry_enumerate_next ?_ (F.args_enumerate_next_1 _))))
    show wpAny _ _ (field (.ref e) 2 >>= _) _ _ _
    refine wpAny_bind (wpAny_field he rfl (x := .ref it) rfl ?_)
    refine wpAny_bind (wpAny_nextOf_tuple_end (I.ok.hd hc) hit p (by simp; omega) fun h' x he' hx' => ?_)
    obtain ⟨o, ho, hc'⟩ := hx'
    refine wpAny_bind (wpAny_isInstance (T := "StopIteration") (b := true) ⟨o, ho, hc'⟩ isSubtype_stop ?_)
    exact wpAny_pure ⟨rfl, I.turned (t' := s.toks) (fun b o hb q => he' b o hb q) f0 f1 f3 f4 f5⟩
  self := fun A i s Q E st h => let ⟨⟨_, he⟩, _⟩ := st; wpAny_pyIter_enum he h
def iEnumT (K : PySem.W.Frag) (ta : TA) : TI := fun σ H R => ta σ H fun vs H1 => ∃ a xs, vs = [.ref a] ∧ SqT K H1 a xs ∧ R (IteT K a) H1
theorem ki_enumT {X : Cx} {K : PySem.W.Frag} {e : Expr} {ta : TA} {p pos tpos : Pos} {elts : List Expr} {kk : Nat} (hg : Gl X "enumerate") (hm : X.mg "enumerate" = none) (ha : PA X [e] ta) (hs : starEach [e] X.env = [(false, eval e X.env)] := by rfl) (hK : X.K = K := by rfl) :
    PI X (.Tuple elts kk tpos) (.Call (.Name "enumerate" p) [e] [] pos) (iEnumT K ta) := by
  subst hK
  refine ⟨fun pins s σ H R I h => ?_⟩
  refine Call_ (ld_blt I hg hm PyProof.Rows.boot_enumerate (PyProof.Rows.callWith_type1 (thn (ha.run pos pins s σ H _ I h) fun us s1 ⟨vs, H1, I1, r1, q1⟩ => ?_) hs rfl))
  obtain ⟨a, xs, ex, hq, q⟩ := q1
  subst ex
  cases r1 with
  | cons r rr =>
    cases rr
    cases r
    obtain ⟨its, rv, p', hz⟩ := I1.tuple hq
    have hal : a < s1.heap.objs.size := p'.lt
    refine call_enumerate_tuple p' fun h' he hit hsz hk => wpAny_pyIter_enum he ?_
    have I2 : Inv X pins σ H1 { s1 with heap := h' } := I1.kept (t' := s1.toks) hk
    refine ⟨s1.heap.objs.size + 1, [s1.heap.objs.size + 1, s1.heap.objs.size], _, _, H1, rfl, I2, turn_enumT a (s1.heap.objs.size + 1) s1.heap.objs.size, ⟨⟨.none, he⟩, hit, Nat.succ_ne_self _, Nat.ne_of_lt hal, Nat.ne_of_gt (Nat.lt_succ_of_lt hal)⟩, fun b hb => ?_, q⟩
    have e' : b = s1.heap.objs.size + 1 ∨ b = s1.heap.objs.size := by simpa using hb
    have hle : s1.heap.objs.size ≤ b := by
      rcases e' with z | z
      · rw [z]; exact Nat.le_add_right _ _
      · rw [z]; exact Nat.le_refl _
    exact I1.fpOk hle (I1.hok.fresh hle)
end
end
section
variable {U : Vx} {σ : L2.St} {G : Hp} {Q : VK} {K : PySem.W.Frag}
/-- over enumerate(a tuple): a new pair each turn -/
theorem em_mapET {ta : TA} {te : TE} {i0 i1 : Nat} {vs : List Nat} (v : Nat → V → V) (h : AM U ta σ G fun ws G1 => ∃ a xs, ws = [.ref a] ∧ SqT K G1 a xs ∧ xs.length < 16000000 ∧
    (∀ x y, wipe (((wipe σ vs).set i0 (some x)).set i1 (some y)) vs = wipe σ vs) ∧
    (∀ (i : Nat) x G' (D : Addr) (acc : List V) (U' : Vx), U' = U.hide D (.lst acc) → ¬ U.m D → Ex G1 G' → xs[i]? = some x → EM U' te (((wipe σ vs).set i0 (some (.int (i : Int)))).set i1 (some x)) G' fun y G3 => y = v i x ∧ Ex G' G3) ∧
    (∀ D G'', Ex G1 G'' → G1 D = none → G'' D = some (.lst ((List.range xs.length).map fun i => v i (xs.getD i .non))) → Q (.ref D) G'')) : EM U (tLc (iEnumT K ta) (gTup K 2 (gCons (gName i0) (gCons (gName i1) gNil))) tYes te vs) σ G Q := fun H j QH q =>
  h H j _ fun ws H1 G1 j1 ⟨a, xs, e, hx, hlen, hw, hs, hd⟩ => ⟨a, xs, e, ex_t j1.up hx, fun D hD => by
    have nm : ¬ U.m D := fun z => (j1.msk D z).2 hD
    have nh : U.He D = none := none_of_ex j1.keep hD
    have wk : Walk (IteT K a) xs.length (fun H => SqT K H a xs) (fun i H v H' => ∃ T x, v = .ref T ∧ H T = none ∧ H' = upd H T (.tup [.int (i : Nat), x]) ∧ xs[i]? = some x) :=
      ⟨fun i H hi hq => ⟨xs, xs[i], hq, by simp [hi]⟩, fun H hq => ⟨xs, hq, Nat.le_refl _⟩, fun i H x H' hi hq ⟨T, y, e1, e2, e3, e4⟩ => ⟨T, y, e1, e2, e3, e4 xs hq⟩⟩
    refine lc_it wk (fun i H' => i ≤ xs.length ∧ ∃ G', J (U.hide D (.lst ((List.range i).map fun i => v i (xs.getD i .non)))) H' G' ∧ Ex G1 G') ⟨Nat.zero_le _, G1, ?_, Ex.refl _⟩ (fun i H' _ ⟨_, G', j', e'⟩ => ex_t j'.up (ex_t e' hx)) (fun i x H' H'' hi ⟨_, G', j', e'⟩ ⟨T, y, ex, hT, eH, hy⟩ => ?_) (fun H' ⟨_, G', j', e'⟩ => ?_)
    · have ja := j1.alloc (o := .lst []) hD
      refine ⟨fun a u e => ?_, ja.keep, j1.new, ⟨ja.hid, upd_same⟩, fun a ma => ?_⟩
      · rw [upd_ne (fun z => by subst z; rw [j1.free hD] at e; cases e)]; exact j1.up a u e
      · rcases ma with ma | rfl
        · obtain ⟨q1, q2⟩ := j1.msk a ma
          refine ⟨q1, ?_⟩
          rw [upd_ne (fun z => by subst z; exact q2 hD)]; exact q2
        · exact ⟨j1.free hD, by rw [upd_same]; exact fun q => by cases q⟩
    · subst ex eH
      have jT := j'.alloc (o := .tup [.int (i : Nat), y]) hT
      have gT := j'.free hT
      have e2 : Ex G' (upd G' T (.tup [.int (i : Nat), y])) := Ex.new gT
      refine ⟨T, [.int (i : Nat), y], rfl, SqT.of upd_same, rfl, _, _, rfl, _, _, rfl, rfl, hw _ _, ?_⟩
      show (if true = true then te (((wipe σ vs).set i0 (some (.int (i : Int)))).set i1 (some y)) (upd H' T (.tup [.int (i : Nat), y])) (fun y H4 => ∃ acc, H4 D = some (.lst acc) ∧ acc.length < sizeLine ∧ (i + 1 ≤ xs.length ∧ ∃ G', J (U.hide D (.lst ((List.range (i + 1)).map fun i => v i (xs.getD i .non)))) (upd H4 D (.lst (acc ++ [y]))) G' ∧ Ex G1 G')) else (i + 1 ≤ xs.length ∧ ∃ G'', J (U.hide D (.lst ((List.range (i + 1)).map fun i => v i (xs.getD i .non)))) (upd H' T (.tup [.int (i : Nat), y])) G'' ∧ Ex G1 G''))
      rw [if_pos rfl]
      refine hs i y _ D _ _ rfl nm (e'.trans e2) hy _ jT _ fun z H4 G4 j4 ⟨ez, e4⟩ => ⟨_, j4.hid.2, ?_, hi, G4, ?_, (e'.trans e2).trans e4⟩
      · rw [List.length_map, List.length_range]
        exact Nat.lt_of_lt_of_le (show i < 16000000 by omega) (by decide)
      · have je := j4.rehide (o' := .lst (((List.range i).map fun i => v i (xs.getD i .non)) ++ [z])) nm nh
        have el : (List.range (i + 1)).map (fun i => v i (xs.getD i .non)) = ((List.range i).map fun i => v i (xs.getD i .non)) ++ [z] := by
          rw [List.range_succ, List.map_append, ez]
          show _ ++ [v i (xs.getD i .non)] = _
          rw [List.getD_eq_getElem?_getD, hy]
          rfl
        rw [el]; exact je
    · have gd : G' D = none := (j'.msk D (.inr rfl)).1
      exact q _ _ _ (j'.unhide nm nh) (hd D _ (e'.trans (Ex.new gd)) (none_of_ex e' gd) upd_same)⟩
end
theorem ke_revL {X : Cx} {K : PySem.W.Frag} {e : Expr} {te : TE} {k : Nat} {p1 p2 p3 pos : Pos} (he : PE X e te) (h : X.K = K := by rfl) : PE X (.Subscript e (.Slice none none (some (.UnaryOp .USub (.Constant (.int 1) k p1) p2)) p3) pos) (tRevL K te) := by subst h; exact pe_revL he
theorem em_revL {U : Vx} {σ : L2.St} {G : Hp} {Q : VK} {K : PySem.W.Frag} {te : TE} (h : EM U te σ G fun x G1 => ∃ a xs, x = .ref a ∧ SqL K G1 a xs ∧ ∀ p G2, G1 p = none → Ex G1 G2 → G2 p = some (.lst xs.reverse) → Q (.ref p) G2) : EM U (tRevL K te) σ G Q := fun H j QH q =>
  h H j _ fun x H1 G1 j1 ⟨a, xs, e, hx, k⟩ => ⟨a, xs, e, ex_l j1.up hx, fun p hp => q _ _ _ (j1.alloc hp) (k p _ (j1.free hp) (Ex.new (j1.free hp)) upd_same)⟩
theorem sqt_wo {K : PySem.W.Frag} {G : Hp} {I p : Addr} {xs ys : List V} (h : G I = some (.lst xs)) (hp : SqT K G p ys) : SqT K (wo I G) p ys := by
  rcases hp with (hp | ⟨o, hp⟩) | hp
  · exact .inl (.inl (by rw [wo_ne (fun z => by rw [z, h] at hp; cases hp)]; exact hp))
  · exact .inl (.inr ⟨o, by rw [wo_ne (fun z => by rw [z, h] at hp; cases hp)]; exact hp⟩)
  · exact .inr hp
/-- for i, x in enumerate(a tuple) -/
theorem sm_forET {U : Vx} {σ : L2.St} {G : Hp} {K : PySem.W.Frag} {ta : TA} {ts : TS} {D : Ends} {i0 i1 : Nat} (h : AM U ta σ G fun vs G1 => ∃ a xs, vs = [.ref a] ∧ SqT K G1 a xs ∧ ∃ P : Nat → L2.St → Hp → Prop, P 0 σ G1 ∧ (∀ i σ' G', i ≤ xs.length → P i σ' G' → SqT K G' a xs) ∧
    (∀ (i : Nat) x σ' G' G'', xs[i]? = some x → P i σ' G' → Ex G' G'' → (∀ a o, (∃ ys, o = HO.lst ys) → G'' a = some o → G' a = some o) → SM U ts ⟨KJ U (P (i + 1)), D.rt, D.nx, KJ U (P (i + 1))⟩ ((σ'.set i0 (some (.int (i : Int)))).set i1 (some x)) G'') ∧ (∀ σ' G', P xs.length σ' G' → KM U D.nx σ' G')) : SM U (tFor (iEnumT K ta) (gTup K 2 (gCons (gName i0) (gCons (gName i1) gNil))) ts) D σ G := fun H j =>
  h H j _ fun vs H1 G1 j1 ⟨a, xs, e, hx, P, h0, hl, hs, hd⟩ => by
    have wk : Walk (IteT K a) xs.length (fun H => SqT K H a xs) (fun i H v H' => ∃ T x, v = .ref T ∧ H T = none ∧ H' = upd H T (.tup [.int (i : Nat), x]) ∧ xs[i]? = some x) :=
      ⟨fun i H hi hq => ⟨xs, xs[i], hq, by simp [hi]⟩, fun H hq => ⟨xs, hq, Nat.le_refl _⟩, fun i H x H' hi hq ⟨T, y, e1, e2, e3, e4⟩ => ⟨T, y, e1, e2, e3, e4 xs hq⟩⟩
    refine ⟨a, xs, e, ex_t j1.up hx, for_it wk (fun i => KJ U (P i)) ⟨G1, j1, h0⟩ (fun i σ' H' hi ⟨G', j', p⟩ => ex_t j'.up (hl i σ' G' hi p)) (fun i x σ' H' H'' hi ⟨G', j', p⟩ ⟨T, y, ex, hT, eH, hy⟩ => ?_) (fun σ' H' ⟨G', j', p⟩ => hd σ' G' p H' j')⟩
    subst ex eH
    have gT := j'.free hT
    refine ⟨T, [.int (i : Nat), y], rfl, SqT.of upd_same, rfl, _, _, rfl, _, _, rfl, rfl, ?_⟩
    have k := hs i y σ' G' (upd G' T (.tup [.int (i : Nat), y])) hy p (Ex.new gT) (fun b o ⟨ys, eo⟩ hb => by
      have nb : b ≠ T := fun z => by rw [z, upd_same, eo] at hb; cases hb
      rw [upd_ne nb] at hb; exact hb) _ (j'.alloc hT)
    exact k
end Wp

set_option Elab.async false
set_option linter.all false
set_option maxRecDepth 100000
set_option maxHeartbeats 4000000
/-! Data in place of addresses: what a part of the heap shows, by value. -/
namespace Wp
open PySem L2 Evl StX
set_option autoImplicit false
inductive D where
  | non
  | bl (b : Bool)
  | int (i : Int)
  | str (s : Str)
  | lst (ds : List D)
  | tup (ds : List D)
  | obj (C : Addr) (ks : List Str) (ds : List D)
mutual
inductive Rp (K : PySem.W.Frag) (F : Hp) : V → D → Prop
  | non : Rp K F .non .non
  | bl (b : Bool) : Rp K F (.bl b) (.bl b)
  | int (i : Int) : Rp K F (.int i) (.int i)
  | str (s : Str) : Rp K F (.str s) (.str s)
  | lst {a : Addr} {vs : List V} {ds : List D} : F a = some (.lst vs) → RpA K F vs ds → Rp K F (.ref a) (.lst ds)
  | tup {a : Addr} {vs : List V} {ds : List D} : SqT K F a vs → RpA K F vs ds → Rp K F (.ref a) (.tup ds)
  | obj {a C dx : Addr} {fvs : List (Str × V)} {ks : List Str} {ds : List D} : F a = some (.ins C dx fvs) → fvs.map (·.1) = ks → RpA K F (fvs.map (·.2)) ds → Rp K F (.ref a) (.obj C ks ds)
inductive RpA (K : PySem.W.Frag) (F : Hp) : List V → List D → Prop
  | nil : RpA K F [] []
  | cons {v : V} {vs : List V} {d : D} {ds : List D} : Rp K F v d → RpA K F vs ds → RpA K F (v :: vs) (d :: ds)
end
section
variable {K : PySem.W.Frag} {F F' : Hp}
theorem rp_mono (e : Ex F F') : ∀ (d : D) (v : V), Rp K F v d → Rp K F' v d
  | .non, v, h => by cases h; exact .non
  | .bl b, v, h => by cases h; exact .bl b
  | .int b, v, h => by cases h; exact .int b
  | .str b, v, h => by cases h; exact .str b
  | .lst ds, v, h => by cases h with | lst a b => exact .lst (e _ _ a) (all ds _ b)
  | .tup ds, v, h => by cases h with | tup a b => exact .tup (ex_t e a) (all ds _ b)
  | .obj C ks ds, v, h => by cases h with | obj a k b => exact .obj (e _ _ a) k (all ds _ b)
where
  all : ∀ (ds : List D) (vs : List V), RpA K F vs ds → RpA K F' vs ds
  | [], vs, h => by cases h; exact .nil
  | d :: ds, vs, h => by cases h with | cons a b => exact .cons (rp_mono e d _ a) (all ds _ b)
theorem Rp.mono {v : V} {d : D} (h : Rp K F v d) (e : Ex F F') : Rp K F' v d := rp_mono e d v h
theorem RpA.mono {vs : List V} {ds : List D} (h : RpA K F vs ds) (e : Ex F F') : RpA K F' vs ds := rp_mono.all e ds vs h
theorem RpA.len {vs : List V} : ∀ {ds : List D}, RpA K F vs ds → vs.length = ds.length := by
  induction vs with
  | nil => intro ds h; cases h; rfl
  | cons v vs ih => intro ds h; cases h with | cons a b => rw [List.length_cons, List.length_cons, ih b]
theorem RpA.at {vs : List V} : ∀ {ds : List D}, RpA K F vs ds → ∀ {i : Nat} {v : V}, vs[i]? = some v → ∃ d, ds[i]? = some d ∧ Rp K F v d := by
  induction vs with
  | nil => intro ds h i v e; simp at e
  | cons w ws ih =>
    intro ds h i v e
    cases h with
    | cons a b =>
      cases i with
      | zero => simp at e; subst e; exact ⟨_, rfl, a⟩
      | succ i => simp at e; obtain ⟨d, h1, h2⟩ := ih b e; exact ⟨d, by simpa using h1, h2⟩
theorem RpA.get {vs : List V} : ∀ {ds : List D}, RpA K F vs ds → ∀ {i : Nat} {d : D}, ds[i]? = some d → ∃ v, vs[i]? = some v ∧ Rp K F v d := by
  induction vs with
  | nil => intro ds h i v e; cases h; simp at e
  | cons w ws ih =>
    intro ds h i v e
    cases h with
    | cons a b =>
      cases i with
      | zero => simp at e; subst e; exact ⟨_, rfl, a⟩
      | succ i => simp at e; obtain ⟨d, h1, h2⟩ := ih b e; exact ⟨d, by simpa using h1, h2⟩
theorem RpA.app {vs ws : List V} {es : List D} (h2 : RpA K F ws es) : ∀ {ds : List D}, RpA K F vs ds → RpA K F (vs ++ ws) (ds ++ es) := by
  induction vs with
  | nil => intro ds h; cases h; exact h2
  | cons v vs ih => intro ds h; cases h with | cons a b => exact .cons a (ih b)
theorem RpA.one {v : V} {d : D} (h : Rp K F v d) : RpA K F [v] [d] := .cons h .nil
theorem RpA.drop {vs : List V} : ∀ {ds : List D} (n : Nat), RpA K F vs ds → RpA K F (vs.drop n) (ds.drop n) := by
  induction vs with
  | nil => intro ds n h; cases h; simp; exact .nil
  | cons v vs ih =>
    intro ds n h
    cases n with
    | zero => exact h
    | succ n => cases h with | cons a b => exact ih n b
theorem RpA.take {vs : List V} : ∀ {ds : List D} (n : Nat), RpA K F vs ds → RpA K F (vs.take n) (ds.take n) := by
  induction vs with
  | nil => intro ds n h; cases h; simp; exact .nil
  | cons v vs ih =>
    intro ds n h
    cases n with
    | zero => simp; exact .nil
    | succ n => cases h with | cons a b => exact .cons a (ih n b)
theorem RpA.rev {vs : List V} : ∀ {ds : List D}, RpA K F vs ds → RpA K F vs.reverse ds.reverse := by
  induction vs with
  | nil => intro ds h; cases h; exact .nil
  | cons v vs ih => intro ds h; cases h with | cons a b => rw [List.reverse_cons, List.reverse_cons]; exact (RpA.one a).app (ih b)
theorem RpA.set {vs : List V} {v : V} {d : D} (hv : Rp K F v d) : ∀ {ds : List D} (n : Nat), RpA K F vs ds → RpA K F (vs.set n v) (ds.set n d) := by
  induction vs with
  | nil => intro ds n h; cases h; exact .nil
  | cons w ws ih =>
    intro ds n h
    cases h with
    | cons a b =>
      cases n with
      | zero => exact .cons hv b
      | succ n => exact .cons a (ih n b)
theorem RpA.cut {vs : List V} {ds : List D} (h : RpA K F vs ds) (lo hi : Option Int) : RpA K F (cutV vs lo hi) ((ds.drop (HT.sIx ds.length 0 lo)).take (HT.sIx ds.length ds.length hi - HT.sIx ds.length 0 lo)) := by
  unfold cutV
  rw [h.len]
  exact (h.drop _).take _
theorem RpA.atI {vs : List V} {ds : List D} (h : RpA K F vs ds) {i : Int} {d : D} (e : atI ds i = some d) : ∃ v, atI vs i = some v ∧ Rp K F v d := by
  unfold L2.atI at e ⊢
  rw [h.len]
  cases z : ixN ds.length i with
  | none => rw [z] at e; simp at e
  | some j => rw [z] at e; simp at e ⊢; exact h.get e
/-! ### from the heap's data to the library's -/
mutual
def D.py : D → PyData
  | .non => .none
  | .bl b => .bool b
  | .int i => .int i
  | .str s => .str s
  | .lst ds => .list (D.pys ds)
  | .tup ds => .tuple (D.pys ds)
  | .obj _ _ _ => .none
def D.pys : List D → List PyData
  | [] => []
  | d :: ds => d.py :: D.pys ds
end
mutual
/-- no objects, no bools -/
def D.plain : D → Bool
  | .non => true
  | .bl _ => false
  | .int _ => true
  | .str s => PyData.strOk s
  | .lst ds => D.plains ds
  | .tup ds => D.plains ds
  | .obj _ _ _ => false
def D.plains : List D → Bool
  | [] => true
  | d :: ds => d.plain && D.plains ds
end
mutual
def D.dep : D → Nat
  | .lst ds => D.deps ds + 1
  | .tup ds => D.deps ds + 1
  | _ => 0
def D.deps : List D → Nat
  | [] => 0
  | d :: ds => max d.dep (D.deps ds)
end
theorem rp_dp : ∀ (d : D) (v : V), d.plain = true → Rp K F v d → Dp K F v d.py
  | .non, v, p, h => by cases h; exact .non
  | .bl b, v, p, h => by cases p
  | .int b, v, p, h => by cases h; exact .int b
  | .str b, v, p, h => by cases h; exact .str b
  | .lst ds, v, p, h => by cases h with | lst a b => exact .lst (.inl (.inl a)) (all ds _ p b)
  | .tup ds, v, p, h => by cases h with | tup a b => exact .tup a (all ds _ p b)
  | .obj C ks ds, v, p, h => by cases p
where
  all : ∀ (ds : List D) (vs : List V), D.plains ds = true → RpA K F vs ds → DpAll K F vs (D.pys ds)
  | [], vs, p, h => by cases h; exact .nil
  | d :: ds, vs, p, h => by
    have p' : d.plain = true ∧ D.plains ds = true := by simpa [D.plains] using p
    cases h with | cons a b => exact .cons (rp_dp d _ p'.1 a) (all ds _ p'.2 b)
theorem py_eqv : ∀ (d e : D), d.plain = true → e.plain = true → (PyData.eqv d.py e.py = true ↔ d = e)
  | .non, e, p, q => by cases e <;> simp [D.py, PyData.eqv, D.plain] at *
  | .bl b, e, p, q => by cases p
  | .int b, e, p, q => by cases e <;> simp [D.py, PyData.eqv, D.plain] at *
  | .str b, e, p, q => by cases e <;> simp [D.py, PyData.eqv, D.plain] at *
  | .lst ds, e, p, q => by
    cases e <;> simp [D.py, PyData.eqv, D.plain] at *
    exact all ds _ p q
  | .tup ds, e, p, q => by
    cases e <;> simp [D.py, PyData.eqv, D.plain] at *
    exact all ds _ p q
  | .obj C ks ds, e, p, q => by cases p
where
  all : ∀ (ds es : List D), D.plains ds = true → D.plains es = true → (PyData.eqvAll (D.pys ds) (D.pys es) = true ↔ ds = es)
  | [], es, p, q => by cases es <;> simp [D.pys, PyData.eqvAll]
  | d :: ds, es, p, q => by
    cases es with
    | nil => simp [D.pys, PyData.eqvAll]
    | cons e es =>
      have p' : d.plain = true ∧ D.plains ds = true := by simpa [D.plains] using p
      have q' : e.plain = true ∧ D.plains es = true := by simpa [D.plains] using q
      simp only [D.pys, PyData.eqvAll, Bool.and_eq_true, py_eqv d e p'.1 q'.1, all ds es p'.2 q'.2, List.cons.injEq]
theorem py_lay : ∀ (d : D), d.plain = true → PyData.canLay0 d.py = true
  | .non, _ => by simp [D.py, PyData.canLay0]
  | .bl b, _ => by simp [D.py, PyData.canLay0]
  | .int b, _ => by simp [D.py, PyData.canLay0]
  | .str b, h => by simp [D.py, PyData.canLay0]; exact h
  | .lst ds, h => by simp [D.py, PyData.canLay0]; exact all ds h
  | .tup ds, h => by simp [D.py, PyData.canLay0]; exact all ds h
  | .obj C ks ds, _ => by simp [D.py, PyData.canLay0]
where
  all : ∀ (ds : List D), D.plains ds = true → PyData.canLayAll0 (D.pys ds) = true
  | [], _ => by simp [D.pys, PyData.canLayAll0]
  | d :: ds, h => by
    have p' : d.plain = true ∧ D.plains ds = true := by simpa [D.plains] using h
    simp [D.pys, PyData.canLayAll0]; exact ⟨py_lay d p'.1, all ds p'.2⟩
theorem py_dep : ∀ (d : D), PyData.depth d.py ≤ d.dep + 1
  | .non => by simp [D.py, PyData.depth]
  | .bl b => by simp [D.py, PyData.depth]
  | .int b => by simp [D.py, PyData.depth]
  | .str b => by simp [D.py, PyData.depth]
  | .lst ds => by simp [D.py, PyData.depth, D.dep]; have := all ds; omega
  | .tup ds => by simp [D.py, PyData.depth, D.dep]; have := all ds; omega
  | .obj C ks ds => by simp [D.py, PyData.depth]
where
  all : ∀ (ds : List D), PyData.depthAll (D.pys ds) ≤ D.deps ds + 1
  | [] => by simp [D.pys, PyData.depthAll]
  | d :: ds => by simp [D.pys, PyData.depthAll, D.deps]; have h1 := py_dep d; have h2 := all ds; omega
theorem py_shaped {d : D} (hp : d.plain = true) (h : d.dep ≤ 60) : SeqAt.shaped d.py = true := by
  unfold SeqAt.shaped
  rw [py_lay d hp]
  have := py_dep d
  simp; omega
theorem plains_map {α : Type} {f : α → D} (h : ∀ x, (f x).plain = true) : ∀ xs : List α, D.plains (xs.map f) = true
  | [] => rfl
  | x :: xs => by rw [List.map_cons, D.plains, h x, plains_map h xs]; rfl
theorem deps_map {α : Type} {f : α → D} {n : Nat} (h : ∀ x, (f x).dep ≤ n) : ∀ xs : List α, D.deps (xs.map f) ≤ n
  | [] => Nat.zero_le _
  | x :: xs => by rw [List.map_cons, D.deps]; have := h x; have := deps_map h xs; omega
end
/-! ### owned lists are hidden -/
def Vx.hides (U : Vx) (L : List (Addr × List V)) : Vx := ⟨U.He, U.Ge, fun H => U.I H ∧ ∀ p ∈ L, H p.1 = some (.lst p.2), fun a => U.m a ∨ ∃ vs, (a, vs) ∈ L,
  fun H H' ⟨i, h⟩ e => ⟨U.st H H' i fun a ma => e a (.inl ma), fun p hp => by rw [e p.1 (.inr ⟨p.2, hp⟩)]; exact h p hp⟩⟩
section
variable {U : Vx} {L : List (Addr × List V)} {H G : Hp}
theorem J.hides_nil (j : J U H G) : J (U.hides []) H G := ⟨j.up, j.keep, j.new, ⟨j.hid, fun _ h => nomatch h⟩, fun a ma => j.msk a (ma.elim id fun ⟨_, h⟩ => nomatch h)⟩
theorem J.unhides (j : J (U.hides L) H G) : J U H G := ⟨j.up, j.keep, j.new, j.hid.1, fun a ma => j.msk a (.inl ma)⟩
/-- a list that is new and shown is hidden from here on -/
theorem J.own {p : Addr} {vs : List V} (j : J (U.hides L) H G) (h : G p = some (.lst vs)) (hn : U.Ge p = none) : J (U.hides ((p, vs) :: L)) H (wo p G) where
  up := fun a u e => by
    by_cases z : a = p
    · rw [z, wo_same] at e; cases e
    · rw [wo_ne z] at e; exact j.up a u e
  keep := j.keep
  new := fun a q g => by
    by_cases z : a = p
    · rw [z, wo_same] at q; exact absurd rfl q
    · rw [wo_ne z] at q; exact j.new a q g
  hid := ⟨j.hid.1, fun q hq => by
    rcases List.mem_cons.mp hq with rfl | hq
    · exact j.up _ _ h
    · exact j.hid.2 q hq⟩
  msk := fun a ma => by
    have k : (U.hides L).m a → (wo p G) a = none ∧ H a ≠ none := fun m => by
      obtain ⟨q1, q2⟩ := j.msk a m
      refine ⟨?_, q2⟩
      by_cases z : a = p
      · rw [z, wo_same]
      · rw [wo_ne z]; exact q1
    rcases ma with ma | ⟨ws, hw⟩
    · exact k (.inl ma)
    · rcases List.mem_cons.mp hw with e | hw
      · cases e; exact ⟨wo_same, by rw [j.up _ _ h]; exact fun q => by cases q⟩
      · exact k (.inr ⟨ws, hw⟩)
/-- an owned list is shown -/
theorem J.show {a : Addr} {vs : List V} (j : J (U.hides L) H G) (h : (a, vs) ∈ L) (hm : ¬ U.m a) (hn : U.He a = none) : J (U.hides (L.filter fun p => decide (p.1 ≠ a))) H (upd G a (.lst vs)) where
  up := fun b u e => by
    by_cases z : b = a
    · subst z; rw [upd_same] at e; rw [j.hid.2 _ h]; exact e
    · rw [upd_ne z] at e; exact j.up b u e
  keep := j.keep
  new := fun b q g => by
    by_cases z : b = a
    · subst z; exact hn
    · rw [upd_ne z] at q; exact j.new b q g
  hid := ⟨j.hid.1, fun q hq => j.hid.2 q (List.mem_filter.mp hq).1⟩
  msk := fun b mb => by
    rcases mb with mb | ⟨ws, hw⟩
    · have : b ≠ a := fun z => by subst z; exact hm mb
      rw [upd_ne this]; exact j.msk b (.inl mb)
    · obtain ⟨h1, h2⟩ := List.mem_filter.mp hw
      have : b ≠ a := by simpa using h2
      rw [upd_ne this]; exact j.msk b (.inr ⟨ws, h1⟩)
def setO (a : Addr) (ws : List V) (L : List (Addr × List V)) : List (Addr × List V) := L.map fun p => if p.1 = a then (a, ws) else p
theorem setO_mem {a b : Addr} {ws us : List V} {L : List (Addr × List V)} : (b, us) ∈ setO a ws L → (b = a ∧ us = ws ∧ ∃ vs, (a, vs) ∈ L) ∨ (b ≠ a ∧ (b, us) ∈ L) := by
  unfold setO
  intro h
  obtain ⟨p, hp, e⟩ := List.mem_map.mp h
  by_cases z : p.1 = a
  · rw [if_pos z] at e; cases e; exact .inl ⟨rfl, rfl, p.2, by rw [← z]; exact hp⟩
  · rw [if_neg z] at e; subst e; exact .inr ⟨z, hp⟩
theorem mem_setO {a b : Addr} {ws us : List V} {L : List (Addr × List V)} (n : b ≠ a) (h : (b, us) ∈ L) : (b, us) ∈ setO a ws L := List.mem_map.mpr ⟨(b, us), h, by rw [if_neg n]⟩
theorem mem_setO_self {a : Addr} {vs ws : List V} {L : List (Addr × List V)} (h : (a, vs) ∈ L) : (a, ws) ∈ setO a ws L := List.mem_map.mpr ⟨(a, vs), h, by rw [if_pos rfl]⟩
/-- an owned list is changed -/
theorem J.chg {a : Addr} {vs ws : List V} (j : J (U.hides L) H G) (h : (a, vs) ∈ L) (hm : ¬ U.m a) (hn : U.He a = none) : J (U.hides (setO a ws L)) (upd H a (.lst ws)) G where
  up := fun b u e => by
    have : b ≠ a := fun z => by subst z; rw [(j.msk b (.inr ⟨vs, h⟩)).1] at e; cases e
    rw [upd_ne this]; exact j.up b u e
  keep := fun b u e => by
    have : b ≠ a := fun z => by subst z; exact absurd (show U.He b = some u from e) (by rw [hn]; exact fun q => by cases q)
    rw [upd_ne this]; exact j.keep b u e
  new := j.new
  hid := ⟨U.st H _ j.hid.1 fun b mb => by
    have : b ≠ a := fun z => by subst z; exact hm mb
    rw [upd_ne this], fun q hq => by
    rcases setO_mem hq with ⟨e1, e2, _⟩ | ⟨n, hq⟩
    · rw [e1, e2, upd_same]
    · rw [upd_ne n]; exact j.hid.2 _ hq⟩
  msk := fun b mb => by
    have k : (U.hides L).m b → G b = none ∧ (upd H a (.lst ws)) b ≠ none := fun m => by
      obtain ⟨q1, q2⟩ := j.msk b m
      refine ⟨q1, ?_⟩
      by_cases z : b = a
      · subst z; rw [upd_same]; exact fun q => by cases q
      · rw [upd_ne z]; exact q2
    rcases mb with mb | ⟨us, hu⟩
    · exact k (.inl mb)
    · rcases setO_mem hu with ⟨e1, _, vs', e2⟩ | ⟨_, hu⟩
      · rw [e1] at k ⊢; exact k (.inr ⟨vs', e2⟩)
      · exact k (.inr ⟨us, hu⟩)
end
end Wp

set_option Elab.async false
set_option linter.all false
set_option maxRecDepth 100000
set_option maxHeartbeats 4000000
namespace Wp
open PySem L2 Evl StX
set_option autoImplicit false
/-- what is known of a slot: a datum, a list of the def's own, the law's draws, its script -/
inductive E where
  | any
  | d (d : D)
  | own (ds : List D)
  | st
  | sc
def E.known : E → Bool
  | .any => false
  | _ => true
/-- may stand at two names -/
def E.free : E → Bool
  | .own _ => false
  | .any => false
  | _ => true
section
variable {K : PySem.W.Frag}
def SlotV (K : PySem.W.Frag) (U : Vx) (L : List (Addr × List V)) (G : Hp) : E → V → Prop
  | .any, _ => True
  | .d d, v => Rp K G v d
  | .own ds, v => ∃ a vs, v = .ref a ∧ (a, vs) ∈ L ∧ RpA K G vs ds
  | .st, v => ∃ a, v = .ref a ∧ DrawOk U a
  | .sc, v => ∃ (a : Addr) (ns : List Int), v = .ref a ∧ SqL K G a (ns.map V.int)
def Slot (K : PySem.W.Frag) (U : Vx) (L : List (Addr × List V)) (G : Hp) (e : E) (o : Option V) : Prop := e = .any ∨ ∃ v, o = some v ∧ SlotV K U L G e v
theorem SlotV.mono {U : Vx} {L : List (Addr × List V)} {G G' : Hp} {e : E} {v : V} (h : SlotV K U L G e v) (x : Ex G G') : SlotV K U L G' e v := by
  cases e with
  | any => trivial
  | d d => exact Rp.mono h x
  | own ds => obtain ⟨a, vs, e1, e2, e3⟩ := h; exact ⟨a, vs, e1, e2, e3.mono x⟩
  | st => exact h
  | sc => obtain ⟨a, ns, e1, e2⟩ := h; exact ⟨a, ns, e1, ex_l x e2⟩
theorem SlotV.free {U : Vx} {L L' : List (Addr × List V)} {G : Hp} {e : E} {v : V} (h : SlotV K U L G e v) (f : e.free = true) : SlotV K U L' G e v := by
  cases e with
  | any => trivial
  | d d => exact h
  | own ds => cases f
  | st => exact h
  | sc => exact h
structure LOk (U : Vx) (L : List (Addr × List V)) : Prop where
  nm : ∀ p ∈ L, ¬ U.m p.1 ∧ U.He p.1 = none ∧ U.Ge p.1 = none
  fn : ∀ a vs ws, (a, vs) ∈ L → (a, ws) ∈ L → vs = ws
structure EnvOk (K : PySem.W.Frag) (U : Vx) (ρ : List E) (σ : L2.St) (L : List (Addr × List V)) (G : Hp) : Prop where
  len : σ.length = ρ.length
  sl : ∀ (i : Nat) (e : E), ρ[i]? = some e → ∃ o, σ[i]? = some o ∧ Slot K U L G e o
  lo : LOk U L
  ds : ∀ (i j : Nat) (x y : List D) (a : Addr), i ≠ j → ρ[i]? = some (.own x) → ρ[j]? = some (.own y) → σ[i]? = some (some (.ref a)) → σ[j]? = some (some (.ref a)) → False
  ge : Ex U.Ge G
section
variable {U : Vx} {ρ ρ' : List E} {σ : L2.St} {L : List (Addr × List V)} {G G' : Hp}
theorem EnvOk.mono (o : EnvOk K U ρ σ L G) (x : Ex G G') : EnvOk K U ρ σ L G' := ⟨o.len, fun i e h => let ⟨u, h1, h2⟩ := o.sl i e h; ⟨u, h1, h2.elim .inl fun ⟨v, h3, h4⟩ => .inr ⟨v, h3, h4.mono x⟩⟩, o.lo, o.ds, o.ge.trans x⟩
theorem EnvOk.at (o : EnvOk K U ρ σ L G) {i : Nat} {e : E} (h : ρ[i]? = some e) (k : e.known = true) : ∃ v, σ[i]? = some (some v) ∧ SlotV K U L G e v := by
  obtain ⟨u, h1, h2⟩ := o.sl i e h
  rcases h2 with h2 | ⟨v, h3, h4⟩
  · subst h2; cases k
  · subst h3; exact ⟨v, h1, h4⟩
theorem EnvOk.set (o : EnvOk K U ρ σ L G) {i : Nat} {e : E} {v : V} (f : e.free = true) (h : SlotV K U L G e v) : EnvOk K U (ρ.set i e) (σ.set i (some v)) L G where
  len := by rw [List.length_set, List.length_set, o.len]
  sl := fun j e' hj => by
    by_cases z : i = j
    · subst z
      rw [List.getElem?_set] at hj
      split at hj
      · split at hj
        · rename_i hl
          cases hj
          exact ⟨some v, by rw [List.getElem?_set_self (by rw [o.len]; exact hl)], .inr ⟨v, rfl, h⟩⟩
        · cases hj
      · exact absurd rfl ‹_›
    · rw [List.getElem?_set_ne z] at hj ⊢
      exact o.sl j e' hj
  lo := o.lo
  ds := fun j k x y a n h1 h2 h3 h4 => by
    have aux : ∀ (j : Nat) (x : List D), (ρ.set i e)[j]? = some (.own x) → i ≠ j := fun j x hj z => by
      subst z
      rw [List.getElem?_set] at hj
      split at hj
      · split at hj
        · cases hj; cases f
        · cases hj
      · exact absurd rfl ‹_›
    have n1 := aux _ _ h1
    have n2 := aux _ _ h2
    rw [List.getElem?_set_ne n1] at h1 h3
    rw [List.getElem?_set_ne n2] at h2 h4
    exact o.ds j k x y a n h1 h2 h3 h4
  ge := o.ge
theorem EnvOk.wipe1 (o : EnvOk K U ρ σ L G) (i : Nat) (u : Option V) : EnvOk K U (ρ.set i .any) (σ.set i u) L G where
  len := by rw [List.length_set, List.length_set, o.len]
  sl := fun j e' hj => by
    by_cases z : i = j
    · subst z
      rw [List.getElem?_set] at hj
      split at hj
      · split at hj
        · rename_i hl
          cases hj
          exact ⟨u, by rw [List.getElem?_set_self (by rw [o.len]; exact hl)], .inl rfl⟩
        · cases hj
      · exact absurd rfl ‹_›
    · rw [List.getElem?_set_ne z] at hj ⊢
      exact o.sl j e' hj
  lo := o.lo
  ds := fun j k x y a n h1 h2 h3 h4 => by
    have aux : ∀ (j : Nat) (x : List D), (ρ.set i .any)[j]? = some (.own x) → i ≠ j := fun j x hj z => by
      subst z
      rw [List.getElem?_set] at hj
      split at hj
      · split at hj <;> cases hj
      · exact absurd rfl ‹_›
    have n1 := aux _ _ h1
    have n2 := aux _ _ h2
    rw [List.getElem?_set_ne n1] at h1 h3
    rw [List.getElem?_set_ne n2] at h2 h4
    exact o.ds j k x y a n h1 h2 h3 h4
  ge := o.ge
def wipeE (ρ : List E) : List Nat → List E
  | [] => ρ
  | v :: vs => (wipeE ρ vs).set v .any
theorem EnvOk.wipe (o : EnvOk K U ρ σ L G) : ∀ vs, EnvOk K U (wipeE ρ vs) (L2.wipe σ vs) L G
  | [] => o
  | v :: vs => (EnvOk.wipe o vs).wipe1 v none
/-- a list that is shown, new and at no other name, becomes the def's own, at slot i -/
theorem EnvOk.own (o : EnvOk K U ρ σ L G) {i : Nat} {p : Addr} {vs : List V} {ds : List D} (np : G p = none) (x : Ex G G') (h : RpA K G vs ds) (hl : ∀ ws, (p, ws) ∉ L) (hm : ¬ U.m p) (hn : U.He p = none) (hg : U.Ge p = none) :
    EnvOk K U (ρ.set i (.own ds)) (σ.set i (some (.ref p))) ((p, vs) :: L) (wo p G') := by
  have x' : Ex G (wo p G') := fun a u e => by
    have : a ≠ p := fun z => by rw [z, np] at e; cases e
    rw [wo_ne this]; exact x a u e
  have up : ∀ {e : E} {v : V}, SlotV K U L G e v → SlotV K U ((p, vs) :: L) (wo p G') e v := fun {e v} s => by
    have s' := s.mono x'
    cases e with
    | own ds => obtain ⟨a, vs, e1, e2, e3⟩ := s'; exact ⟨a, vs, e1, List.mem_cons_of_mem _ e2, e3⟩
    | any => trivial
    | d d => exact s'
    | st => exact s'
    | sc => exact s'
  exact {
    len := by rw [List.length_set, List.length_set, o.len]
    sl := fun j e' hj => by
      by_cases z : i = j
      · subst z
        rw [List.getElem?_set] at hj
        split at hj
        · split at hj
          · rename_i hl
            cases hj
            exact ⟨_, by rw [List.getElem?_set_self (by rw [o.len]; exact hl)], .inr ⟨_, rfl, p, vs, rfl, List.mem_cons_self, h.mono x'⟩⟩
          · cases hj
        · exact absurd rfl ‹_›
      · rw [List.getElem?_set_ne z] at hj ⊢
        obtain ⟨u, h1, h2⟩ := o.sl j e' hj
        exact ⟨u, h1, h2.elim .inl fun ⟨v, h3, h4⟩ => .inr ⟨v, h3, up h4⟩⟩
    lo := ⟨fun q hq => by
      rcases List.mem_cons.mp hq with rfl | hq
      · exact ⟨hm, hn, hg⟩
      · exact o.lo.nm q hq, fun a us ws h1 h2 => by
      rcases List.mem_cons.mp h1 with e1 | h1 <;> rcases List.mem_cons.mp h2 with e2 | h2
      · cases e1; cases e2; rfl
      · cases e1; exact absurd h2 (hl _)
      · cases e2; exact absurd h1 (hl _)
      · exact o.lo.fn a us ws h1 h2⟩
    ds := fun j k xx y a n h1 h2 h3 h4 => by
      have not : ∀ (j : Nat) (y : List D), i ≠ j → ρ[j]? = some (.own y) → σ[j]? = some (some (.ref p)) → False := fun j y nj h1 h2 => by
        obtain ⟨v, h3, a, ws, e1, e2, e3⟩ := o.at h1 rfl
        rw [h2] at h3
        injection h3 with h3; injection h3 with h3
        rw [← h3] at e1; injection e1 with e1
        exact hl ws (e1 ▸ e2)
      by_cases z1 : i = j
      · subst z1
        have z2 : i ≠ k := n
        rw [List.getElem?_set_ne z2] at h2 h4
        have hi : i < σ.length := by
          have := (List.getElem?_eq_some_iff.mp h3).1
          rwa [List.length_set] at this
        rw [List.getElem?_set_self hi] at h3
        injection h3 with h3; injection h3 with h3; injection h3 with h3
        subst h3
        exact not k y z2 h2 h4
      · rw [List.getElem?_set_ne z1] at h1 h3
        by_cases z2 : i = k
        · subst z2
          have hi : i < σ.length := by
            have := (List.getElem?_eq_some_iff.mp h4).1
            rwa [List.length_set] at this
          rw [List.getElem?_set_self hi] at h4
          injection h4 with h4; injection h4 with h4; injection h4 with h4
          subst h4
          exact not j xx z1 h1 h3
        · rw [List.getElem?_set_ne z2] at h2 h4
          exact o.ds j k xx y a n h1 h2 h3 h4
    ge := fun a u e => x' a u (o.ge a u e) }
/-- the def's own list at slot i is shown: it is a datum from here on -/
theorem EnvOk.shown (o : EnvOk K U ρ σ L G) {i : Nat} {ds : List D} {a : Addr} {vs : List V} (hi : ρ[i]? = some (.own ds)) (hs : σ[i]? = some (some (.ref a))) (hm : (a, vs) ∈ L) (h : RpA K G vs ds) (na : G a = none) :
    EnvOk K U (ρ.set i (.d (.lst ds))) σ (L.filter fun p => decide (p.1 ≠ a)) (upd G a (.lst vs)) := by
  have x : Ex G (upd G a (.lst vs)) := Ex.new na
  exact {
    len := by rw [List.length_set, o.len]
    sl := fun j e' hj => by
      by_cases z : i = j
      · subst z
        rw [List.getElem?_set] at hj
        split at hj
        · split at hj
          · cases hj
            exact ⟨_, hs, .inr ⟨_, rfl, .lst upd_same (h.mono x)⟩⟩
          · cases hj
        · exact absurd rfl ‹_›
      · rw [List.getElem?_set_ne z] at hj
        obtain ⟨u, h1, h2⟩ := o.sl j e' hj
        refine ⟨u, h1, h2.elim .inl fun ⟨v, h3, h4⟩ => .inr ⟨v, h3, ?_⟩⟩
        have h5 := h4.mono x
        cases e' with
        | own ds' =>
          obtain ⟨b, ws, e1, e2, e3⟩ := h5
          subst e1 h3
          have nb : b ≠ a := fun zz => by subst zz; exact o.ds i j _ _ b z hi hj hs h1
          exact ⟨b, ws, rfl, List.mem_filter.mpr ⟨e2, by simpa using nb⟩, e3⟩
        | any => trivial
        | d d => exact h5
        | st => exact h5
        | sc => exact h5
    lo := ⟨fun q hq => o.lo.nm q (List.mem_filter.mp hq).1, fun b us ws h1 h2 => o.lo.fn b us ws (List.mem_filter.mp h1).1 (List.mem_filter.mp h2).1⟩
    ds := fun j k xx y b n h1 h2 h3 h4 => by
      have aux : ∀ (j : Nat) (x : List D), (ρ.set i (.d (.lst ds)))[j]? = some (.own x) → i ≠ j := fun j x hj z => by
        subst z
        rw [List.getElem?_set] at hj
        split at hj
        · split at hj <;> cases hj
        · exact absurd rfl ‹_›
      have n1 := aux _ _ h1
      have n2 := aux _ _ h2
      rw [List.getElem?_set_ne n1] at h1
      rw [List.getElem?_set_ne n2] at h2
      exact o.ds j k xx y b n h1 h2 h3 h4
    ge := o.ge.trans x }
/-- the def's own list at slot i is changed -/
theorem EnvOk.chg (o : EnvOk K U ρ σ L G) {i : Nat} {ds es : List D} {a : Addr} {vs ws : List V} (hi : ρ[i]? = some (.own ds)) (hs : σ[i]? = some (some (.ref a))) (hm : (a, vs) ∈ L) (h : RpA K G ws es) :
    EnvOk K U (ρ.set i (.own es)) σ (setO a ws L) G := by
  exact {
    len := by rw [List.length_set, o.len]
    sl := fun j e' hj => by
      by_cases z : i = j
      · subst z
        rw [List.getElem?_set] at hj
        split at hj
        · split at hj
          · cases hj
            exact ⟨_, hs, .inr ⟨_, rfl, a, ws, rfl, mem_setO_self hm, h⟩⟩
          · cases hj
        · exact absurd rfl ‹_›
      · rw [List.getElem?_set_ne z] at hj
        obtain ⟨u, h1, h2⟩ := o.sl j e' hj
        refine ⟨u, h1, h2.elim .inl fun ⟨v, h3, h4⟩ => .inr ⟨v, h3, ?_⟩⟩
        cases e' with
        | own ds' =>
          obtain ⟨b, us, e1, e2, e3⟩ := h4
          subst e1 h3
          have nb : b ≠ a := fun zz => by subst zz; exact o.ds i j _ _ b z hi hj hs h1
          exact ⟨b, us, rfl, mem_setO nb e2, e3⟩
        | any => trivial
        | d d => exact h4
        | st => exact h4
        | sc => exact h4
    lo := ⟨fun q hq => by
      rcases setO_mem (b := q.1) (us := q.2) hq with ⟨e1, _, us, e2⟩ | ⟨_, e2⟩
      · rw [e1]; exact o.lo.nm _ e2
      · exact o.lo.nm _ e2, fun b us xs h1 h2 => by
      rcases setO_mem h1 with ⟨e1, e2, _⟩ | ⟨n1, h1⟩ <;> rcases setO_mem h2 with ⟨f1, f2, _⟩ | ⟨n2, h2⟩
      · rw [e2, f2]
      · exact absurd e1 n2
      · exact absurd f1 n1
      · exact o.lo.fn b us xs h1 h2⟩
    ds := fun j k xx y b n h1 h2 h3 h4 => by
      have aux : ∀ (j : Nat) (x : List D), (ρ.set i (.own es))[j]? = some (.own x) → ∃ x', ρ[j]? = some (.own x') := fun j x hj => by
        by_cases z : i = j
        · subst z; exact ⟨_, hi⟩
        · rw [List.getElem?_set_ne z] at hj; exact ⟨_, hj⟩
      obtain ⟨x1, k1⟩ := aux _ _ h1
      obtain ⟨x2, k2⟩ := aux _ _ h2
      exact o.ds j k x1 x2 b n k1 k2 h3 h4
    ge := o.ge }
inductive EnvLe : List E → List E → Prop
  | nil : EnvLe [] []
  | same {e : E} {r r' : List E} : EnvLe r r' → EnvLe (e :: r) (e :: r')
  | any {e : E} {r r' : List E} : EnvLe r r' → EnvLe (e :: r) (.any :: r')
theorem EnvLe.refl : ∀ r : List E, EnvLe r r
  | [] => .nil
  | _ :: r => .same (EnvLe.refl r)
theorem EnvLe.at {r r' : List E} (h : EnvLe r r') : ∀ (i : Nat) (e : E), r'[i]? = some e → ∃ e', r[i]? = some e' ∧ (e = .any ∨ e' = e) := by
  induction h with
  | nil => intro i e h; simp at h
  | same _ ih =>
    intro i e h
    cases i with
    | zero => simp at h; subst h; exact ⟨_, rfl, .inr rfl⟩
    | succ i => simp at h; obtain ⟨e', h1, h2⟩ := ih i e h; exact ⟨e', by simpa using h1, h2⟩
  | any _ ih =>
    intro i e h
    cases i with
    | zero => simp at h; subst h; exact ⟨_, rfl, .inl rfl⟩
    | succ i => simp at h; obtain ⟨e', h1, h2⟩ := ih i e h; exact ⟨e', by simpa using h1, h2⟩
theorem EnvLe.len {r r' : List E} (h : EnvLe r r') : r.length = r'.length := by
  induction h with
  | nil => rfl
  | same _ ih => rw [List.length_cons, List.length_cons, ih]
  | any _ ih => rw [List.length_cons, List.length_cons, ih]
theorem EnvOk.le (o : EnvOk K U ρ σ L G) (h : EnvLe ρ ρ') : EnvOk K U ρ' σ L G where
  len := by rw [o.len, h.len]
  sl := fun i e hi => by
    obtain ⟨e', h1, h2⟩ := h.at i e hi
    obtain ⟨u, h3, h4⟩ := o.sl i e' h1
    rcases h2 with rfl | rfl
    · exact ⟨u, h3, .inl rfl⟩
    · exact ⟨u, h3, h4⟩
  lo := o.lo
  ds := fun i j x y a n h1 h2 h3 h4 => by
    obtain ⟨e1, k1, q1⟩ := h.at i _ h1
    obtain ⟨e2, k2, q2⟩ := h.at j _ h2
    rcases q1 with q1 | rfl
    · cases q1
    rcases q2 with q2 | rfl
    · cases q2
    exact o.ds i j x y a n k1 k2 h3 h4
  ge := o.ge
theorem DrawOk.hides {st : Addr} (d : DrawOk U st) (lo : LOk U L) : DrawOk (U.hides L) st where
  m := .inl d.m
  ne := d.ne
  at_ := fun H i => d.at_ H i.1
  to := fun H H' i e s => ⟨d.to H H' i.1 (fun x mx nx => e x (.inl mx) nx) s, fun p hp => by
    rw [e p.1 (.inr ⟨p.2, hp⟩) (fun z => (lo.nm p hp).1 (z ▸ d.m))]; exact i.2 p hp⟩
end
end
end Wp

set_option Elab.async false
set_option linter.all false
set_option maxRecDepth 100000
set_option maxHeartbeats 4000000
namespace Wp
open PySem L2 Evl StX
set_option autoImplicit false
section
variable {K : PySem.W.Frag} {U : Vx} {σ : L2.St} {G : Hp} {te : TE} {ta : TA} {tt : TT} {g : TG}
theorem EM.w {Q Q' : VK} (h : EM U te σ G Q) (k : ∀ v G', Q v G' → Q' v G') : EM U te σ G Q' := fun H j QH q => h H j QH fun v H' G' j' p => q v H' G' j' (k v G' p)
theorem TM.w {Q Q' : Bool → Hp → Prop} (h : TM U tt σ G Q) (k : ∀ v G', Q v G' → Q' v G') : TM U tt σ G Q' := fun H j QH q => h H j QH fun v H' G' j' p => q v H' G' j' (k v G' p)
theorem AM.w {Q Q' : List V → Hp → Prop} (h : AM U ta σ G Q) (k : ∀ v G', Q v G' → Q' v G') : AM U ta σ G Q' := fun H j QH q => h H j QH fun v H' G' j' p => q v H' G' j' (k v G' p)
theorem RM.w {r : Hp → VK → Prop} {Q Q' : VK} (h : RM U r G Q) (k : ∀ v G', Q v G' → Q' v G') : RM U r G Q' := fun H j QH q => h H j QH fun v H' G' j' p => q v H' G' j' (k v G' p)
theorem CM.w {sp : Sp} {vs : List V} {Q Q' : VK} (h : CM U sp vs G Q) (k : ∀ v G', Q v G' → Q' v G') : CM U sp vs G Q' := fun H j QH q => h H j QH fun v H' G' j' p => q v H' G' j' (k v G' p)
theorem GM.w {v : V} {Q Q' : L2.St → Hp → Prop} (h : GM U g v σ G Q) (k : ∀ v G', Q v G' → Q' v G') : GM U g v σ G Q' := fun H j QH q => h H j QH fun v H' G' j' p => q v H' G' j' (k v G' p)
theorem OM.w {to : TO} {Q Q' : Option Int → Hp → Prop} (h : OM U to σ G Q) (k : ∀ v G', Q v G' → Q' v G') : OM U to σ G Q' := fun H j QH q => h H j QH fun v H' G' j' p => q v H' G' j' (k v G' p)
theorem GsM.w {gs : TGs} {vs : List V} {Q Q' : L2.St → Hp → Prop} (h : GsM U gs vs σ G Q) (k : ∀ v G', Q v G' → Q' v G') : GsM U gs vs σ G Q' := fun H j QH q => h H j QH fun v H' G' j' p => q v H' G' j' (k v G' p)
def Po (K : PySem.W.Frag) (U : Vx) (L : List (Addr × List V)) (G : Hp) (Q : E → Prop) : VK := fun v G' => Ex G G' ∧ ∃ e, SlotV K U L G' e v ∧ Q e
def DE (K : PySem.W.Frag) (te : TE) (ρ : List E) (Q : E → Prop) : Prop := ∀ U σ L G, EnvOk K U ρ σ L G → EM (U.hides L) te σ G (Po K U L G Q)
def DT (K : PySem.W.Frag) (tt : TT) (ρ : List E) (Q : Bool → Prop) : Prop := ∀ U σ L G, EnvOk K U ρ σ L G → TM (U.hides L) tt σ G fun b G' => Ex G G' ∧ Q b
def DA (K : PySem.W.Frag) (ta : TA) (ρ : List E) (Q : List D → Prop) : Prop := ∀ U σ L G, EnvOk K U ρ σ L G → AM (U.hides L) ta σ G fun vs G' => Ex G G' ∧ ∃ ds, RpA K G' vs ds ∧ Q ds
def DO (K : PySem.W.Frag) (to : TO) (ρ : List E) (Q : Option Int → Prop) : Prop := ∀ U σ L G, EnvOk K U ρ σ L G → OM (U.hides L) to σ G fun o G' => Ex G G' ∧ Q o
def DR (K : PySem.W.Frag) (r : R2) (x y : E) (Q : E → Prop) : Prop := ∀ U L G v w, LOk U L → SlotV K U L G x v → SlotV K U L G y w → RM (U.hides L) (r v w) G (Po K U L G Q)
def DU (K : PySem.W.Frag) (r : V → Hp → VK → Prop) (x : E) (Q : E → Prop) : Prop := ∀ U L G v, LOk U L → SlotV K U L G x v → RM (U.hides L) (r v) G (Po K U L G Q)
def DB (K : PySem.W.Frag) (r : List V → Hp → VK → Prop) (ds : List D) (Q : E → Prop) : Prop := ∀ U L G vs, LOk U L → RpA K G vs ds → RM (U.hides L) (r vs) G (Po K U L G Q)
def DC (K : PySem.W.Frag) (sp : Sp) (ds : List D) (Q : E → Prop) : Prop := ∀ U L G vs, LOk U L → RpA K G vs ds → CM (U.hides L) sp vs G (Po K U L G Q)
def DG (K : PySem.W.Frag) (g : TG) (e : E) (ρ : List E) (N : List E → Prop) : Prop := ∀ U σ L G v, EnvOk K U ρ σ L G → SlotV K U L G e v → GM (U.hides L) g v σ G fun σ' G' => Ex G G' ∧ ∃ ρ', EnvOk K U ρ' σ' L G' ∧ N ρ'
def DGs (K : PySem.W.Frag) (gs : TGs) (ds : List D) (ρ : List E) (N : List E → Prop) : Prop := ∀ U σ L G vs, EnvOk K U ρ σ L G → RpA K G vs ds → GsM (U.hides L) gs vs σ G fun σ' G' => Ex G G' ∧ ∃ ρ', EnvOk K U ρ' σ' L G' ∧ N ρ'
/-- a new list -/
def DN (K : PySem.W.Frag) (te : TE) (ρ : List E) (Q : List D → Prop) : Prop := ∀ U σ L G, EnvOk K U ρ σ L G → EM (U.hides L) te σ G fun v G' => ∃ p vs ds G1, v = .ref p ∧ Ex G G1 ∧ G1 p = none ∧ Ex G1 G' ∧ G' p = some (.lst vs) ∧ RpA K G1 vs ds ∧ Q ds
def SE (e : E) (P : List D → Prop) : Prop := ∃ es, (e = .d (.tup es) ∨ e = .d (.lst es) ∨ e = .own es) ∧ P es
theorem se_tup {es : List D} {P : List D → Prop} (h : P es) : SE (.d (.tup es)) P := ⟨es, .inl rfl, h⟩
theorem se_lst {es : List D} {P : List D → Prop} (h : P es) : SE (.d (.lst es)) P := ⟨es, .inr (.inl rfl), h⟩
theorem se_own {es : List D} {P : List D → Prop} (h : P es) : SE (.own es) P := ⟨es, .inr (.inr rfl), h⟩
def ME (C : Addr) (m : Str) (e : E) (P : List Str → List D → Prop) : Prop := ∃ ks ds, e = .d (.obj C ks ds) ∧ m ∉ ks ∧ P ks ds
theorem me {C : Addr} {m : Str} {ks : List Str} {ds : List D} {P : List Str → List D → Prop} (n : m ∉ ks) (h : P ks ds) : ME C m (.d (.obj C ks ds)) P := ⟨ks, ds, rfl, n, h⟩
def FE (K : PySem.W.Frag) (f : Str) (e : E) (P : D → Prop) : Prop := ∃ C ks ds, e = .d (.obj C ks ds) ∧ Cls K C ∧ NoAttr K C f ∧ ∃ d, (ks.zip ds).lookup f = some d ∧ P d
theorem fe {K : PySem.W.Frag} {f : Str} {C : Addr} {ks : List Str} {ds : List D} {P : D → Prop} {d : D} (c : Cls K C) (n : NoAttr K C f) (l : (ks.zip ds).lookup f = some d) (h : P d) : FE K f (.d (.obj C ks ds)) P := ⟨C, ks, ds, rfl, c, n, d, l, h⟩
def Sz (n : Nat) (P : Prop) : Prop := n ≤ sizeLine ∧ P
theorem sz_ {n : Nat} {P : Prop} (h : n ≤ sizeLine) (k : P) : Sz n P := ⟨h, k⟩
def BE (e : E) (P : Bool → Prop) : Prop := ∃ b, e = .d (.bl b) ∧ P b
theorem be {b : Bool} {P : Bool → Prop} (h : P b) : BE (.d (.bl b)) P := ⟨b, rfl, h⟩
def IE (e : E) (P : Int → Prop) : Prop := ∃ b, e = .d (.int b) ∧ P b
theorem ie {b : Int} {P : Int → Prop} (h : P b) : IE (.d (.int b)) P := ⟨b, rfl, h⟩
/-- a datum -/
def DD (e : E) (P : D → Prop) : Prop := ∃ d, e = .d d ∧ P d
theorem dd {d : D} {P : D → Prop} (h : P d) : DD (.d d) P := ⟨d, rfl, h⟩
end
section
variable {K : PySem.W.Frag} {ρ : List E} {Q : E → Prop} {te ta tb tc tx : TE} {t u tt : TT} {r r' : R2} {QT : Bool → Prop} {tas tr : TA} {QA : List D → Prop} {x y : E}
theorem de_var {i : Nat} (h : ∃ e, ρ[i]? = some e ∧ e.known = true ∧ Q e) : DE K (tVar i) ρ Q := fun U σ L G o => by
  obtain ⟨e, h1, h2, q⟩ := h
  obtain ⟨v, h3, h4⟩ := o.at h1 h2
  exact em_var h3 ⟨Ex.refl G, e, h4, q⟩
theorem de_cI {i : Int} (k : Q (.d (.int i))) : DE K (tC (.int i)) ρ Q := fun U σ L G o => em_c ⟨Ex.refl G, .d (.int _), Rp.int i, k⟩
theorem de_cB {i : Bool} (k : Q (.d (.bl i))) : DE K (tC (.bl i)) ρ Q := fun U σ L G o => em_c ⟨Ex.refl G, .d (.bl _), Rp.bl i, k⟩
theorem de_cS {i : Str} (k : Q (.d (.str i))) : DE K (tC (.str i)) ρ Q := fun U σ L G o => em_c ⟨Ex.refl G, .d (.str _), Rp.str i, k⟩
theorem de_cN (k : Q (.d .non)) : DE K (tC .non) ρ Q := fun U σ L G o => em_c ⟨Ex.refl G, .d .non, Rp.non, k⟩
theorem de_op (h : DE K ta ρ fun x => DE K tb ρ fun y => DR K r x y Q) : DE K (tOp r ta tb) ρ Q := fun U σ L G o =>
  em_op ((h U σ L G o).w fun v G1 ⟨e1, x, sx, hx⟩ => (hx U σ L G1 (o.mono e1)).w fun w G2 ⟨e2, y, sy, hy⟩ => (hy U L G2 v w o.lo (sx.mono e2) sy).w fun z G3 ⟨e3, k⟩ => ⟨(e1.trans e2).trans e3, k⟩)
theorem de_un {ru : V → Hp → VK → Prop} (h : DE K ta ρ fun x => DU K ru x Q) : DE K (tUn ru ta) ρ Q := fun U σ L G o =>
  em_un ((h U σ L G o).w fun v G1 ⟨e1, x, sx, hx⟩ => (hx U L G1 v o.lo sx).w fun z G3 ⟨e3, k⟩ => ⟨e1.trans e3, k⟩)
theorem dr_I {C : Int → Int → Prop} {g : Int → Int → V} {i j : Int} {d : D} (c : C i j) (h : ∀ F, Rp K F (g i j) d) (k : Q (.d d)) : DR K (rI C g) (.d (.int i)) (.d (.int j)) Q := fun U L G v w _ sx sy => by
  cases (sx : Rp K G v (.int i)); cases (sy : Rp K G w (.int j))
  exact rm_I c ⟨Ex.refl G, .d d, h G, k⟩
theorem dr_I0 {g : Int → Int → V} {i j : Int} {d : D} (h : ∀ F, Rp K F (g i j) d) (k : Q (.d d)) : DR K (rI0 g) (.d (.int i)) (.d (.int j)) Q := fun U L G v w _ sx sy => by
  cases (sx : Rp K G v (.int i)); cases (sy : Rp K G w (.int j))
  exact rm_I0 ⟨Ex.refl G, .d d, h G, k⟩
theorem du_U {g : Int → V} {i : Int} {d : D} (h : ∀ F, Rp K F (g i) d) (k : Q (.d d)) : DU K (rU g) (.d (.int i)) Q := fun U L G v _ sx => by
  cases (sx : Rp K G v (.int i))
  exact rm_U ⟨Ex.refl G, .d d, h G, k⟩
theorem dr_eqI {i j : Int} (k : Q (.d (.bl (decide (i = j))))) : DR K rEq (.d (.int i)) (.d (.int j)) Q := fun U L G v w _ sx sy => by
  cases (sx : Rp K G v (.int i)); cases (sy : Rp K G w (.int j))
  exact rm_eqI ⟨Ex.refl G, .d (.bl _), Rp.bl _, k⟩
theorem dr_neI {i j : Int} (k : Q (.d (.bl (!decide (i = j))))) : DR K rNe (.d (.int i)) (.d (.int j)) Q := fun U L G v w _ sx sy => by
  cases (sx : Rp K G v (.int i)); cases (sy : Rp K G w (.int j))
  exact rm_neI ⟨Ex.refl G, .d (.bl _), Rp.bl _, k⟩
theorem dr_eqS {i j : Str} (k : Q (.d (.bl (decide (i = j))))) : DR K rEq (.d (.str i)) (.d (.str j)) Q := fun U L G v w _ sx sy => by
  cases (sx : Rp K G v (.str i)); cases (sy : Rp K G w (.str j))
  exact rm_eqS ⟨Ex.refl G, .d (.bl _), Rp.bl _, k⟩
theorem dr_neS {i j : Str} (k : Q (.d (.bl (!decide (i = j))))) : DR K rNe (.d (.str i)) (.d (.str j)) Q := fun U L G v w _ sx sy => by
  cases (sx : Rp K G v (.str i)); cases (sy : Rp K G w (.str j))
  exact rm_neS ⟨Ex.refl G, .d (.bl _), Rp.bl _, k⟩
theorem dr_eqB {i j : Bool} (k : Q (.d (.bl (decide (i = j))))) : DR K rEq (.d (.bl i)) (.d (.bl j)) Q := fun U L G v w _ sx sy => by
  cases (sx : Rp K G v (.bl i)); cases (sy : Rp K G w (.bl j))
  exact rm_eqB ⟨Ex.refl G, .d (.bl _), Rp.bl _, k⟩
theorem dr_neB {i j : Bool} (k : Q (.d (.bl (!decide (i = j))))) : DR K rNe (.d (.bl i)) (.d (.bl j)) Q := fun U L G v w _ sx sy => by
  cases (sx : Rp K G v (.bl i)); cases (sy : Rp K G w (.bl j))
  exact rm_neB ⟨Ex.refl G, .d (.bl _), Rp.bl _, k⟩
theorem dr_isB {i j : Bool} (k : Q (.d (.bl (decide (i = j))))) : DR K rIsB (.d (.bl i)) (.d (.bl j)) Q := fun U L G v w _ sx sy => by
  cases (sx : Rp K G v (.bl i)); cases (sy : Rp K G w (.bl j))
  exact rm_isB ⟨Ex.refl G, .d (.bl _), Rp.bl _, k⟩
theorem dr_notB {i j : Bool} (k : Q (.d (.bl (!decide (i = j))))) : DR K rNotB (.d (.bl i)) (.d (.bl j)) Q := fun U L G v w _ sx sy => by
  cases (sx : Rp K G v (.bl i)); cases (sy : Rp K G w (.bl j))
  exact rm_notB ⟨Ex.refl G, .d (.bl _), Rp.bl _, k⟩
def D.isN : D → Bool
  | .non => true
  | _ => false
theorem isN_of {F : Hp} {v : V} {d : D} (h : Rp K F v d) : decide (v = .non) = d.isN := by
  cases h <;> simp [D.isN]
theorem dr_isN {d : D} (k : Q (.d (.bl d.isN))) : DR K rIsN (.d d) (.d .non) Q := fun U L G v w _ sx sy H j _ q => by
  cases (sy : Rp K G w .non)
  refine ⟨rfl, q _ _ _ j ⟨Ex.refl G, _, (?_ : SlotV K U L G (.d (.bl d.isN)) _), k⟩⟩
  rw [isN_of sx]; exact .bl _
theorem dr_notN {d : D} (k : Q (.d (.bl (!d.isN)))) : DR K rNotN (.d d) (.d .non) Q := fun U L G v w _ sx sy H j _ q => by
  cases (sy : Rp K G w .non)
  refine ⟨rfl, q _ _ _ j ⟨Ex.refl G, _, (?_ : SlotV K U L G (.d (.bl (!d.isN))) _), k⟩⟩
  rw [isN_of sx]; exact .bl _
/-- data compared; b says whether they are one -/
theorem dr_eqD {d e : D} (b : Bool) (hb : b = true ↔ d = e) (hd : d.plain = true) (he : e.plain = true) (sd : d.dep ≤ 60) (se : e.dep ≤ 60) (k : Q (.d (.bl b))) : DR K (rEqD K) (.d d) (.d e) Q := fun U L G v w _ sx sy =>
  rm_eqD (rp_dp d v hd sx) (rp_dp e w he sy) (py_shaped hd sd) (py_shaped he se) ⟨Ex.refl G, .d (.bl b), by
    have z : PyData.eqv d.py e.py = b := Bool.eq_iff_iff.mpr ((py_eqv d e hd he).trans hb.symm)
    rw [z]; exact .bl _, k⟩
theorem dr_neD {d e : D} (b : Bool) (hb : b = true ↔ d = e) (hd : d.plain = true) (he : e.plain = true) (sd : d.dep ≤ 60) (se : e.dep ≤ 60) (k : Q (.d (.bl (!b)))) : DR K (rNeD K) (.d d) (.d e) Q := fun U L G v w _ sx sy =>
  rm_neD (rp_dp d v hd sx) (rp_dp e w he sy) (py_shaped hd sd) (py_shaped he se) ⟨Ex.refl G, .d (.bl (!b)), by
    have z : PyData.eqv d.py e.py = b := Bool.eq_iff_iff.mpr ((py_eqv d e hd he).trans hb.symm)
    rw [z]; exact .bl _, k⟩
theorem dr_ixL {ds : List D} {i : Int} (h : ∃ d, atI ds i = some d ∧ Q (.d d)) : DR K (rIxL K) (.d (.lst ds)) (.d (.int i)) Q := fun U L G v w _ sx sy => by
  obtain ⟨d, e, q⟩ := h
  cases (sy : Rp K G w (.int i))
  cases (sx : Rp K G v (.lst ds)) with
  | lst a b =>
    obtain ⟨v, h1, h2⟩ := b.atI e
    exact rm_ixL (sq_of a) h1 ⟨Ex.refl G, .d d, h2, q⟩
theorem dr_ixO {ds : List D} {i : Int} (h : ∃ d, atI ds i = some d ∧ Q (.d d)) : DR K (rIxL K) (.own ds) (.d (.int i)) Q := fun U L G v w _ sx sy => by
  obtain ⟨d, e, q⟩ := h
  cases (sy : Rp K G w (.int i))
  obtain ⟨a, vs, rfl, hm, b⟩ := sx
  obtain ⟨v, h1, h2⟩ := b.atI e
  exact fun H j _ q' => ⟨a, vs, i, v, rfl, rfl, sq_of (j.hid.2 _ hm), h1, q' v H G j ⟨Ex.refl G, .d d, h2, q⟩⟩
theorem dr_ixT {ds : List D} {i : Int} (h : ∃ d, atI ds i = some d ∧ Q (.d d)) : DR K (rIxT K) (.d (.tup ds)) (.d (.int i)) Q := fun U L G v w _ sx sy => by
  obtain ⟨d, e, q⟩ := h
  cases (sy : Rp K G w (.int i))
  cases (sx : Rp K G v (.tup ds)) with
  | tup a b =>
    obtain ⟨v, h1, h2⟩ := b.atI e
    exact rm_ixT a h1 ⟨Ex.refl G, .d d, h2, q⟩
theorem dr_cat {ds es : List D} (hz : ds.length + es.length ≤ sizeLine) (k : Q (.d (.lst (ds ++ es)))) : DR K rCat (.d (.lst ds)) (.d (.lst es)) Q := fun U L G v w _ sx sy => by
  cases (sx : Rp K G v (.lst ds)) with
  | lst a b =>
    cases (sy : Rp K G w (.lst es)) with
    | lst a' b' => exact rm_cat a a' (by rw [b.len, b'.len]; exact hz) fun p G' _ e g => ⟨e, .d (.lst (ds ++ es)), .lst g ((b'.mono e).app (b.mono e)), k⟩
theorem dr_catT {ds es : List D} (hn : ds ≠ []) (hz : ds.length + es.length ≤ sizeLine) (k : Q (.d (.tup (ds ++ es)))) : DR K (rCatT K) (.d (.tup ds)) (.d (.tup es)) Q := fun U L G v w _ sx sy => by
  cases (sx : Rp K G v (.tup ds)) with
  | tup a b =>
    cases (sy : Rp K G w (.tup es)) with
    | tup a' b' => exact rm_catT a a' (fun z => by have := b.len; rw [z] at this; exact hn (List.length_eq_zero_iff.mp this.symm)) (by rw [b.len, b'.len]; exact hz) fun p G' e g => ⟨e, .d (.tup (ds ++ es)), .tup g ((b'.mono e).app (b.mono e)), k⟩
theorem de_orV (h : DE K ta ρ fun x => BE x fun c => if c = true then Q (.d (.bl true)) else DE K tb ρ Q) : DE K (tOrV ta tb) ρ Q := fun U σ L G o =>
  em_orV ((h U σ L G o).w fun v G1 ⟨e1, x, sx, b, eb, hb⟩ => by
    subst eb; cases (sx : Rp K G1 v (.bl b))
    refine ⟨b, rfl, ?_⟩
    cases b with
    | true => rw [if_pos rfl] at hb ⊢; exact ⟨e1, .d (.bl _), Rp.bl true, hb⟩
    | false => rw [if_neg Bool.false_ne_true] at hb ⊢; exact (hb U σ L G1 (o.mono e1)).w fun v G2 ⟨e2, k⟩ => ⟨e1.trans e2, k⟩)
theorem de_andV (h : DE K ta ρ fun x => BE x fun c => if c = true then DE K tb ρ Q else Q (.d (.bl false))) : DE K (tAndV ta tb) ρ Q := fun U σ L G o =>
  em_andV ((h U σ L G o).w fun v G1 ⟨e1, x, sx, b, eb, hb⟩ => by
    subst eb; cases (sx : Rp K G1 v (.bl b))
    refine ⟨b, rfl, ?_⟩
    cases b with
    | false => rw [if_neg Bool.false_ne_true] at hb ⊢; exact ⟨e1, .d (.bl _), Rp.bl false, hb⟩
    | true => rw [if_pos rfl] at hb ⊢; exact (hb U σ L G1 (o.mono e1)).w fun v G2 ⟨e2, k⟩ => ⟨e1.trans e2, k⟩)
theorem de_notV (h : DE K ta ρ fun x => BE x fun c => Q (.d (.bl (!c)))) : DE K (tNotV ta) ρ Q := fun U σ L G o =>
  em_notV ((h U σ L G o).w fun v G1 ⟨e1, x, sx, b, eb, hb⟩ => by
    subst eb; cases (sx : Rp K G1 v (.bl b))
    exact ⟨b, rfl, e1, .d (.bl _), Rp.bl _, hb⟩)
theorem de_if (h : DT K t ρ fun c => if c = true then DE K ta ρ Q else DE K tb ρ Q) : DE K (tIf t ta tb) ρ Q := fun U σ L G o =>
  em_if ((h U σ L G o).w fun c G1 ⟨e1, hb⟩ => by
    cases c with
    | true => rw [if_pos rfl] at hb ⊢; exact (hb U σ L G1 (o.mono e1)).w fun v G2 ⟨e2, k⟩ => ⟨e1.trans e2, k⟩
    | false => rw [if_neg Bool.false_ne_true] at hb ⊢; exact (hb U σ L G1 (o.mono e1)).w fun v G2 ⟨e2, k⟩ => ⟨e1.trans e2, k⟩)
theorem de_chain (h : DE K ta ρ fun x => DE K tb ρ fun y => DR K r x y fun z => BE z fun k => if k = true then DE K tc ρ fun w => DR K r' y w Q else Q (.d (.bl false))) : DE K (tChain r r' ta tb tc) ρ Q := fun U σ L G o =>
  em_chain ((h U σ L G o).w fun v G1 ⟨e1, x, sx, hx⟩ => (hx U σ L G1 (o.mono e1)).w fun w G2 ⟨e2, y, sy, hy⟩ => (hy U L G2 v w o.lo (sx.mono e2) sy).w fun z G3 ⟨e3, b', sz, b, eb, hb⟩ => by
    subst eb; cases (sz : Rp K G3 z (.bl b))
    refine ⟨b, rfl, ?_⟩
    cases b with
    | true =>
      rw [if_pos rfl] at hb ⊢
      exact (hb U σ L G3 (o.mono ((e1.trans e2).trans e3))).w fun s G4 ⟨e4, w', sw, hw⟩ => (hw U L G4 w s o.lo ((sy.mono e3).mono e4) sw).w fun z G5 ⟨e5, k⟩ => ⟨((e1.trans e2).trans e3).trans (e4.trans e5), k⟩
    | false => rw [if_neg Bool.false_ne_true] at hb ⊢; exact ⟨(e1.trans e2).trans e3, .d (.bl _), Rp.bl false, hb⟩)
theorem da_nil (k : QA []) : DA K tNil ρ QA := fun U σ L G o => am_nil ⟨Ex.refl G, [], .nil, k⟩
theorem da_cons (h : DE K ta ρ fun x => DD x fun d => DA K tr ρ fun ds => QA (d :: ds)) : DA K (tCons ta tr) ρ QA := fun U σ L G o =>
  am_cons ((h U σ L G o).w fun v G1 ⟨e1, x, sx, d, ed, hd⟩ => (hd U σ L G1 (o.mono e1)).w fun vs G2 ⟨e2, ds, sd, k⟩ => ⟨e1.trans e2, d :: ds, .cons (by subst ed; exact SlotV.mono sx e2) sd, k⟩)
theorem da_star (h : DE K ta ρ fun x => SE x fun es => DA K tr ρ fun ds => QA (es ++ ds)) : DA K (tStar K ta tr) ρ QA := fun U σ L G o H j QH q =>
  h U σ L G o H j _ fun v H1 G1 j1 ⟨e1, x, sx, es, ed, hd⟩ => by
    have k : ∃ p xs, v = V.ref p ∧ (SqT K H1 p xs ∨ SqL K H1 p xs) ∧ RpA K G1 xs es := by
      rcases ed with rfl | rfl | rfl
      · cases (sx : Rp K G1 v (.tup es)) with | tup a b => exact ⟨_, _, rfl, .inl (ex_t j1.up a), b⟩
      · cases (sx : Rp K G1 v (.lst es)) with | lst a b => exact ⟨_, _, rfl, .inr (ex_l j1.up (sq_of a)), b⟩
      · obtain ⟨a, vs, rfl, hm, b⟩ := sx
        exact ⟨_, _, rfl, .inr (sq_of (j1.hid.2 _ hm)), b⟩
    obtain ⟨p, xs, rfl, hp, b⟩ := k
    exact ⟨p, xs, rfl, hp, hd U σ L G1 (o.mono e1) H1 j1 _ fun vs H2 G2 j2 ⟨e2, ds, sd, k⟩ => q _ _ _ j2 ⟨e1.trans e2, es ++ ds, sd.app (b.mono e2), k⟩⟩
theorem de_lst (h : DA K tas ρ fun ds => Sz ds.length (Q (.d (.lst ds)))) : DE K (tLst tas) ρ Q := fun U σ L G o =>
  em_lst ((h U σ L G o).w fun vs G1 ⟨e1, ds, sd, hz, k⟩ => ⟨by rw [sd.len]; exact hz, fun p G2 _ e2 g => ⟨e1.trans e2, .d (.lst ds), .lst g (sd.mono e2), k⟩⟩)
theorem de_tup (h : DA K tas ρ fun ds => Sz ds.length (Q (.d (.tup ds)))) : DE K (tTup tas) ρ Q := fun U σ L G o =>
  em_tup ((h U σ L G o).w fun vs G1 ⟨e1, ds, sd, hz, k⟩ => ⟨by rw [sd.len]; exact hz, fun p G2 _ e2 g => ⟨e1.trans e2, .d (.tup ds), .tup (st_of g) (sd.mono e2), k⟩⟩)
theorem dn_lst {QN : List D → Prop} (h : DA K tas ρ fun ds => Sz ds.length (QN ds)) : DN K (tLst tas) ρ QN := fun U σ L G o =>
  em_lst ((h U σ L G o).w fun vs G1 ⟨e1, ds, sd, hz, k⟩ => ⟨by rw [sd.len]; exact hz, fun p G2 n e2 g => ⟨p, vs, ds, G1, rfl, e1, n, e2, g, sd, k⟩⟩)
theorem de_cb {rc : List V → Hp → VK → Prop} (h : DA K tas ρ fun ds => DB K rc ds Q) : DE K (tCB rc tas) ρ Q := fun U σ L G o =>
  em_cb ((h U σ L G o).w fun vs G1 ⟨e1, ds, sd, hd⟩ => (hd U L G1 vs o.lo sd).w fun z G3 ⟨e3, k⟩ => ⟨e1.trans e3, k⟩)
theorem de_bits (h : DE K ta ρ fun x => IE x fun i => Q (.d (.int (Builtin.Int.intBits i : Nat)))) : DE K (tBits ta) ρ Q := fun U σ L G o =>
  em_bits ((h U σ L G o).w fun v G1 ⟨e1, x, sx, i, ei, k⟩ => by subst ei; cases (sx : Rp K G1 v (.int i)); exact ⟨i, rfl, e1, .d (.int _), Rp.int _, k⟩)
theorem de_call {sp : Sp} {E' : XK} (h : DA K tas ρ fun ds => DC K sp ds Q) : DE K (tCall sp [] E' tas) ρ Q := fun U σ L G o =>
  em_call ((h U σ L G o).w fun vs G1 ⟨e1, ds, sd, hd⟩ => (hd U L G1 vs o.lo sd).w fun z G3 ⟨e3, k⟩ => ⟨e1.trans e3, k⟩)
/-! ### len and its like, of a list of the def's own -/
theorem de_lenO {i : Nat} (h : ∃ ds, ρ[i]? = some (.own ds) ∧ Q (.d (.int (ds.length : Nat)))) : DE K (tCB (rLenQ K) (tCons (tVar i) tNil)) ρ Q := fun U σ L G o H j QH q => by
  obtain ⟨ds, h1, h2⟩ := h
  obtain ⟨v, h3, a, vs, rfl, hm, b⟩ := o.at h1 rfl
  refine ⟨_, h3, a, vs, rfl, .inl (sq_of (j.hid.2 _ hm)), q _ _ _ j ⟨Ex.refl G, .d (.int (ds.length : Nat)), ?_, h2⟩⟩
  rw [b.len]; exact .int _
theorem db_lenL {ds : List D} (k : Q (.d (.int (ds.length : Nat)))) : DB K (rLenQ K) [.lst ds] Q := fun U L G vs _ h => by
  cases h with
  | cons a n => cases n; cases a with | lst x b => exact rm_lenL (sq_of x) ⟨Ex.refl G, .d (.int (ds.length : Nat)), by rw [b.len]; exact .int _, k⟩
theorem db_lenT {ds : List D} (k : Q (.d (.int (ds.length : Nat)))) : DB K (rLenQ K) [.tup ds] Q := fun U L G vs _ h => by
  cases h with
  | cons a n => cases n; cases a with | tup x b => exact rm_lenT x ⟨Ex.refl G, .d (.int (ds.length : Nat)), by rw [b.len]; exact .int _, k⟩
theorem db_lenM {α : Type} {f : α → D} {xs : List α} (k : Q (.d (.int (xs.length : Nat)))) : DB K (rLenQ K) [.lst (xs.map f)] Q := db_lenL (by rw [List.length_map]; exact k)
theorem db_lenMT {α : Type} {f : α → D} {xs : List α} (k : Q (.d (.int (xs.length : Nat)))) : DB K (rLenQ K) [.tup (xs.map f)] Q := db_lenT (by rw [List.length_map]; exact k)
theorem db_int {i : Int} (k : Q (.d (.int i))) : DB K rIntQ [.int i] Q := fun U L G vs _ h => by
  cases h with | cons a n => cases n; cases a; exact rm_int ⟨Ex.refl G, .d (.int _), Rp.int _, k⟩
theorem db_intB {b : Bool} (k : Q (.d (.int (if b then 1 else 0)))) : DB K rIntQ [.bl b] Q := fun U L G vs _ h => by
  cases h with | cons a n => cases n; cases a; exact fun H j _ q => .inr ⟨b, rfl, q _ _ _ j ⟨Ex.refl G, .d (.int _), Rp.int _, k⟩⟩
theorem db_max {i l : Int} (k : Q (.d (.int (if l > i then l else i)))) : DB K rMaxQ [.int i, .int l] Q := fun U L G vs _ h => by
  cases h with | cons a n => cases n with | cons a' n => cases n; cases a; cases a'; exact rm_max ⟨Ex.refl G, .d (.int _), Rp.int _, k⟩
theorem db_min {i l : Int} (k : Q (.d (.int (if l < i then l else i)))) : DB K rMinQ [.int i, .int l] Q := fun U L G vs _ h => by
  cases h with | cons a n => cases n with | cons a' n => cases n; cases a; cases a'; exact rm_min ⟨Ex.refl G, .d (.int _), Rp.int _, k⟩
theorem db_listL {ds : List D} (k : Q (.d (.lst ds))) : DB K (rListQ K) [.lst ds] Q := fun U L G vs _ h => by
  cases h with
  | cons a n => cases n; cases a with | lst x b => exact rm_list (.inl (sq_of x)) fun l G' _ e g => ⟨e, .d (.lst ds), .lst g (b.mono e), k⟩
theorem db_listT {ds : List D} (k : Q (.d (.lst ds))) : DB K (rListQ K) [.tup ds] Q := fun U L G vs _ h => by
  cases h with
  | cons a n => cases n; cases a with | tup x b => exact rm_list (.inr x) fun l G' _ e g => ⟨e, .d (.lst ds), .lst g (b.mono e), k⟩
theorem db_tupL {ds : List D} (k : Q (.d (.tup ds))) : DB K (rTupQ K) [.lst ds] Q := fun U L G vs _ h => by
  cases h with
  | cons a n => cases n; cases a with | lst x b => exact rm_tupL (sq_of x) fun l G' _ e g => ⟨e, .d (.tup ds), .tup (st_of g) (b.mono e), k⟩
theorem db_tupT {ds : List D} (k : Q (.d (.tup ds))) : DB K (rTupQ K) [.tup ds] Q := fun U L G vs _ h => by
  cases h with
  | cons a n => cases n; cases a with | tup x b => exact rm_tupT x ⟨Ex.refl G, .d (.tup ds), .tup x b, k⟩
theorem rpa_ints {F : Hp} {ns : List Int} : ∀ {vs : List V}, RpA K F vs (ns.map D.int) → vs = ns.map V.int := by
  induction ns with
  | nil => intro vs h; cases h; rfl
  | cons n ns ih => intro vs h; cases h with | cons a b => cases a; rw [ih b]; rfl
theorem rpa_bls {F : Hp} {ns : List Bool} : ∀ {vs : List V}, RpA K F vs (ns.map D.bl) → vs = ns.map V.bl := by
  induction ns with
  | nil => intro vs h; cases h; rfl
  | cons n ns ih => intro vs h; cases h with | cons a b => cases a; rw [ih b]; rfl
theorem db_sum {ns : List Int} (k : Q (.d (.int ns.sum))) : DB K (rSum K) [.lst (ns.map D.int)] Q := fun U L G vs _ h => by
  cases h with
  | cons a n => cases n; cases a with | lst x b => rw [rpa_ints b] at x; exact rm_sum (sq_of x) ⟨Ex.refl G, .d (.int _), Rp.int _, k⟩
theorem db_all {ns : List Bool} (k : Q (.d (.bl (ns.all id)))) : DB K (rAll K) [.lst (ns.map D.bl)] Q := fun U L G vs _ h => by
  cases h with
  | cons a n => cases n; cases a with | lst x b => rw [rpa_bls b] at x; exact rm_all (sq_of x) ⟨Ex.refl G, .d (.bl _), Rp.bl _, k⟩
theorem db_any {ns : List Bool} (k : Q (.d (.bl (ns.any id)))) : DB K (rAny K) [.lst (ns.map D.bl)] Q := fun U L G vs _ h => by
  cases h with
  | cons a n => cases n; cases a with | lst x b => rw [rpa_bls b] at x; exact rm_any (sq_of x) ⟨Ex.refl G, .d (.bl _), Rp.bl _, k⟩
/-! ### slices -/
def cutO (ds : List D) (lo hi : Option Int) : List D := (ds.drop (HT.sIx ds.length 0 lo)).take (HT.sIx ds.length ds.length hi - HT.sIx ds.length 0 lo)
theorem do_none {QO : Option Int → Prop} (k : QO none) : DO K tNoPart ρ QO := fun U σ L G o => om_none ⟨Ex.refl G, k⟩
theorem do_some {QO : Option Int → Prop} (h : DE K te ρ fun x => IE x fun i => QO (some i)) : DO K (tPart te) ρ QO := fun U σ L G o =>
  om_some ((h U σ L G o).w fun v G1 ⟨e1, x, sx, i, ei, k⟩ => by subst ei; cases (sx : Rp K G1 v (.int i)); exact ⟨i, rfl, e1, k⟩)
/-- a slice by its reading -/
def DSl (K : PySem.W.Frag) (r : V → Option Int → Option Int → Hp → VK → Prop) (x : E) (lo hi : Option Int) (Q : E → Prop) : Prop := ∀ U L G v, LOk U L → SlotV K U L G x v → RM (U.hides L) (r v lo hi) G (Po K U L G Q)
theorem de_sl {r : V → Option Int → Option Int → Hp → VK → Prop} {tl th : TO} (h : DE K te ρ fun x => DO K tl ρ fun l => DO K th ρ fun u => DSl K r x l u Q) : DE K (tSl r te tl th) ρ Q := fun U σ L G o =>
  em_sl ((h U σ L G o).w fun v G1 ⟨e1, x, sx, hx⟩ => (hx U σ L G1 (o.mono e1)).w fun l G2 ⟨e2, h2⟩ => (h2 U σ L G2 (o.mono (e1.trans e2))).w fun u G3 ⟨e3, h3⟩ => (h3 U L G3 v o.lo ((sx.mono e2).mono e3)).w fun z G4 ⟨e4, k⟩ => ⟨((e1.trans e2).trans e3).trans e4, k⟩)
theorem dsl_L {ds : List D} {lo hi : Option Int} (k : Q (.d (.lst (cutO ds lo hi)))) : DSl K (rSlL K) (.d (.lst ds)) lo hi Q := fun U L G v _ sx => by
  cases (sx : Rp K G v (.lst ds)) with
  | lst a b => exact rm_slL (sq_of a) fun p G' _ e g => ⟨e, .d (.lst (cutO ds lo hi)), .lst g ((b.mono e).cut lo hi), k⟩
theorem dsl_O {ds : List D} {lo hi : Option Int} (k : Q (.d (.lst (cutO ds lo hi)))) : DSl K (rSlL K) (.own ds) lo hi Q := fun U L G v _ sx H j _ q => by
  obtain ⟨a, vs, rfl, hm, b⟩ := sx
  exact ⟨a, vs, rfl, sq_of (j.hid.2 _ hm), fun p hp => q _ _ _ (j.alloc hp) ⟨Ex.new (j.free hp), .d (.lst (cutO ds lo hi)), .lst upd_same ((b.mono (Ex.new (j.free hp))).cut lo hi), k⟩⟩
theorem dsl_T {ds : List D} {lo hi : Option Int} (hn : ¬ (HT.sIx ds.length 0 lo = 0 ∧ HT.sIx ds.length ds.length hi = ds.length)) (k : Q (.d (.tup (cutO ds lo hi)))) : DSl K (rSlT K) (.d (.tup ds)) lo hi Q := fun U L G v _ sx => by
  cases (sx : Rp K G v (.tup ds)) with
  | tup a b => exact rm_slT a (by rw [b.len]; exact hn) fun p G' e g => ⟨e, .d (.tup (cutO ds lo hi)), .tup (st_of g) ((b.mono e).cut lo hi), k⟩
theorem de_revL (h : DE K te ρ fun x => ∃ ds, (x = .d (.lst ds) ∨ x = .own ds) ∧ Q (.d (.lst ds.reverse))) : DE K (tRevL K te) ρ Q := fun U σ L G o H j QH q =>
  h U σ L G o H j _ fun v H1 G1 j1 ⟨e1, x, sx, es, ed, hd⟩ => by
    have k : ∃ p xs, v = V.ref p ∧ SqL K H1 p xs ∧ RpA K G1 xs es := by
      rcases ed with rfl | rfl
      · cases (sx : Rp K G1 v (.lst es)) with | lst a b => exact ⟨_, _, rfl, ex_l j1.up (sq_of a), b⟩
      · obtain ⟨a, vs, rfl, hm, b⟩ := sx
        exact ⟨_, _, rfl, sq_of (j1.hid.2 _ hm), b⟩
    obtain ⟨p, xs, rfl, hp, b⟩ := k
    exact ⟨p, xs, rfl, hp, fun l hl => q _ _ _ (j1.alloc hl) ⟨e1.trans (Ex.new (j1.free hl)), .d (.lst es.reverse), .lst upd_same (b.mono (Ex.new (j1.free hl))).rev, hd⟩⟩
/-! ### fields and methods -/
theorem lk_of {F : Hp} : ∀ {fvs : List (Str × V)} {ds : List D}, RpA K F (fvs.map (·.2)) ds → ∀ {f : Str} {d : D}, ((fvs.map (·.1)).zip ds).lookup f = some d → ∃ v, fvs.lookup f = some v ∧ Rp K F v d
  | [], ds, h, f, d, e => by simp at e
  | (k, v) :: fvs, ds, h, f, d, e => by
    cases ds with
    | nil => cases h
    | cons d' ds =>
      cases h with
      | cons a b =>
        simp only [List.map_cons, List.zip_cons_cons, List.lookup_cons] at e ⊢
        cases z : f == k with
        | true => rw [z] at e; simp at e; subst e; exact ⟨v, by simp, a⟩
        | false => rw [z] at e; simp at e ⊢; exact lk_of b e
theorem lk_none : ∀ {fvs : List (Str × V)} {f : Str}, f ∉ fvs.map (·.1) → fvs.lookup f = none
  | [], f, h => rfl
  | (k, v) :: fvs, f, h => by
    simp only [List.map_cons, List.mem_cons, not_or] at h
    rw [List.lookup_cons]
    have : (f == k) = false := by simpa using h.1
    rw [this]
    exact lk_none h.2
theorem de_fld {f : Str} (h : DE K ta ρ fun x => FE K f x fun d => Q (.d d)) : DE K (tFld K ta f) ρ Q := fun U σ L G o =>
  em_fld ((h U σ L G o).w fun v G1 ⟨e1, x, sx, C, ks, ds, ed, hc, hn, d, hl, k⟩ => by
    subst ed
    cases (sx : Rp K G1 v (.obj C ks ds)) with
    | obj a kk b =>
      subst kk
      obtain ⟨w, h1, h2⟩ := lk_of b hl
      exact ⟨_, C, _, _, w, rfl, a, hc, hn, h1, e1, .d d, h2, k⟩)
theorem de_meth {C : Addr} {m : Str} {sp : Sp} {E' : XK} (h : DE K ta ρ fun x => ME C m x fun ks ds => DA K tas ρ fun as => DC K sp (.obj C ks ds :: as) Q) : DE K (tMeth C m sp [] E' ta tas) ρ Q := fun U σ L G o =>
  em_meth ((h U σ L G o).w fun v G1 ⟨e1, x, sx, ks, ds, ed, hn, hd⟩ => by
    subst ed
    cases id (sx : Rp K G1 v (.obj C ks ds)) with
    | obj a kk b =>
      subst kk
      exact ⟨_, _, _, rfl, a, lk_none hn, (hd U σ L G1 (o.mono e1)).w fun vs G2 ⟨e2, as, sa, k⟩ => (k U L G2 _ o.lo (.cons (Rp.mono (.obj a rfl b) e2) sa)).w fun z G3 ⟨e3, k⟩ => ⟨(e1.trans e2).trans e3, k⟩⟩)
/-! ### tests -/
theorem dt_test (h : DE K te ρ fun x => BE x fun k => QT k) : DT K (tTest te) ρ QT := fun U σ L G o =>
  tm_test ((h U σ L G o).w fun v G1 ⟨e1, x, sx, b, eb, hb⟩ => by subst eb; cases (sx : Rp K G1 v (.bl b)); exact ⟨b, rfl, e1, hb⟩)
theorem dt_B (h : DE K te ρ fun x => BE x fun k => QT k) : DT K (tB te) ρ QT := fun U σ L G o =>
  tm_B ((h U σ L G o).w fun v G1 ⟨e1, x, sx, b, eb, hb⟩ => by subst eb; cases (sx : Rp K G1 v (.bl b)); exact ⟨b, rfl, e1, hb⟩)
theorem dt_and (h : DT K t ρ fun c => if c = true then DT K u ρ QT else QT false) : DT K (tAnd t u) ρ QT := fun U σ L G o =>
  tm_and ((h U σ L G o).w fun c G1 ⟨e1, hb⟩ => by
    cases c with
    | true => rw [if_pos rfl] at hb ⊢; exact (hb U σ L G1 (o.mono e1)).w fun v G2 ⟨e2, k⟩ => ⟨e1.trans e2, k⟩
    | false => rw [if_neg Bool.false_ne_true] at hb ⊢; exact ⟨e1, hb⟩)
theorem dt_or (h : DT K t ρ fun c => if c = true then QT true else DT K u ρ QT) : DT K (tOr t u) ρ QT := fun U σ L G o =>
  tm_or ((h U σ L G o).w fun c G1 ⟨e1, hb⟩ => by
    cases c with
    | true => rw [if_pos rfl] at hb ⊢; exact ⟨e1, hb⟩
    | false => rw [if_neg Bool.false_ne_true] at hb ⊢; exact (hb U σ L G1 (o.mono e1)).w fun v G2 ⟨e2, k⟩ => ⟨e1.trans e2, k⟩)
theorem dt_not (h : DT K t ρ fun c => QT (!c)) : DT K (tNot t) ρ QT := fun U σ L G o => tm_not (h U σ L G o)
theorem dt_yes (k : QT true) : DT K tYes ρ QT := fun U σ L G o => tm_yes ⟨Ex.refl G, k⟩
/-! ### targets -/
variable {N : List E → Prop}
theorem dg_name {i : Nat} {e : E} {ρ' : List E} (f : e.free = true) (hr : ρ.set i e = ρ') (k : N ρ') : DG K (gName i) e ρ N := fun U σ L G v o s => gm_name ⟨Ex.refl G, _, o.set f s, by rw [hr]; exact k⟩
theorem dg_tup {n : Nat} {gs : TGs} {ds : List D} (hl : ds.length = n) (k : DGs K gs ds ρ N) : DG K (gTup K n gs) (.d (.tup ds)) ρ N := fun U σ L G v o s => by
  cases (s : Rp K G v (.tup ds)) with
  | tup a b => exact gm_tup a (by rw [b.len]; exact hl) (k U σ L G _ o b)
theorem dgs_nil (k : N ρ) : DGs K gNil [] ρ N := fun U σ L G vs o s => by cases s; exact gs_nil ⟨Ex.refl G, ρ, o, k⟩
theorem dgs_cons {g : TG} {gs : TGs} {d : D} {ds : List D} (k : DG K g (.d d) ρ fun ρ' => DGs K gs ds ρ' N) : DGs K (gCons g gs) (d :: ds) ρ N := fun U σ L G vs o s => by
  cases s with
  | cons a b => exact gs_cons ((k U σ L G _ o a).w fun σ1 G1 ⟨e1, ρ1, o1, k1⟩ => (k1 U σ1 L G1 _ o1 (b.mono e1)).w fun σ2 G2 ⟨e2, k2⟩ => ⟨e1.trans e2, k2⟩)
end
end Wp

set_option Elab.async false
set_option linter.all false
set_option maxRecDepth 100000
set_option maxHeartbeats 4000000
namespace Wp
open PySem L2 Evl StX
set_option autoImplicit false
def KN (K : PySem.W.Frag) (U : Vx) (kn : L2.St → Hp → Prop) (G : Hp) (N : List E → Prop) : Prop := ∀ ρ' σ' L' G', N ρ' → EnvOk K U ρ' σ' L' G' → Ex G G' → KM (U.hides L') kn σ' G'
def KR (K : PySem.W.Frag) (U : Vx) (rt : VK) (G : Hp) (R : D → Prop) : Prop := ∀ d v L' G', R d → Rp K G' v d → Ex G G' → LOk U L' → KV (U.hides L') rt v G'
def DS (K : PySem.W.Frag) (ts : TS) (ρ : List E) (N B C : List E → Prop) (R : D → Prop) : Prop := ∀ U σ L G (Dn : Ends), EnvOk K U ρ σ L G → KN K U Dn.nx G N → KN K U Dn.bk G B → KN K U Dn.ct G C → KR K U Dn.rt G R → SM (U.hides L) ts Dn σ G
/-- weaker, and then P -/
def Wk (P : List E → Prop) : List E → Prop := fun ρ => ∃ ρ', EnvLe ρ ρ' ∧ P ρ'
/-- behind the change of a slot -/
def SetTo (ρ : List E) (i : Nat) (e : E) (N : List E → Prop) : Prop := ∃ ρ', ρ.set i e = ρ' ∧ N ρ'
theorem set_to {ρ ρ' : List E} {i : Nat} {e : E} {N : List E → Prop} (h : ρ.set i e = ρ') (k : N ρ') : SetTo ρ i e N := ⟨ρ', h, k⟩
section
variable {K : PySem.W.Frag} {U : Vx} {kn : L2.St → Hp → Prop} {rt : VK} {G G' : Hp} {N : List E → Prop} {R : D → Prop}
theorem KN.mono (h : KN K U kn G N) (e : Ex G G') : KN K U kn G' N := fun ρ' σ' L' G2 n o e2 => h ρ' σ' L' G2 n o (e.trans e2)
theorem KR.mono (h : KR K U rt G R) (e : Ex G G') : KR K U rt G' R := fun d v L' G2 r s e2 lo => h d v L' G2 r s (e.trans e2) lo
theorem Ex.wo' {G G1 : Hp} {p : Addr} (n : G p = none) (e : Ex G G1) : Ex G (wo p G1) := fun a u h => by
  have : a ≠ p := fun z => by rw [z, n] at h; cases h
  rw [wo_ne this]; exact e a u h
end
section
variable {K : PySem.W.Frag} {ρ : List E} {te ti tl : TE} {tt : TT} {g : TG} {ts t1 t2 : TS} {ta : TA} {N B C : List E → Prop} {R : D → Prop} {Q : E → Prop}
theorem ds_seq (h : DS K t1 ρ (fun ρ' => DS K t2 ρ' N B C R) B C R) : DS K (tSeq t1 t2) ρ N B C R := fun U σ L G Dn o n b c r =>
  sm_seq (h U σ L G ⟨t2 Dn, Dn.rt, Dn.bk, Dn.ct⟩ o (fun ρ' σ' L' G' k o' e => fun H j => k U σ' L' G' Dn o' (n.mono e) (b.mono e) (c.mono e) (r.mono e) H j) b c r)
theorem ds_next (k : N ρ) : DS K tNext ρ N B C R := fun U σ L G Dn o n b c r => sm_next (n ρ σ L G k o (Ex.refl G))
theorem ds_brk (k : B ρ) : DS K tBreak ρ N B C R := fun U σ L G Dn o n b c r => sm_brk (b ρ σ L G k o (Ex.refl G))
theorem ds_cont (k : C ρ) : DS K tCont ρ N B C R := fun U σ L G Dn o n b c r => sm_cont (c ρ σ L G k o (Ex.refl G))
theorem ds_asg (h : DE K te ρ fun e => DG K g e ρ N) : DS K (tAsg te g) ρ N B C R := fun U σ L G Dn o n b c r =>
  sm_asg ((h U σ L G o).w fun v G1 ⟨e1, x, sx, hx⟩ => (hx U σ L G1 v (o.mono e1) sx).w fun σ2 G2 ⟨e2, ρ2, o2, n2⟩ => n ρ2 σ2 L G2 n2 o2 (e1.trans e2))
theorem ds_drop (h : DE K te ρ fun _ => N ρ) : DS K (tDrop te) ρ N B C R := fun U σ L G Dn o n b c r =>
  sm_drop ((h U σ L G o).w fun v G1 ⟨e1, x, sx, hx⟩ => n ρ σ L G1 hx (o.mono e1) e1)
theorem ds_ret (h : DE K te ρ fun e => DD e R) : DS K (tRet te) ρ N B C R := fun U σ L G Dn o n b c r =>
  sm_ret ((h U σ L G o).w fun v G1 ⟨e1, x, sx, d, ed, hd⟩ => by subst ed; exact r d v L G1 hd sx e1 o.lo)
theorem ds_retN (h : R .non) : DS K tRetN ρ N B C R := fun U σ L G Dn o n b c r => sm_retN (r .non .non L G h .non (Ex.refl G) o.lo)
theorem ds_if (h : DT K tt ρ fun c => if c = true then DS K t1 ρ N B C R else DS K t2 ρ N B C R) : DS K (tIfS tt t1 t2) ρ N B C R := fun U σ L G Dn o n b c r =>
  sm_if ((h U σ L G o).w fun x G1 ⟨e1, hb⟩ => by
    cases x with
    | true => rw [if_pos rfl] at hb ⊢; exact hb U σ L G1 Dn (o.mono e1) (n.mono e1) (b.mono e1) (c.mono e1) (r.mono e1)
    | false => rw [if_neg Bool.false_ne_true] at hb ⊢; exact hb U σ L G1 Dn (o.mono e1) (n.mono e1) (b.mono e1) (c.mono e1) (r.mono e1))
theorem ds_cut (P : List E → Prop) (h : DS K ts ρ (Wk P) B C R) (k : ∀ ρ', P ρ' → N ρ') : DS K (tCut ts) ρ N B C R := fun U σ L G Dn o n b c r H j =>
  ⟨fun σ' H' => ∃ ρ' L' G', P ρ' ∧ EnvOk K U ρ' σ' L' G' ∧ Ex G G' ∧ J (U.hides L') H' G', fun σ' H' ⟨ρ', L', G', p, o', e', j'⟩ => n ρ' σ' L' G' (k ρ' p) o' e' H' j',
    h U σ L G ⟨fun σ' H' => ∃ ρ' L' G', P ρ' ∧ EnvOk K U ρ' σ' L' G' ∧ Ex G G' ∧ J (U.hides L') H' G', Dn.rt, Dn.bk, Dn.ct⟩ o (fun ρ' σ' L' G' ⟨ρ2, le, p⟩ o' e H' j' => ⟨ρ2, L', G', p, o'.le le, e, j'⟩) b c r H j⟩
/-- the def's own list is a datum from here on -/
theorem ds_freeze (i : Nat) {ds : List D} {ρ' : List E} (hi : ρ[i]? = some (.own ds)) (hr : ρ.set i (.d (.lst ds)) = ρ') (h : DS K ts ρ' N B C R) : DS K ts ρ N B C R := fun U σ L G Dn o n b c r H j => by
  obtain ⟨v, h3, a, vs, rfl, hm, k⟩ := o.at hi rfl
  have na : G a = none := (j.msk a (.inr ⟨vs, hm⟩)).1
  have e : Ex G (upd G a (.lst vs)) := Ex.new na
  obtain ⟨n1, n2, _⟩ := o.lo.nm _ hm
  subst hr
  exact h U σ _ _ Dn (o.shown hi h3 hm k na) (n.mono e) (b.mono e) (c.mono e) (r.mono e) H (j.show hm n1 n2)
theorem ds_retO {i : Nat} (h : ∃ ds, ρ[i]? = some (.own ds) ∧ R (.lst ds)) : DS K (tRet (tVar i)) ρ N B C R := by
  obtain ⟨ds, h1, h2⟩ := h
  refine ds_freeze i h1 rfl (ds_ret (de_var ⟨.d (.lst ds), ?_, rfl, ⟨_, rfl, h2⟩⟩))
  have hl := (List.getElem?_eq_some_iff.mp h1).1
  rw [List.getElem?_set_self hl]
/-- a new list stays the def's own -/
theorem ds_own {i : Nat} (h : DN K te ρ fun ds => SetTo ρ i (.own ds) N) : DS K (tAsg te (gName i)) ρ N B C R := fun U σ L G Dn o n b c r H j =>
  h U σ L G o H j _ fun v H1 G1 j1 ⟨p, vs, ds, G0, ev, e1, np, e2, gp, k, ρ', hr, kn⟩ => by
    subst ev hr
    have hp : U.Ge p = none := none_of_ex o.ge (none_of_ex e1 np)
    have o1 := (o.mono e1)
    have hl : ∀ ws, (p, ws) ∉ L := fun ws hw => by
      have := (j1.msk p (.inr ⟨ws, hw⟩)).1
      rw [gp] at this; cases this
    have hm : ¬ U.m p := fun z => by
      have := (j1.msk p (.inl z)).1
      rw [gp] at this; cases this
    have hn : U.He p = none := j1.new p (by rw [gp]; exact fun q => by cases q) hp
    exact n _ _ _ _ kn (o1.own np e2 k hl hm hn hp) (e1.trans (Ex.wo' np e2)) H1 (j1.own gp hp)
/-- xs.append(e) of the def's own list -/
theorem ds_append {i : Nat} (h : ∃ ds, ρ[i]? = some (.own ds) ∧ DE K te ρ fun e => DD e fun d => ds.length < sizeLine ∧ SetTo ρ i (.own (ds ++ [d])) N) : DS K (tDrop (tBM K "list" rAppend (tVar i) (tCons te tNil))) ρ N B C R := fun U σ L G Dn o n b c r H j => by
  obtain ⟨ds, hi, h⟩ := h
  obtain ⟨v, h3, a, vs, rfl, hm, k⟩ := o.at hi rfl
  obtain ⟨n1, n2, _⟩ := o.lo.nm _ hm
  refine ⟨_, h3, .inl ⟨rfl, vs, sq_of (j.hid.2 _ hm)⟩, h U σ L G o H j _ fun y H1 G1 j1 ⟨e1, x, sx, d, ed, hz, ρ', hr, kn⟩ => ⟨a, vs, y, rfl, rfl, j1.hid.2 _ hm, by rw [k.len]; exact hz, ?_⟩⟩
  subst ed hr
  exact n _ _ _ _ kn ((o.mono e1).chg hi h3 hm ((RpA.one sx).app (k.mono e1))) e1 _ (j1.chg hm n1 n2)
theorem ds_extend {i : Nat} (h : ∃ ds, ρ[i]? = some (.own ds) ∧ DE K te ρ fun e => ∃ es, e = .d (.lst es) ∧ ds.length + es.length ≤ sizeLine ∧ SetTo ρ i (.own (ds ++ es)) N) : DS K (tDrop (tBM K "list" rExtend (tVar i) (tCons te tNil))) ρ N B C R := fun U σ L G Dn o n b c r H j => by
  obtain ⟨ds, hi, h⟩ := h
  obtain ⟨v, h3, a, vs, rfl, hm, k⟩ := o.at hi rfl
  obtain ⟨n1, n2, _⟩ := o.lo.nm _ hm
  refine ⟨_, h3, .inl ⟨rfl, vs, sq_of (j.hid.2 _ hm)⟩, h U σ L G o H j _ fun y H1 G1 j1 ⟨e1, x, sx, es, ed, hz, ρ', hr, kn⟩ => ?_⟩
  subst ed hr
  cases (sx : Rp K G1 y (.lst es)) with
  | lst p q => exact ⟨a, _, vs, _, rfl, rfl, j1.hid.2 _ hm, j1.up _ _ p, by rw [k.len, q.len]; exact hz, n _ _ _ _ kn ((o.mono e1).chg hi h3 hm (q.app (k.mono e1))) e1 _ (j1.chg hm n1 n2)⟩
/-- xs[i] = v of the def's own list -/
theorem ds_store {i : Nat} (h : DE K te ρ fun e => DD e fun d => ∃ ds, ρ[i]? = some (.own ds) ∧ DE K ti ρ fun y => IE y fun m => ∃ j, ixN ds.length m = some j ∧ SetTo ρ i (.own (ds.set j d)) N) : DS K (tAsg te (gSub (tVar i) ti rSetL)) ρ N B C R := fun U σ L G Dn o n b c r H j => by
  refine h U σ L G o H j _ fun w H1 G1 j1 ⟨e1, x, sx, d, ed, ds, hi, k2⟩ => ?_
  obtain ⟨v, h3, a, vs, rfl, hm, k⟩ := (o.mono e1).at hi rfl
  obtain ⟨n1, n2, _⟩ := o.lo.nm _ hm
  refine ⟨_, h3, k2 U σ L G1 (o.mono e1) H1 j1 _ fun y H2 G2 j2 ⟨e2, z, sz, m, em, jj, hj, ρ', hr, kn⟩ => ?_⟩
  subst ed em hr
  cases (sz : Rp K G2 y (.int m))
  refine ⟨a, vs, m, jj, rfl, rfl, j2.hid.2 _ hm, by rw [k.len]; exact hj, ?_⟩
  exact n _ _ _ _ kn ((o.mono (e1.trans e2)).chg hi h3 hm ((k.mono e2).set (SlotV.mono sx e2) jj)) (e1.trans e2) _ (j2.chg hm n1 n2)
/-! ### loops -/
theorem loop_env {I : Nat → List E → Prop} {U : Vx} {G1 : Hp} {Dn : Ends} {i : Nat} {g : TG} {x : V} {σ' : L2.St} {H' : Hp} (n : KN K U Dn.nx G1 N) (r : KR K U Dn.rt G1 R) {ρ' : List E} {L' : List (Addr × List V)} {G' : Hp} {e : E} (o' : EnvOk K U ρ' σ' L' G') (e' : Ex G1 G') (j' : J (U.hides L') H' G') (sx : SlotV K U L' G' e x)
    (h : DG K g e ρ' fun ρ2 => DS K ts ρ2 (Wk (I (i + 1))) N (Wk (I (i + 1))) R) :
    g x σ' H' fun σ2 H2 => ts ⟨fun σ H => ∃ ρ L G', I (i + 1) ρ ∧ EnvOk K U ρ σ L G' ∧ Ex G1 G' ∧ J (U.hides L) H G', Dn.rt, Dn.nx, fun σ H => ∃ ρ L G', I (i + 1) ρ ∧ EnvOk K U ρ σ L G' ∧ Ex G1 G' ∧ J (U.hides L) H G'⟩ σ2 H2 :=
  h U σ' L' G' x o' sx H' j' _ fun σ2 H2 G2 j2 ⟨e2, ρ2, o2, k2⟩ => k2 U σ2 L' G2 ⟨fun σ H => ∃ ρ L G', I (i + 1) ρ ∧ EnvOk K U ρ σ L G' ∧ Ex G1 G' ∧ J (U.hides L) H G', Dn.rt, Dn.nx, fun σ H => ∃ ρ L G', I (i + 1) ρ ∧ EnvOk K U ρ σ L G' ∧ Ex G1 G' ∧ J (U.hides L) H G'⟩ o2 (fun ρ3 σ3 L3 G3 ⟨ρ4, le, p4⟩ o3 e3 H3 j3 => ⟨ρ4, L3, G3, p4, o3.le le, (e'.trans e2).trans e3, j3⟩) (n.mono (e'.trans e2))
    (fun ρ3 σ3 L3 G3 ⟨ρ4, le, p4⟩ o3 e3 H3 j3 => ⟨ρ4, L3, G3, p4, o3.le le, (e'.trans e2).trans e3, j3⟩) (r.mono (e'.trans e2)) H2 j2
theorem ds_forL (h : DE K tl ρ fun e => ∃ ds, e = .d (.lst ds) ∧ ∃ I : Nat → List E → Prop, Wk (I 0) ρ ∧ (∀ (i : Nat) d ρ', ds[i]? = some d → I i ρ' → DG K g (.d d) ρ' fun ρ2 => DS K ts ρ2 (Wk (I (i + 1))) N (Wk (I (i + 1))) R) ∧ ∀ ρ', I ds.length ρ' → N ρ') : DS K (tFor (iList K tl) g ts) ρ N B C R := fun U σ L G Dn o n b c r H j =>
  h U σ L G o H j _ fun v H1 G1 j1 ⟨e1, x, sx, ds, ed, I, ⟨ρ0, le0, h0⟩, hs, hd⟩ => by
    subst ed
    cases (sx : Rp K G1 v (.lst ds)) with
    | lst a k =>
      refine ⟨_, rfl, ⟨_, sq_of (j1.up _ _ a)⟩, for_list (fun i σ' H' => ∃ ρ' L' G', I i ρ' ∧ EnvOk K U ρ' σ' L' G' ∧ Ex G1 G' ∧ J (U.hides L') H' G') ⟨ρ0, L, G1, h0, (o.mono e1).le le0, Ex.refl _, j1⟩ (fun i σ' H' _ ⟨ρ', L', G', p, o', e', j'⟩ => sq_of (j'.up _ _ (e' _ _ a))) (fun i y σ' H' hy ⟨ρ', L', G', p, o', e', j'⟩ => ?_) (fun σ' H' ⟨ρ', L', G', p, o', e', j'⟩ => ?_)⟩
      · obtain ⟨d, h1, h2⟩ := k.at hy
        exact loop_env (n.mono e1) (r.mono e1) o' e' j' (e := .d d) (h2.mono e') (hs i d ρ' h1 p)
      · rw [k.len] at p; exact n ρ' σ' L' G' (hd ρ' p) o' (e1.trans e') H' j'
theorem ds_forT (h : DE K tl ρ fun e => ∃ ds, e = .d (.tup ds) ∧ ∃ I : Nat → List E → Prop, Wk (I 0) ρ ∧ (∀ (i : Nat) d ρ', ds[i]? = some d → I i ρ' → DG K g (.d d) ρ' fun ρ2 => DS K ts ρ2 (Wk (I (i + 1))) N (Wk (I (i + 1))) R) ∧ ∀ ρ', I ds.length ρ' → N ρ') : DS K (tFor (iTup K tl) g ts) ρ N B C R := fun U σ L G Dn o n b c r H j =>
  h U σ L G o H j _ fun v H1 G1 j1 ⟨e1, x, sx, ds, ed, I, ⟨ρ0, le0, h0⟩, hs, hd⟩ => by
    subst ed
    cases (sx : Rp K G1 v (.tup ds)) with
    | tup a k =>
      refine ⟨_, rfl, ⟨_, ex_t j1.up a⟩, for_tup (fun i σ' H' => ∃ ρ' L' G', I i ρ' ∧ EnvOk K U ρ' σ' L' G' ∧ Ex G1 G' ∧ J (U.hides L') H' G') ⟨ρ0, L, G1, h0, (o.mono e1).le le0, Ex.refl _, j1⟩ (fun i σ' H' _ ⟨ρ', L', G', p, o', e', j'⟩ => ex_t j'.up (ex_t e' a)) (fun i y σ' H' hy ⟨ρ', L', G', p, o', e', j'⟩ => ?_) (fun σ' H' ⟨ρ', L', G', p, o', e', j'⟩ => ?_)⟩
      · obtain ⟨d, h1, h2⟩ := k.at hy
        exact loop_env (n.mono e1) (r.mono e1) o' e' j' (e := .d d) (h2.mono e') (hs i d ρ' h1 p)
      · rw [k.len] at p; exact n ρ' σ' L' G' (hd ρ' p) o' (e1.trans e') H' j'
theorem ds_forR1 (h : DA K ta ρ fun ws => ∃ m : Int, ws = [.int m] ∧ -(2 ^ 62) ≤ m ∧ m < 2 ^ 62 ∧ ∃ I : Nat → List E → Prop, Wk (I 0) ρ ∧ (∀ (i : Nat) ρ', (i : Int) < m → I i ρ' → DG K g (.d (.int (i : Int))) ρ' fun ρ2 => DS K ts ρ2 (Wk (I (i + 1))) N (Wk (I (i + 1))) R) ∧ ∀ ρ', I m.toNat ρ' → N ρ') : DS K (tFor (iRng1 ta) g ts) ρ N B C R := fun U σ L G Dn o n b c r H j =>
  h U σ L G o H j _ fun vs H1 G1 j1 ⟨e1, ws, sw, m, ew, b1, b2, I, ⟨ρ0, le0, h0⟩, hs, hd⟩ => by
    subst ew
    cases sw with
    | cons sa sn =>
      cases sn
      cases sa
      refine ⟨m, rfl, b1, b2, for_range (lo := 0) (n := m.toNat) (fun i σ' H' => ∃ ρ' L' G', I i ρ' ∧ EnvOk K U ρ' σ' L' G' ∧ Ex G1 G' ∧ J (U.hides L') H' G') ⟨ρ0, L, G1, h0, (o.mono e1).le le0, Ex.refl _, j1⟩ (fun i σ' H' hi ⟨ρ', L', G', p, o', e', j'⟩ => ?_) (fun σ' H' ⟨ρ', L', G', p, o', e', j'⟩ => n ρ' σ' L' G' (hd ρ' p) o' (e1.trans e') H' j')⟩
      have e0 : (0 : Int) + (i : Int) = (i : Int) := Int.zero_add _
      rw [e0]
      exact loop_env (n.mono e1) (r.mono e1) o' e' j' (e := .d (.int (i : Int))) (Rp.int _) (hs i ρ' (by omega) p)
theorem ds_forR2 (h : DA K ta ρ fun ws => ∃ lo m : Int, ws = [.int lo, .int m] ∧ (-(2 ^ 62) ≤ lo ∧ lo < 2 ^ 62 ∧ -(2 ^ 62) ≤ m ∧ m < 2 ^ 62) ∧ ∃ I : Nat → List E → Prop, Wk (I 0) ρ ∧ (∀ (i : Nat) ρ', lo + (i : Int) < m → I i ρ' → DG K g (.d (.int (lo + (i : Int)))) ρ' fun ρ2 => DS K ts ρ2 (Wk (I (i + 1))) N (Wk (I (i + 1))) R) ∧ ∀ ρ', I (m - lo).toNat ρ' → N ρ') : DS K (tFor (iRng2 ta) g ts) ρ N B C R := fun U σ L G Dn o n b c r H j =>
  h U σ L G o H j _ fun vs H1 G1 j1 ⟨e1, ws, sw, lo, m, ew, b1, I, ⟨ρ0, le0, h0⟩, hs, hd⟩ => by
    subst ew
    cases sw with
    | cons sa sn =>
      cases sn with
      | cons sb sn =>
        cases sn
        cases sa
        cases sb
        refine ⟨lo, m, rfl, b1, for_range (lo := lo) (n := (m - lo).toNat) (fun i σ' H' => ∃ ρ' L' G', I i ρ' ∧ EnvOk K U ρ' σ' L' G' ∧ Ex G1 G' ∧ J (U.hides L') H' G') ⟨ρ0, L, G1, h0, (o.mono e1).le le0, Ex.refl _, j1⟩ (fun i σ' H' hi ⟨ρ', L', G', p, o', e', j'⟩ => ?_) (fun σ' H' ⟨ρ', L', G', p, o', e', j'⟩ => n ρ' σ' L' G' (hd ρ' p) o' (e1.trans e') H' j')⟩
        exact loop_env (n.mono e1) (r.mono e1) o' e' j' (e := .d (.int (lo + (i : Int)))) (Rp.int _) (hs i ρ' (by omega) p)
theorem ds_while (W : Nat → List E → Prop) (m0 : Nat) (h0 : Wk (W m0) ρ)
    (hs : ∀ m ρ', W m ρ' → DT K tt ρ' fun b => if b = true then DS K ts ρ' (Wk fun ρ2 => ∃ m', m' < m ∧ W m' ρ2) N (Wk fun ρ2 => ∃ m', m' < m ∧ W m' ρ2) R else N ρ') : DS K (tWhile tt ts) ρ N B C R := fun U σ L G Dn o n b c r H j => by
  obtain ⟨ρ0, le0, w0⟩ := h0
  refine ⟨fun m σ' H' => ∃ ρ' L' G', W m ρ' ∧ EnvOk K U ρ' σ' L' G' ∧ Ex G G' ∧ J (U.hides L') H' G', ⟨m0, ρ0, L, G, w0, o.le le0, Ex.refl _, j⟩, fun m σ' H' ⟨ρ', L', G', w, o', e', j'⟩ => ?_⟩
  refine hs m ρ' w U σ' L' G' o' H' j' _ fun x H1 G1 j1 ⟨e1, h1⟩ => ?_
  cases x with
  | true =>
    rw [if_pos rfl] at h1 ⊢
    refine ⟨fun σ2 H2 => ∃ m', m' < m ∧ ∃ ρ' L' G', W m' ρ' ∧ EnvOk K U ρ' σ2 L' G' ∧ Ex G G' ∧ J (U.hides L') H2 G', fun σ2 H2 h => h, ?_⟩
    have k : ∀ ρ3 σ3 L3 G3, Wk (fun ρ2 => ∃ m', m' < m ∧ W m' ρ2) ρ3 → EnvOk K U ρ3 σ3 L3 G3 → Ex G1 G3 → KM (U.hides L3) (fun σ2 H2 => ∃ m', m' < m ∧ ∃ ρ' L' G', W m' ρ' ∧ EnvOk K U ρ' σ2 L' G' ∧ Ex G G' ∧ J (U.hides L') H2 G') σ3 G3 :=
      fun ρ3 σ3 L3 G3 ⟨ρ4, le, m', hm, w'⟩ o3 e3 H3 j3 => ⟨m', hm, ρ4, L3, G3, w', o3.le le, (e'.trans e1).trans e3, j3⟩
    exact h1 U σ' L' G1 ⟨fun σ2 H2 => ∃ m', m' < m ∧ ∃ ρ' L' G', W m' ρ' ∧ EnvOk K U ρ' σ2 L' G' ∧ Ex G G' ∧ J (U.hides L') H2 G', Dn.rt, Dn.nx, fun σ2 H2 => ∃ m', m' < m ∧ ∃ ρ' L' G', W m' ρ' ∧ EnvOk K U ρ' σ2 L' G' ∧ Ex G G' ∧ J (U.hides L') H2 G'⟩ (o'.mono e1) k (n.mono (e'.trans e1)) k (r.mono (e'.trans e1)) H1 j1
  | false =>
    rw [if_neg Bool.false_ne_true] at h1 ⊢
    exact n ρ' σ' L' G1 h1 (o'.mono e1) (e'.trans e1) H1 j1
/-! ### comprehensions -/
/-- a target of a comprehension: only its own slots change -/
def DGW (K : PySem.W.Frag) (g : TG) (e : E) (vs : List Nat) (ρ : List E) (N : List E → Prop) : Prop := ∀ U σ L G v, EnvOk K U ρ σ L G → SlotV K U L G e v → GM (U.hides L) g v (L2.wipe σ vs) G fun σ' G' => L2.wipe σ' vs = L2.wipe σ vs ∧ Ex G G' ∧ ∃ ρ', EnvOk K U ρ' σ' L G' ∧ N ρ'
theorem set_same {α : Type} : ∀ (xs : List α) (i : Nat) (x y : α), (xs.set i x).set i y = xs.set i y
  | [], i, x, y => rfl
  | a :: xs, 0, x, y => rfl
  | a :: xs, i + 1, x, y => by simp [List.set]
theorem wipe_set {i : Nat} {x : Option V} : ∀ {vs : List Nat} (σ : L2.St), i ∈ vs → L2.wipe (σ.set i x) vs = L2.wipe σ vs
  | [], σ, h => by simp at h
  | v :: vs, σ, h => by
    show (L2.wipe (σ.set i x) vs).set v none = (L2.wipe σ vs).set v none
    by_cases z : i ∈ vs
    · rw [wipe_set σ z]
    · rcases List.mem_cons.mp h with e | h'
      · subst e
        have aux : ∀ (ws : List Nat), i ∉ ws → L2.wipe (σ.set i x) ws = (L2.wipe σ ws).set i x := by
          intro ws
          induction ws with
          | nil => intro _; rfl
          | cons w ws ih =>
            intro hw
            simp only [List.mem_cons, not_or] at hw
            show (L2.wipe (σ.set i x) ws).set w none = ((L2.wipe σ ws).set w none).set i x
            rw [ih hw.2, List.set_comm _ _ hw.1]
        rw [aux vs z, set_same]
      · exact absurd h' z
theorem wipe_wipe (σ : L2.St) : ∀ vs ws : List Nat, (∀ v ∈ vs, v ∈ ws) → L2.wipe (L2.wipe σ vs) ws = L2.wipe σ ws
  | [], ws, _ => rfl
  | v :: vs, ws, h => by
    show L2.wipe ((L2.wipe σ vs).set v none) ws = _
    rw [wipe_set _ (h v (by simp)), wipe_wipe σ vs ws fun u hu => h u (by simp [hu])]
theorem dgw_name {i : Nat} {e : E} {vs : List Nat} (f : e.free = true) (hi : i ∈ vs) {ρ' : List E} (hr : (wipeE ρ vs).set i e = ρ') (k : N ρ') : DGW K (gName i) e vs ρ N := fun U σ L G v o s =>
  gm_name ⟨by rw [wipe_set _ hi, wipe_wipe σ vs vs fun _ h => h], Ex.refl G, _, (o.wipe vs).set f s, by rw [hr]; exact k⟩
theorem dgw_pair {i j : Nat} {d1 d2 : D} {vs : List Nat} (hi : i ∈ vs) (hj : j ∈ vs) {ρ' : List E} (hr : ((wipeE ρ vs).set i (.d d1)).set j (.d d2) = ρ') (k : N ρ') : DGW K (gTup K 2 (gCons (gName i) (gCons (gName j) gNil))) (.d (.tup [d1, d2])) vs ρ N := fun U σ L G v o s => by
  cases (s : Rp K G v (.tup [d1, d2])) with
  | tup a b =>
    cases b with
    | cons b1 b =>
      cases b with
      | cons b2 b =>
        cases b
        exact gm_tup a rfl (gs_cons (gm_name (gs_cons (gm_name (gs_nil ⟨by rw [wipe_set _ hj, wipe_set _ hi, wipe_wipe σ vs vs fun _ h => h], Ex.refl G, _, ((o.wipe vs).set (e := .d d1) rfl b1).set (e := .d d2) rfl b2, by rw [hr]; exact k⟩)))))
/-- a turn of a comprehension -/
theorem lc_env {P : Nat → List D → Prop} {U : Vx} {G1 : Hp} {i : Nat} {x : V} {σ : L2.St} {H' : Hp} {vs : List Nat} {Dd : Addr} {L : List (Addr × List V)} {acc : List V} {ads : List D} {G' : Hp} {e : E} (hDd : ∀ q ∈ L, q.1 ≠ Dd) (hlo : LOk U ((Dd, acc) :: L)) (o' : EnvOk K U ρ σ L G') (e' : Ex G1 G') (j' : J (U.hides ((Dd, acc) :: L)) H' G') (sx : SlotV K U L G' e x) (ka : RpA K G' acc ads) (hz : ads.length < 16000000)
    (h : DGW K g e vs ρ fun ρ2 => DT K tt ρ2 fun b => if b = true then DE K te ρ2 fun y => DD y fun dy => P (i + 1) (ads ++ [dy]) else P (i + 1) ads) :
    g x (L2.wipe σ vs) H' fun σ2 H2 => L2.wipe σ2 vs = L2.wipe σ vs ∧ tt σ2 H2 fun b H3 => if b = true then te σ2 H3 fun y H4 => ∃ acc, H4 Dd = some (.lst acc) ∧ acc.length < sizeLine ∧ ∃ acc' ads' G', P (i + 1) ads' ∧ RpA K G' acc' ads' ∧ Ex G1 G' ∧ J (U.hides ((Dd, acc') :: L)) (upd H4 Dd (.lst (acc ++ [y]))) G' else ∃ acc' ads' G', P (i + 1) ads' ∧ RpA K G' acc' ads' ∧ Ex G1 G' ∧ J (U.hides ((Dd, acc') :: L)) H3 G' := by
  have up : ∀ {ρ : List E} {σ : L2.St} {G : Hp}, EnvOk K U ρ σ L G → EnvOk K U ρ σ ((Dd, acc) :: L) G := fun {ρ σ G} o => ⟨o.len, fun i e h => let ⟨u, h1, h2⟩ := o.sl i e h; ⟨u, h1, h2.elim .inl fun ⟨v, h3, h4⟩ => .inr ⟨v, h3, by
    cases e with
    | own ds => obtain ⟨a, vs, e1, e2, e3⟩ := h4; exact ⟨a, vs, e1, List.mem_cons_of_mem _ e2, e3⟩
    | any => trivial
    | d d => exact h4
    | st => exact h4
    | sc => exact h4⟩⟩, hlo, o.ds, o.ge⟩
  have sx' : SlotV K U ((Dd, acc) :: L) G' e x := by
    cases e with
    | own ds => obtain ⟨a, vs, e1, e2, e3⟩ := sx; exact ⟨a, vs, e1, List.mem_cons_of_mem _ e2, e3⟩
    | any => trivial
    | d d => exact sx
    | st => exact sx
    | sc => exact sx
  refine h U σ _ G' x (up o') sx' H' j' _ fun σ2 H2 G2 j2 ⟨hw, e2, ρ2, o2, k2⟩ => ⟨hw, k2 U σ2 _ G2 o2 H2 j2 _ fun b H3 G3 j3 ⟨e3, k3⟩ => ?_⟩
  cases b with
  | true =>
    rw [if_pos rfl] at k3 ⊢
    refine k3 U σ2 _ G3 (o2.mono e3) H3 j3 _ fun y H4 G4 j4 ⟨e4, ey, sy, dy, ed, k4⟩ => ⟨acc, j4.hid.2 _ List.mem_cons_self, ?_, acc ++ [y], ads ++ [dy], G4, k4, ?_, ((e'.trans e2).trans e3).trans e4, ?_⟩
    · rw [ka.len]; exact Nat.lt_of_lt_of_le hz (by decide)
    · subst ed; exact (RpA.one sy).app (ka.mono ((e2.trans e3).trans e4))
    · obtain ⟨n1, n2, _⟩ := hlo.nm (Dd, acc) List.mem_cons_self
      have jj := j4.chg (ws := acc ++ [y]) List.mem_cons_self n1 n2
      refine ⟨jj.up, jj.keep, jj.new, ⟨jj.hid.1, fun q hq => ?_⟩, fun a ma => ?_⟩
      · rcases List.mem_cons.mp hq with rfl | hq
        · exact upd_same
        · by_cases z : q.1 = Dd
          · exact absurd z (hDd q hq)
          · rw [upd_ne z]; exact j4.hid.2 _ (List.mem_cons_of_mem _ hq)
      · refine jj.msk a ?_
        rcases ma with ma | ⟨ws, hw'⟩
        · exact .inl ma
        · rcases List.mem_cons.mp hw' with e | hw'
          · cases e; exact .inr ⟨_, mem_setO_self List.mem_cons_self⟩
          · by_cases z : a = Dd
            · rw [z]; exact .inr ⟨_, mem_setO_self List.mem_cons_self⟩
            · exact .inr ⟨ws, mem_setO z (List.mem_cons_of_mem _ hw')⟩
  | false =>
    rw [if_neg Bool.false_ne_true] at k3 ⊢
    exact ⟨acc, ads, G3, k3, ka.mono (e2.trans e3), (e'.trans e2).trans e3, j3⟩
end
end Wp

set_option Elab.async false
set_option linter.all false
set_option maxRecDepth 100000
set_option maxHeartbeats 4000000
namespace Wp
open PySem L2 Evl StX
set_option autoImplicit false
section
variable {K : PySem.W.Frag} {ρ : List E} {te ti tl : TE} {tt : TT} {g : TG} {ts t1 t2 : TS} {ta tr : TA} {N B C : List E → Prop} {R : D → Prop} {Q : E → Prop} {QN : List D → Prop} {vs : List Nat}
theorem J.showHead {U : Vx} {L : List (Addr × List V)} {H G : Hp} {a : Addr} {vs : List V} (j : J (U.hides ((a, vs) :: L)) H G) (hm : ¬ U.m a) (hn : U.He a = none) (hL : ∀ q ∈ L, q.1 ≠ a) : J (U.hides L) H (upd G a (.lst vs)) where
  up := fun b u e => by
    by_cases z : b = a
    · subst z; rw [upd_same] at e; rw [j.hid.2 _ List.mem_cons_self]; exact e
    · rw [upd_ne z] at e; exact j.up b u e
  keep := j.keep
  new := fun b q g => by
    by_cases z : b = a
    · subst z; exact hn
    · rw [upd_ne z] at q; exact j.new b q g
  hid := ⟨j.hid.1, fun q hq => j.hid.2 q (List.mem_cons_of_mem _ hq)⟩
  msk := fun b mb => by
    rcases mb with mb | ⟨ws, hw⟩
    · have : b ≠ a := fun z => by subst z; exact hm mb
      rw [upd_ne this]; exact j.msk b (.inl mb)
    · have : b ≠ a := hL _ hw
      rw [upd_ne this]; exact j.msk b (.inr ⟨ws, List.mem_cons_of_mem _ hw⟩)
theorem de_new (h : DN K te ρ fun ds => Q (.d (.lst ds))) : DE K te ρ Q := fun U σ L G o =>
  (h U σ L G o).w fun v G' ⟨p, vs, ds, G1, ev, e1, np, e2, gp, k, q⟩ => ⟨e1.trans e2, .d (.lst ds), by subst ev; exact .lst gp (k.mono e2), q⟩
/-- what every comprehension starts and ends with -/
structure LcOk (U : Vx) (L : List (Addr × List V)) (Dd : Addr) : Prop where
  nm : ¬ U.m Dd
  nh : U.He Dd = none
  ng : U.Ge Dd = none
  nl : ∀ q ∈ L, q.1 ≠ Dd
theorem LcOk.lo {U : Vx} {L : List (Addr × List V)} {Dd : Addr} (c : LcOk U L Dd) (lo : LOk U L) (acc : List V) : LOk U ((Dd, acc) :: L) := ⟨fun q hq => by
  rcases List.mem_cons.mp hq with rfl | hq
  · exact ⟨c.nm, c.nh, c.ng⟩
  · exact lo.nm q hq, fun a us ws h1 h2 => by
  rcases List.mem_cons.mp h1 with e1 | h1 <;> rcases List.mem_cons.mp h2 with e2 | h2
  · cases e1; cases e2; rfl
  · cases e1; exact absurd rfl (c.nl _ h2)
  · cases e2; exact absurd rfl (c.nl _ h1)
  · exact lo.fn a us ws h1 h2⟩
theorem lc_ok {U : Vx} {σ : L2.St} {L : List (Addr × List V)} {G G1 H1 : Hp} {Dd : Addr} (o : EnvOk K U ρ σ L G) (e1 : Ex G G1) (j1 : J (U.hides L) H1 G1) (hD : H1 Dd = none) : LcOk U L Dd :=
  ⟨fun z => (j1.msk Dd (.inl z)).2 hD, none_of_ex j1.keep hD, none_of_ex o.ge (none_of_ex e1 (j1.free hD)), fun q hq z => (j1.msk Dd (.inr ⟨q.2, by rw [← z]; exact hq⟩)).2 hD⟩
theorem lc_start {U : Vx} {σ : L2.St} {L : List (Addr × List V)} {G1 H1 : Hp} {Dd : Addr} (c : LcOk U L Dd) (j1 : J (U.hides L) H1 G1) (hD : H1 Dd = none) : ∃ G', Ex G1 G' ∧ J (U.hides ((Dd, []) :: L)) (upd H1 Dd (.lst [])) G' :=
  ⟨_, Ex.wo' (j1.free hD) (Ex.new (j1.free hD)), (j1.alloc hD).own upd_same c.ng⟩
def LcP (K : PySem.W.Frag) (U : Vx) (L : List (Addr × List V)) (G1 : Hp) (Dd : Addr) (P : Nat → List D → Prop) (i : Nat) (H : Hp) : Prop := ∃ acc' ads' G', P i ads' ∧ RpA K G' acc' ads' ∧ Ex G1 G' ∧ J (U.hides ((Dd, acc') :: L)) H G'
theorem lc_done {U : Vx} {L : List (Addr × List V)} {G G1 H : Hp} {Dd : Addr} {P : Nat → List D → Prop} {n : Nat} (c : LcOk U L Dd) (e1 : Ex G G1) (h : LcP K U L G1 Dd P n H) (hd : ∀ acc, P n acc → QN acc) : ∃ G2, J (U.hides L) H G2 ∧ ∃ p vs ds G1, V.ref Dd = .ref p ∧ Ex G G1 ∧ G1 p = none ∧ Ex G1 G2 ∧ G2 p = some (.lst vs) ∧ RpA K G1 vs ds ∧ QN ds := by
  obtain ⟨acc, ads, G', p, ka, e', j'⟩ := h
  have gd : G' Dd = none := (j'.msk Dd (.inr ⟨acc, List.mem_cons_self⟩)).1
  exact ⟨_, j'.showHead c.nm c.nh c.nl, Dd, acc, ads, G', rfl, e1.trans e', gd, Ex.new gd, upd_same, ka, hd ads p⟩
theorem dn_lcL (h : DE K tl ρ fun e => ∃ ds, e = .d (.lst ds) ∧ ds.length < 16000000 ∧ ∃ P : Nat → List D → Prop, P 0 [] ∧ (∀ i acc, P i acc → acc.length ≤ i) ∧ (∀ (i : Nat) d acc, ds[i]? = some d → P i acc → DGW K g (.d d) vs ρ fun ρ2 => DT K tt ρ2 fun b => if b = true then DE K te ρ2 fun y => DD y fun dy => P (i + 1) (acc ++ [dy]) else P (i + 1) acc) ∧ ∀ acc, P ds.length acc → QN acc) : DN K (tLc (iList K tl) g tt te vs) ρ QN := fun U σ L G o H j QH q =>
  h U σ L G o H j _ fun v H1 G1 j1 ⟨e1, x, sx, ds, ed, hlen, P, h0, hz, hs, hd⟩ => by
    subst ed
    cases (sx : Rp K G1 v (.lst ds)) with
    | lst a k =>
      refine ⟨_, rfl, ⟨_, sq_of (j1.up _ _ a)⟩, fun Dd hD => ?_⟩
      have c := lc_ok o e1 j1 hD
      refine lc_list (LcP K U L G1 Dd P) ?_ (fun i H' _ ⟨acc, ads, G', p, ka, e', j'⟩ => sq_of (j'.up _ _ (e' _ _ a))) (fun i x H' hi ⟨acc, ads, G', p, ka, e', j'⟩ => ?_) (fun H' hp => ?_)
      · obtain ⟨G', e', j'⟩ := lc_start (σ := σ) c j1 hD
        exact ⟨[], [], G', h0, .nil, e', j'⟩
      · obtain ⟨d, h1, h2⟩ := k.at hi
        have hil := (List.getElem?_eq_some_iff.mp h1).1
        exact lc_env (e := .d d) c.nl (c.lo o.lo acc) (o.mono (e1.trans e')) e' j' (h2.mono e') ka (by have := hz i ads p; omega) (hs i d ads h1 p)
      · rw [k.len] at hp
        obtain ⟨G2, j2, r⟩ := lc_done c e1 hp hd
        exact q _ _ _ j2 r
theorem dn_lcT (h : DE K tl ρ fun e => ∃ ds, e = .d (.tup ds) ∧ ds.length < 16000000 ∧ ∃ P : Nat → List D → Prop, P 0 [] ∧ (∀ i acc, P i acc → acc.length ≤ i) ∧ (∀ (i : Nat) d acc, ds[i]? = some d → P i acc → DGW K g (.d d) vs ρ fun ρ2 => DT K tt ρ2 fun b => if b = true then DE K te ρ2 fun y => DD y fun dy => P (i + 1) (acc ++ [dy]) else P (i + 1) acc) ∧ ∀ acc, P ds.length acc → QN acc) : DN K (tLc (iTup K tl) g tt te vs) ρ QN := fun U σ L G o H j QH q =>
  h U σ L G o H j _ fun v H1 G1 j1 ⟨e1, x, sx, ds, ed, hlen, P, h0, hz, hs, hd⟩ => by
    subst ed
    cases (sx : Rp K G1 v (.tup ds)) with
    | tup a k =>
      refine ⟨_, rfl, ⟨_, ex_t j1.up a⟩, fun Dd hD => ?_⟩
      have c := lc_ok o e1 j1 hD
      refine lc_tup (LcP K U L G1 Dd P) ?_ (fun i H' _ ⟨acc, ads, G', p, ka, e', j'⟩ => ex_t j'.up (ex_t e' a)) (fun i x H' hi ⟨acc, ads, G', p, ka, e', j'⟩ => ?_) (fun H' hp => ?_)
      · obtain ⟨G', e', j'⟩ := lc_start (σ := σ) c j1 hD
        exact ⟨[], [], G', h0, .nil, e', j'⟩
      · obtain ⟨d, h1, h2⟩ := k.at hi
        have hil := (List.getElem?_eq_some_iff.mp h1).1
        exact lc_env (e := .d d) c.nl (c.lo o.lo acc) (o.mono (e1.trans e')) e' j' (h2.mono e') ka (by have := hz i ads p; omega) (hs i d ads h1 p)
      · rw [k.len] at hp
        obtain ⟨G2, j2, r⟩ := lc_done c e1 hp hd
        exact q _ _ _ j2 r
theorem dn_lcR1 (h : DA K ta ρ fun ws => ∃ m : Int, ws = [.int m] ∧ 0 ≤ m ∧ m < 16000000 ∧ ∃ P : Nat → List D → Prop, P 0 [] ∧ (∀ i acc, P i acc → acc.length ≤ i) ∧ (∀ (i : Nat) acc, (i : Int) < m → P i acc → DGW K g (.d (.int (i : Int))) vs ρ fun ρ2 => DT K tt ρ2 fun b => if b = true then DE K te ρ2 fun y => DD y fun dy => P (i + 1) (acc ++ [dy]) else P (i + 1) acc) ∧ ∀ acc, P m.toNat acc → QN acc) : DN K (tLc (iRng1 ta) g tt te vs) ρ QN := fun U σ L G o H j QH q =>
  h U σ L G o H j _ fun us H1 G1 j1 ⟨e1, ws, sw, m, ew, b1, b2, P, h0, hz, hs, hd⟩ => by
    subst ew
    cases sw with
    | cons sa sn =>
      cases sn
      cases sa
      refine ⟨m, rfl, by omega, by omega, fun Dd hD => ?_⟩
      have c := lc_ok o e1 j1 hD
      refine lc_range (lo := 0) (n := m.toNat) (LcP K U L G1 Dd P) ?_ (fun i H' hi ⟨acc, ads, G', p, ka, e', j'⟩ => ?_) (fun H' hp => ?_)
      · obtain ⟨G', e', j'⟩ := lc_start (σ := σ) c j1 hD
        exact ⟨[], [], G', h0, .nil, e', j'⟩
      · have e0 : (0 : Int) + (i : Int) = (i : Int) := Int.zero_add _
        rw [e0]
        exact lc_env (e := .d (.int (i : Int))) c.nl (c.lo o.lo acc) (o.mono (e1.trans e')) e' j' (Rp.int _) ka (by have := hz i ads p; omega) (hs i ads (by omega) p)
      · obtain ⟨G2, j2, r⟩ := lc_done c e1 hp hd
        exact q _ _ _ j2 r
/-- over enumerate of a list or a tuple -/
theorem dn_lcE {i0 i1 : Nat} (h : DA K ta ρ fun ws => ∃ ds, ws = [.lst ds] ∧ ds.length < 16000000 ∧ i0 ∈ vs ∧ i1 ∈ vs ∧ ∃ P : Nat → List D → Prop, P 0 [] ∧ (∀ i acc, P i acc → acc.length ≤ i) ∧ (∀ (i : Nat) d acc, ds[i]? = some d → P i acc → DT K tt (((wipeE ρ vs).set i0 (.d (.int (i : Int)))).set i1 (.d d)) fun b => if b = true then DE K te (((wipeE ρ vs).set i0 (.d (.int (i : Int)))).set i1 (.d d)) fun y => DD y fun dy => P (i + 1) (acc ++ [dy]) else P (i + 1) acc) ∧ ∀ acc, P ds.length acc → QN acc) : DN K (tLc (iEnum K ta) (gTup K 2 (gCons (gName i0) (gCons (gName i1) gNil))) tt te vs) ρ QN := fun U σ L G o H j QH q =>
  h U σ L G o H j _ fun us H1 G1 j1 ⟨e1, ws, sw, ds, ew, hlen, m0, m1, P, h0, hz, hs, hd⟩ => by
    subst ew
    cases sw with
    | cons sa sn =>
      cases sn
      cases sa with
      | @lst a xs _ ha k =>
      refine ⟨_, _, rfl, sq_of (j1.up _ _ ha), fun Dd hD => ?_⟩
      have c := lc_ok o e1 j1 hD
      have wk : Walk (Ite K a) xs.length (fun H => SqL K H a xs) (fun i H v H' => ∃ T x, v = .ref T ∧ H T = none ∧ H' = upd H T (.tup [.int (i : Nat), x]) ∧ xs[i]? = some x) :=
        ⟨fun i H hi hq => ⟨xs, xs[i], hq, by simp [hi]⟩, fun H hq => ⟨xs, hq, Nat.le_refl _⟩, fun i H x H' hi hq ⟨T, y, e1, e2, e3, e4⟩ => ⟨T, y, e1, e2, e3, e4 xs hq⟩⟩
      refine lc_it wk (LcP K U L G1 Dd P) ?_ (fun i H' _ ⟨acc, ads, G', p, ka, e', j'⟩ => sq_of (j'.up _ _ (e' _ _ ha))) (fun i x H' H'' hi ⟨acc, ads, G', p, ka, e', j'⟩ ⟨T, y, ex, hT, eH, hy⟩ => ?_) (fun H' hp => ?_)
      · obtain ⟨G', e', j'⟩ := lc_start (σ := σ) c j1 hD
        exact ⟨[], [], G', h0, .nil, e', j'⟩
      · obtain ⟨d, h1, h2⟩ := k.at hy
        have hil := (List.getElem?_eq_some_iff.mp h1).1
        subst ex eH
        have jT := j'.alloc (o := .tup [.int (i : Nat), y]) hT
        have eT : Ex G' (upd G' T (.tup [.int (i : Nat), y])) := Ex.new (j'.free hT)
        exact lc_env (e := .d (.tup [.int (i : Nat), d])) c.nl (c.lo o.lo acc) (o.mono ((e1.trans e').trans eT)) (e'.trans eT) jT (Rp.tup (st_of upd_same) (.cons (.int _) (.cons ((h2.mono e').mono eT) .nil))) (ka.mono eT) (by have := hz i ads p; omega) (dgw_pair m0 m1 rfl (hs i d ads h1 p))
      · rw [k.len] at hp
        obtain ⟨G2, j2, r⟩ := lc_done c e1 hp hd
        exact q _ _ _ j2 r
theorem dn_lcET {i0 i1 : Nat} (h : DA K ta ρ fun ws => ∃ ds, ws = [.tup ds] ∧ ds.length < 16000000 ∧ i0 ∈ vs ∧ i1 ∈ vs ∧ ∃ P : Nat → List D → Prop, P 0 [] ∧ (∀ i acc, P i acc → acc.length ≤ i) ∧ (∀ (i : Nat) d acc, ds[i]? = some d → P i acc → DT K tt (((wipeE ρ vs).set i0 (.d (.int (i : Int)))).set i1 (.d d)) fun b => if b = true then DE K te (((wipeE ρ vs).set i0 (.d (.int (i : Int)))).set i1 (.d d)) fun y => DD y fun dy => P (i + 1) (acc ++ [dy]) else P (i + 1) acc) ∧ ∀ acc, P ds.length acc → QN acc) : DN K (tLc (iEnumT K ta) (gTup K 2 (gCons (gName i0) (gCons (gName i1) gNil))) tt te vs) ρ QN := fun U σ L G o H j QH q =>
  h U σ L G o H j _ fun us H1 G1 j1 ⟨e1, ws, sw, ds, ew, hlen, m0, m1, P, h0, hz, hs, hd⟩ => by
    subst ew
    cases sw with
    | cons sa sn =>
      cases sn
      cases sa with
      | @tup a xs _ ha k =>
      refine ⟨_, _, rfl, ex_t j1.up ha, fun Dd hD => ?_⟩
      have c := lc_ok o e1 j1 hD
      have wk : Walk (IteT K a) xs.length (fun H => SqT K H a xs) (fun i H v H' => ∃ T x, v = .ref T ∧ H T = none ∧ H' = upd H T (.tup [.int (i : Nat), x]) ∧ xs[i]? = some x) :=
        ⟨fun i H hi hq => ⟨xs, xs[i], hq, by simp [hi]⟩, fun H hq => ⟨xs, hq, Nat.le_refl _⟩, fun i H x H' hi hq ⟨T, y, e1, e2, e3, e4⟩ => ⟨T, y, e1, e2, e3, e4 xs hq⟩⟩
      refine lc_it wk (LcP K U L G1 Dd P) ?_ (fun i H' _ ⟨acc, ads, G', p, ka, e', j'⟩ => ex_t j'.up (ex_t e' ha)) (fun i x H' H'' hi ⟨acc, ads, G', p, ka, e', j'⟩ ⟨T, y, ex, hT, eH, hy⟩ => ?_) (fun H' hp => ?_)
      · obtain ⟨G', e', j'⟩ := lc_start (σ := σ) c j1 hD
        exact ⟨[], [], G', h0, .nil, e', j'⟩
      · obtain ⟨d, h1, h2⟩ := k.at hy
        have hil := (List.getElem?_eq_some_iff.mp h1).1
        subst ex eH
        have jT := j'.alloc (o := .tup [.int (i : Nat), y]) hT
        have eT : Ex G' (upd G' T (.tup [.int (i : Nat), y])) := Ex.new (j'.free hT)
        exact lc_env (e := .d (.tup [.int (i : Nat), d])) c.nl (c.lo o.lo acc) (o.mono ((e1.trans e').trans eT)) (e'.trans eT) jT (Rp.tup (st_of upd_same) (.cons (.int _) (.cons ((h2.mono e').mono eT) .nil))) (ka.mono eT) (by have := hz i ads p; omega) (dgw_pair m0 m1 rfl (hs i d ads h1 p))
      · rw [k.len] at hp
        obtain ⟨G2, j2, r⟩ := lc_done c e1 hp hd
        exact q _ _ _ j2 r
/-- a map: the items told by the source's -/
theorem dn_mapL {α : Type} (xs : List α) (inj f : α → D) (h : DE K tl ρ fun e => e = .d (.lst (xs.map inj)) ∧ xs.length < 16000000 ∧ (∀ (i : Nat) x, xs[i]? = some x → DGW K g (.d (inj x)) vs ρ fun ρ2 => DE K te ρ2 fun y => y = .d (f x)) ∧ QN (xs.map f)) : DN K (tLc (iList K tl) g tYes te vs) ρ QN :=
  dn_lcL fun U σ L G o => (h U σ L G o).w fun v G1 ⟨e1, e, se, ee, hl, hs, hq⟩ => ⟨e1, e, se, xs.map inj, ee, by rw [List.length_map]; exact hl, fun i acc => i ≤ xs.length ∧ acc = (xs.take i).map f, ⟨Nat.zero_le _, rfl⟩, fun i acc ⟨p0, p⟩ => by rw [p, List.length_map, List.length_take]; omega, fun i d acc hd ⟨p0, p⟩ => by
    rw [List.getElem?_map] at hd
    obtain ⟨x, hx, rfl⟩ := Option.map_eq_some_iff.mp hd
    have hil := (List.getElem?_eq_some_iff.mp hx).1
    exact fun U σ L G v o s => (hs i x hx U σ L G v o s).w fun σ2 G2 ⟨hw, e2, ρ2, o2, k2⟩ => ⟨hw, e2, ρ2, o2, dt_yes (by
      rw [if_pos rfl]
      exact fun U σ L G o => (k2 U σ L G o).w fun y G3 ⟨e3, z, sz, ez⟩ => ⟨e3, z, sz, f x, ez, hil, by rw [p, List.take_add_one, hx]; simp⟩)⟩, fun acc ⟨_, p⟩ => by rw [List.length_map, List.take_length] at p; rw [p]; exact hq⟩
theorem dn_mapT {α : Type} (xs : List α) (inj f : α → D) (h : DE K tl ρ fun e => e = .d (.tup (xs.map inj)) ∧ xs.length < 16000000 ∧ (∀ (i : Nat) x, xs[i]? = some x → DGW K g (.d (inj x)) vs ρ fun ρ2 => DE K te ρ2 fun y => y = .d (f x)) ∧ QN (xs.map f)) : DN K (tLc (iTup K tl) g tYes te vs) ρ QN :=
  dn_lcT fun U σ L G o => (h U σ L G o).w fun v G1 ⟨e1, e, se, ee, hl, hs, hq⟩ => ⟨e1, e, se, xs.map inj, ee, by rw [List.length_map]; exact hl, fun i acc => i ≤ xs.length ∧ acc = (xs.take i).map f, ⟨Nat.zero_le _, rfl⟩, fun i acc ⟨p0, p⟩ => by rw [p, List.length_map, List.length_take]; omega, fun i d acc hd ⟨p0, p⟩ => by
    rw [List.getElem?_map] at hd
    obtain ⟨x, hx, rfl⟩ := Option.map_eq_some_iff.mp hd
    have hil := (List.getElem?_eq_some_iff.mp hx).1
    exact fun U σ L G v o s => (hs i x hx U σ L G v o s).w fun σ2 G2 ⟨hw, e2, ρ2, o2, k2⟩ => ⟨hw, e2, ρ2, o2, dt_yes (by
      rw [if_pos rfl]
      exact fun U σ L G o => (k2 U σ L G o).w fun y G3 ⟨e3, z, sz, ez⟩ => ⟨e3, z, sz, f x, ez, hil, by rw [p, List.take_add_one, hx]; simp⟩)⟩, fun acc ⟨_, p⟩ => by rw [List.length_map, List.take_length] at p; rw [p]; exact hq⟩
theorem dn_mapR1 (f : Nat → D) (h : DA K ta ρ fun ws => ∃ m : Int, ws = [.int m] ∧ 0 ≤ m ∧ m < 16000000 ∧ (∀ (i : Nat), (i : Int) < m → DGW K g (.d (.int (i : Int))) vs ρ fun ρ2 => DE K te ρ2 fun y => y = .d (f i)) ∧ QN ((List.range m.toNat).map f)) : DN K (tLc (iRng1 ta) g tYes te vs) ρ QN :=
  dn_lcR1 fun U σ L G o => (h U σ L G o).w fun v G1 ⟨e1, ws, sw, m, ew, b1, b2, hs, hq⟩ => ⟨e1, ws, sw, m, ew, b1, b2, fun i acc => acc = (List.range i).map f, rfl, fun i acc p => by rw [p]; simp, fun i acc hi p =>
    fun U σ L G v o s => (hs i hi U σ L G v o s).w fun σ2 G2 ⟨hw, e2, ρ2, o2, k2⟩ => ⟨hw, e2, ρ2, o2, dt_yes (by
      rw [if_pos rfl]
      exact fun U σ L G o => (k2 U σ L G o).w fun y G3 ⟨e3, z, sz, ez⟩ => ⟨e3, z, sz, f i, ez, by show acc ++ [f i] = (List.range (i + 1)).map f; rw [show acc = (List.range i).map f from p, List.range_succ]; simp⟩)⟩, fun acc p => by rw [p]; exact hq⟩
theorem dn_listL (h : DE K te ρ fun e => ∃ ds, (e = .d (.lst ds) ∨ e = .d (.tup ds)) ∧ QN ds) : DN K (tCB (rListQ K) (tCons te tNil)) ρ QN := fun U σ L G o =>
  em_cb (am_cons ((h U σ L G o).w fun v G1 ⟨e1, e, se, ds, ed, q⟩ => am_nil (by
    rcases ed with rfl | rfl
    · cases (se : Rp K G1 v (.lst ds)) with | lst x b => exact rm_list (.inl (sq_of x)) fun l G' n e g => ⟨l, _, ds, G1, rfl, e1, n, e, g, b, q⟩
    · cases (se : Rp K G1 v (.tup ds)) with | tup x b => exact rm_list (.inr x) fun l G' n e g => ⟨l, _, ds, G1, rfl, e1, n, e, g, b, q⟩)))
theorem dn_slL {tl th : TO} (h : DE K te ρ fun x => DO K tl ρ fun l => DO K th ρ fun u => ∃ ds, x = .d (.lst ds) ∧ QN (cutO ds l u)) : DN K (tSl (rSlL K) te tl th) ρ QN := fun U σ L G o =>
  em_sl ((h U σ L G o).w fun v G1 ⟨e1, x, sx, hx⟩ => (hx U σ L G1 (o.mono e1)).w fun l G2 ⟨e2, h2⟩ => (h2 U σ L G2 (o.mono (e1.trans e2))).w fun u G3 ⟨e3, ds, ed, k⟩ => by
    subst ed
    cases ((sx.mono e2).mono e3 : Rp K G3 v (.lst ds)) with
    | lst a b => exact rm_slL (sq_of a) fun p G' n e g => ⟨p, _, _, G3, rfl, (e1.trans e2).trans e3, n, e, g, b.cut l u, k⟩)
theorem dn_cat {ta tb : TE} (h : DE K ta ρ fun x => DE K tb ρ fun y => ∃ ds es, x = .d (.lst ds) ∧ y = .d (.lst es) ∧ ds.length + es.length ≤ sizeLine ∧ QN (ds ++ es)) : DN K (tOp rCat ta tb) ρ QN := fun U σ L G o =>
  em_op ((h U σ L G o).w fun v G1 ⟨e1, x, sx, hx⟩ => (hx U σ L G1 (o.mono e1)).w fun w G2 ⟨e2, y, sy, ds, es, ed, ee, hz, k⟩ => by
    subst ed ee
    cases (sx.mono e2 : Rp K G2 v (.lst ds)) with
    | lst a b =>
      cases (sy : Rp K G2 w (.lst es)) with
      | lst a' b' => exact rm_cat a a' (by rw [b.len, b'.len]; exact hz) fun p G' n e g => ⟨p, _, ds ++ es, G2, rfl, e1.trans e2, n, e, g, b'.app b, k⟩)
theorem lo_nil {U : Vx} : LOk U [] := ⟨fun _ h => by simp at h, fun _ _ _ h => by simp at h⟩
/-! ### promises of defs -/
def spF {α : Type} (K : PySem.W.Frag) (args : α → List D) (pre : α → Prop) (R : α → D → Prop) : Sp := spA (fun x vs G => RpA K G vs (args x) ∧ pre x) (fun x v G' => ∃ d, R x d ∧ Rp K G' v d)
def spG {α : Type} (K : PySem.W.Frag) (args : α → List D) (pre : α → Prop) (res : α → D) : Sp := spA (fun x vs G => RpA K G vs (args x) ∧ pre x) (fun x v G' => Rp K G' v (res x))
def spS' {α : Type} (K : PySem.W.Frag) (args : α → List D) (pre : α → Prop) (R : α → D → Prop) : Sp := spSA K (fun x vs G => RpA K G vs (args x) ∧ pre x) (fun x v G' => ∃ d, R x d ∧ Rp K G' v d)
section
variable {α : Type} {args : α → List D} {pre : α → Prop} {R : α → D → Prop} {res : α → D} {ds : List D}
theorem dc_f (x : α) (h : ds = args x) (p : pre x) (k : ∀ d, R x d → Q (.d d)) : DC K (spF K args pre R) ds Q := fun U L G vs lo s => cm_a x ⟨h ▸ s, p⟩ fun v G' e ⟨d, r, rp⟩ => ⟨e, .d d, rp, k d r⟩
theorem dc_g (x : α) (h : ds = args x) (p : pre x) (k : Q (.d (res x))) : DC K (spG K args pre res) ds Q := fun U L G vs lo s => cm_a x ⟨h ▸ s, p⟩ fun v G' e rp => ⟨e, .d (res x), rp, k⟩
theorem start_env {N : List Str} {vs : List V} {H G : Hp} (s : RpA K G vs ds) : EnvOk K (V0 H G) (ds.map E.d ++ List.replicate (N.length - ds.length) E.any) (L2.start N vs) [] G where
  len := by unfold L2.start; rw [List.length_append, List.length_append, List.length_map, List.length_map, List.length_replicate, List.length_replicate, s.len]
  sl := fun i e h => by
    unfold L2.start
    by_cases z : i < ds.length
    · rw [List.getElem?_append_left (by rw [List.length_map]; exact z), List.getElem?_map] at h
      obtain ⟨d, hd, rfl⟩ := Option.map_eq_some_iff.mp h
      obtain ⟨v, h1, h2⟩ := s.get hd
      exact ⟨some v, by rw [List.getElem?_append_left (by rw [List.length_map, s.len]; exact z), List.getElem?_map, h1]; rfl, .inr ⟨v, rfl, h2⟩⟩
    · rw [List.getElem?_append_right (by rw [List.length_map]; omega), List.length_map, List.getElem?_replicate] at h
      split at h
      · rename_i hl
        cases h
        exact ⟨none, by rw [List.getElem?_append_right (by rw [List.length_map, s.len]; omega), List.length_map, s.len, List.getElem?_replicate, if_pos hl], .inl rfl⟩
      · cases h
  lo := lo_nil
  ds := fun i j x y a n h1 h2 h3 h4 => by
    have aux : ∀ (i : Nat) x, (ds.map E.d ++ List.replicate (N.length - ds.length) E.any)[i]? = some (.own x) → False := fun i x h => by
      have := List.mem_of_getElem? h
      simp at this
    exact aux i x h1
  ge := Ex.refl G
theorem fn_f {N : List Str} {ts : TS} {vs : List V} {H : Hp} {QV : VK} {E' : XK} (h : spF K args pre R vs H QV E') (hb : ∀ x, pre x → DS K ts ((args x).map E.d ++ List.replicate (N.length - (args x).length) E.any) (fun _ => R x .non) (fun _ => False) (fun _ => False) (R x)) : ts { nx := fun _ H' => QV .non H', rt := QV } (L2.start N vs) H := by
  obtain ⟨x, G, e0, ⟨s, p⟩, q⟩ := h
  exact hb x p (V0 H G) _ [] G ⟨fun _ H' => QV .non H', QV, fun _ _ => False, fun _ _ => False⟩ (start_env s)
    (fun ρ' σ' L' G' r o e H' j => q .non H' G' j.keep e j.unhides.up j.new ⟨.non, r, .non⟩) (fun _ _ _ _ z => z.elim) (fun _ _ _ _ z => z.elim)
    (fun d v L' G' r s' e lo H' j => q v H' G' j.keep e j.unhides.up j.new ⟨d, r, s'⟩) H (J.start e0).hides_nil
theorem fn_g {N : List Str} {ts : TS} {vs : List V} {H : Hp} {QV : VK} {E' : XK} (h : spG K args pre res vs H QV E') (hb : ∀ x, pre x → DS K ts ((args x).map E.d ++ List.replicate (N.length - (args x).length) E.any) (fun _ => .non = res x) (fun _ => False) (fun _ => False) (fun d => d = res x)) : ts { nx := fun _ H' => QV .non H', rt := QV } (L2.start N vs) H := by
  obtain ⟨x, G, e0, ⟨s, p⟩, q⟩ := h
  exact hb x p (V0 H G) _ [] G ⟨fun _ H' => QV .non H', QV, fun _ _ => False, fun _ _ => False⟩ (start_env s)
    (fun ρ' σ' L' G' r o e H' j => q .non H' G' j.keep e j.unhides.up j.new (by show Rp K G' .non (res x); rw [← r]; exact .non)) (fun _ _ _ _ z => z.elim) (fun _ _ _ _ z => z.elim)
    (fun d v L' G' r s' e lo H' j => q v H' G' j.keep e j.unhides.up j.new (by show Rp K G' v (res x); rw [← r]; exact s')) H (J.start e0).hides_nil
theorem len_f {vs : List V} {H : Hp} {QV : VK} {E' : XK} {n : Nat} (h : spF K args pre R vs H QV E') (hn : ∀ x, (args x).length = n) : vs.length = n := by
  obtain ⟨x, G, e0, ⟨s, p⟩, q⟩ := h
  rw [s.len, hn]
theorem len_g {vs : List V} {H : Hp} {QV : VK} {E' : XK} {n : Nat} (h : spG K args pre res vs H QV E') (hn : ∀ x, (args x).length = n) : vs.length = n := by
  obtain ⟨x, G, e0, ⟨s, p⟩, q⟩ := h
  rw [s.len, hn]
end
/-- from a range's end -/
theorem ds_forRev1 (h : DE K te ρ fun e => IE e fun m => -(2 ^ 62) ≤ m ∧ m < 2 ^ 62 ∧ ∃ I : Nat → List E → Prop, Wk (I 0) ρ ∧ (∀ (i : Nat) ρ', i < m.toNat → I i ρ' → DG K g (.d (.int ((m.toNat : Int) - 1 - (i : Int)))) ρ' fun ρ2 => DS K ts ρ2 (Wk (I (i + 1))) N (Wk (I (i + 1))) R) ∧ ∀ ρ', I m.toNat ρ' → N ρ') : DS K (tFor (iRevR (tRg1 te)) g ts) ρ N B C R := fun U σ L G Dn o n b c r H j =>
  h U σ L G o H j _ fun v H1 G1 j1 ⟨e1, x, sx, m, ew, b1, b2, I, ⟨ρ0, le0, h0⟩, hs, hd⟩ => by
    subst ew
    cases (sx : Rp K G1 v (.int m))
    have em : (m - 0).toNat = m.toNat := by rw [Int.sub_zero]
    refine ⟨m, rfl, by omega, by omega, b1, b2, ?_⟩
    rw [em]
    refine for_rangeC (n := m.toNat) (fun i σ' H' => ∃ ρ' L' G', I i ρ' ∧ EnvOk K U ρ' σ' L' G' ∧ Ex G1 G' ∧ J (U.hides L') H' G') ⟨ρ0, L, G1, h0, (o.mono e1).le le0, Ex.refl _, j1⟩ (fun i σ' H' hi ⟨ρ', L', G', p, o', e', j'⟩ => ?_) (fun σ' H' ⟨ρ', L', G', p, o', e', j'⟩ => n ρ' σ' L' G' (hd ρ' p) o' (e1.trans e') H' j')
    have e0 : (0 : Int) + (m.toNat : Int) - 1 + (i : Nat) * (-1) = (m.toNat : Int) - 1 - (i : Int) := by omega
    rw [e0]
    exact loop_env (n.mono e1) (r.mono e1) o' e' j' (e := .d (.int ((m.toNat : Int) - 1 - (i : Int)))) (Rp.int _) (hs i ρ' hi p)
section
variable {α : Type} {args : α → List D} {pre : α → Prop} {R : α → D → Prop} {res : α → D} {ds : List D}
/-! ### the law's own defs that draw -/
def DCS (K : PySem.W.Frag) (sp : Sp) (ds : List D) (Q : E → Prop) : Prop := ∀ U L G st sc (ns : List Int) vs, LOk U L → DrawOk U st → SqL K G sc (ns.map V.int) → RpA K G vs ds → CM (U.hides L) sp (.ref st :: .ref sc :: vs) G (Po K U L G Q)
theorem de_callS {i j : Nat} {sp : Sp} {E' : XK} (h1 : ρ[i]? = some .st) (h2 : ρ[j]? = some .sc) (h : DA K tr ρ fun ds => DCS K sp ds Q) : DE K (tCall sp [] E' (tCons (tVar i) (tCons (tVar j) tr))) ρ Q := fun U σ L G o => by
  obtain ⟨v, h3, a, rfl, hd⟩ := o.at h1 rfl
  obtain ⟨w, h4, b, ns, rfl, hs⟩ := o.at h2 rfl
  refine em_call (am_cons (em_var h3 (am_cons (em_var h4 ((h U σ L G o).w fun vs G1 ⟨e1, ds, sd, k⟩ => ?_)))))
  exact (k U L G1 a b ns vs o.lo hd (ex_l e1 hs) sd).w fun z G3 ⟨e3, k⟩ => ⟨e1.trans e3, k⟩
theorem dcs_draw {sz : Int} (h0 : 0 < sz) (hz : sz.natAbs.log2 < 9000) (k : ∀ n : Int, 0 ≤ n → n < sz → Q (.d (.int n))) : DCS K (spDraw K) [.int sz] Q := fun U L G st sc ns vs lo hd hs s => by
  cases s with
  | cons a b => cases b; cases a; exact cm_draw (hd.hides lo) hs h0 hz fun n n0 n1 => ⟨Ex.refl G, .d (.int n), Rp.int _, k n n0 n1⟩
theorem dcs_f (x : α) (h : ds = args x) (p : pre x) (k : ∀ d, R x d → Q (.d d)) : DCS K (spS' K args pre R) ds Q := fun U L G st sc ns vs lo hd hs s => cm_sa x (hd.hides lo) hs ⟨h ▸ s, p⟩ fun v G' e ⟨d, r, rp⟩ => ⟨e, .d d, rp, k d r⟩
theorem len_s {vs : List V} {H : Hp} {QV : VK} {E' : XK} {n : Nat} (h : spS' K args pre R vs H QV E') (hn : ∀ x, (args x).length + 2 = n) : vs.length = n := by
  obtain ⟨x, st, sc, ns, rest, G, rfl, _, _, _, _, ⟨s, p⟩, q⟩ := h
  rw [List.length_cons, List.length_cons, s.len, hn]
theorem fn_s {N : List Str} {ts : TS} {vs : List V} {H : Hp} {QV : VK} {E' : XK} (h : spS' K args pre R vs H QV E') (hb : ∀ x, pre x → DS K ts (.st :: .sc :: ((args x).map E.d ++ List.replicate (N.length - (args x).length - 2) E.any)) (fun _ => R x .non) (fun _ => False) (fun _ => False) (R x)) : ts { nx := fun _ H' => QV .non H', rt := QV } (L2.start N vs) H := by
  obtain ⟨x, st, sc, ns, rest, G, rfl, hst, gst, e0, hsc, ⟨s, p⟩, q⟩ := h
  have nst : ∀ {σ' : L2.St} {L' : List (Addr × List V)} {H' G' : Hp}, J ((VS st H G).hides L') H' G' → G' st = none := fun j => (j.msk st (.inl rfl)).1
  have fin : ∀ {v : V} {L' : List (Addr × List V)} {H' G' : Hp} {d : D}, J ((VS st H G).hides L') H' G' → Ex G G' → R x d → Rp K G' v d → QV v H' := fun {v L' H' G' d} j e r s' =>
    kv_s (p := fun v G' => ∃ d, R x d ∧ Rp K G' v d) (Q := QV) (fun v H' G' a b c dd ee ff g => q v H' G' a b c dd ee ff g) e ⟨d, r, s'⟩ H' j.unhides
  refine hb x p (VS st H G) _ [] G ⟨fun _ H' => QV .non H', QV, fun _ _ => False, fun _ _ => False⟩ ?_
    (fun ρ' σ' L' G' r o e H' j => fin j e r .non) (fun _ _ _ _ z => z.elim) (fun _ _ _ _ z => z.elim)
    (fun d v L' G' r s' e lo H' j => fin j e r s') H (VS.start hst gst e0).hides_nil
  have o := start_env (K := K) (N := N.drop 2) (H := H) s
  have hl : L2.start N (.ref st :: .ref sc :: rest) = some (.ref st) :: some (.ref sc) :: (rest.map some ++ List.replicate (N.length - (rest.length + 2)) none) := rfl
  have e1 : L2.start (N.drop 2) rest = rest.map some ++ List.replicate (N.length - (rest.length + 2)) none := by
    unfold L2.start; rw [List.length_drop]; congr 2; omega
  have e2 : (args x).map E.d ++ List.replicate (N.length - (args x).length - 2) E.any = (args x).map E.d ++ List.replicate ((N.drop 2).length - (args x).length) E.any := by
    rw [List.length_drop]; congr 2; omega
  rw [hl, ← e1, e2]
  exact {
    len := by rw [List.length_cons, List.length_cons, o.len]; rfl
    sl := fun i e h => by
      match i with
      | 0 => cases h; exact ⟨_, rfl, .inr ⟨_, rfl, st, rfl, VS.draw⟩⟩
      | 1 => cases h; exact ⟨_, rfl, .inr ⟨_, rfl, sc, ns, rfl, hsc⟩⟩
      | i + 2 =>
        obtain ⟨u, h1, h2⟩ := o.sl i e h
        refine ⟨u, h1, h2.elim .inl fun ⟨v, h3, h4⟩ => .inr ⟨v, h3, ?_⟩⟩
        have hm : e ∈ (args x).map E.d ++ List.replicate ((N.drop 2).length - (args x).length) E.any := List.mem_of_getElem? h
        cases e with
        | own ds => simp at hm
        | any => trivial
        | d d => exact h4
        | st => simp at hm
        | sc => exact h4
    lo := lo_nil
    ds := fun i j x' y a n h1 h2 h3 h4 => by
      match i with
      | 0 => cases h1
      | 1 => cases h1
      | i + 2 =>
        have := List.mem_of_getElem? (show ((args x).map E.d ++ List.replicate ((N.drop 2).length - (args x).length) E.any)[i]? = some (.own x') from h1)
        simp at this
    ge := Ex.refl G }
end
/-! ### the law -/
def sp_lawD (K : PySem.W.Frag) : Sp := fun vs H Q _ => ∃ (a : Addr) (ns : List Int), vs = [.ref a] ∧ SqL K H a (ns.map V.int) ∧ ns.length ≤ 63 ∧ ∀ H', Q (.bl true) H'
theorem len_law {vs : List V} {H : Hp} {QV : VK} {E' : XK} (h : sp_lawD K vs H QV E') : vs.length = 1 := by
  obtain ⟨a, ns, rfl, _⟩ := h
  rfl
theorem fn_law {Nm : List Str} {ts : TS} {vs : List V} {H : Hp} {QV : VK} {E' : XK} {i : Nat} (h : sp_lawD K vs H QV E') (hi : 1 ≤ i) (hl : i < Nm.length) (hb : DS K ts ((E.sc :: List.replicate (Nm.length - 1) E.any).set i .st) (fun _ => False) (fun _ => False) (fun _ => False) (fun d => d = .bl true)) :
    (tSeq (tAsg (tLst (tCons (tC (.int 0)) (tCons (tC (.int 0)) tNil))) (gName i)) ts) { nx := fun _ H' => QV .non H', rt := QV } (L2.start Nm vs) H := by
  obtain ⟨sc, ns, rfl, hS, _, q⟩ := h
  refine (show SM (V0 H H) _ _ _ H from ?_) H (J.start (Ex.refl H))
  refine sm_seq (sm_asg (em_lst (am_cons (em_c (am_cons (em_c (am_nil ?_)))))))
  refine ⟨by show 2 ≤ sizeLine; decide, fun st G1 gs e1 gst => ?_⟩
  refine gm_name (km_next (sm_draws gst gs fun G2 k2 hs g2 => ?_))
  have e2 : Ex H G2 := same_of gs e1 k2
  intro H' j
  refine hb (V1 H H st) _ [] G2 ⟨fun _ H' => QV .non H', QV, fun _ _ => False, fun _ _ => False⟩ ?_ (fun _ _ _ _ z => z.elim) (fun _ _ _ _ z => z.elim) (fun _ _ _ _ z => z.elim) (fun d v L' G' r s' e lo H' j => by subst r; cases s'; exact q H') H' j.hides_nil
  exact {
    len := by show ((L2.start Nm [V.ref sc]).set i (some (.ref st))).length = _; unfold L2.start; simp
    sl := fun j e h => by
      show ∃ o, ((L2.start Nm [V.ref sc]).set i (some (.ref st)))[j]? = some o ∧ _
      by_cases z : i = j
      · subst z
        rw [List.getElem?_set_self (by simp; omega)] at h
        cases h
        exact ⟨_, List.getElem?_set_self (by unfold L2.start; simp; omega), .inr ⟨_, rfl, st, rfl, V1.draw gs⟩⟩
      · rw [List.getElem?_set_ne z] at h ⊢
        match j with
        | 0 => cases h; exact ⟨_, rfl, .inr ⟨_, rfl, sc, ns, rfl, ex_l e2 hS⟩⟩
        | j + 1 =>
          have h' : (List.replicate (Nm.length - 1) E.any)[j]? = some e := h
          rw [List.getElem?_replicate] at h'
          split at h'
          · rename_i hl
            cases h'
            exact ⟨none, by show (List.replicate (Nm.length - 1) none)[j]? = _; rw [List.getElem?_replicate, if_pos hl], .inl rfl⟩
          · cases h'
    lo := lo_nil
    ds := fun j k x' y a n h1 h2 h3 h4 => by
      have := List.mem_or_eq_of_mem_set (List.mem_of_getElem? h1)
      simp at this
    ge := e2 }
end
theorem EnvLe.sameE {e e' : E} {r r' : List E} (k : EnvLe r r') (h : e = e') : EnvLe (e :: r) (e' :: r') := by subst h; exact .same k
end Wp

set_option Elab.async false
set_option linter.all false
set_option maxRecDepth 100000
set_option maxHeartbeats 4000000
namespace Wp
section
open PySem PySem.Spec PyProof.Rows HT L2
variable {prog : Program} {w : World} {A : Around} {E : Value → Shared → Prop} {s : Shared}
theorem adjust_rev (n : Nat) : Builtin.Slice.sliceAdjust none none (-1) (n : Int) = ((n : Int) - 1, -1) := by
  unfold Builtin.Slice.sliceAdjust
  simp
theorem places_rev (n : Nat) : Builtin.Slice.slicePlaces ((n : Int) - 1) (-1) (-1) = n := by
  unfold Builtin.Slice.slicePlaces
  simp
  all_goals omega
theorem sliceApplied_rev {sl : Addr} {vl vu vs : Value} {n : Nat} {Q : Int × Int × Nat → Shared → Prop} (hs : s.heap.IsSliceOf sl vl vu vs) (pl : IsPart vl none) (pu : IsPart vu none) (ps : IsPart vs (some (-1)))
    (h : Q ((n : Int) - 1, -1, n) s) : wpAny (model prog w) A (Builtin.Slice.sliceApplied (.ref sl) (pure (n : Int))) Q E s := by
  obtain ⟨os, hos, hcs, hds⟩ := id hs
  unfold Builtin.Slice.sliceApplied Builtin.Slice.sliceFields
  refine wpAny_bind (wpAny_bind (wpAny_field hos hds (x := vl) rfl (wpAny_bind (wpAny_field hos hds (x := vu) rfl (wpAny_bind (wpAny_field hos hds (x := vs) rfl (wpAny_pure ?_)))))))
  refine wpAny_bind (slicePart_ ps ?_)
  show wpAny _ _ (if ((-1 : Int) == 0) = true then _ else _) _ _ s
  rw [if_neg (by decide)]
  refine wpAny_bind (slicePart_ pl (wpAny_bind (slicePart_ pu (wpAny_bind (wpAny_pure ?_)))))
  show wpAny _ _ (match Builtin.Slice.sliceAdjust none none (-1) (n : Int) with | (lo, hi) => pure (lo, (-1 : Int), Builtin.Slice.slicePlaces lo hi (-1))) _ _ s
  rw [adjust_rev n]
  show wpAny _ _ (pure ((n : Int) - 1, (-1 : Int), Builtin.Slice.slicePlaces ((n : Int) - 1) (-1) (-1))) _ _ s
  rw [places_rev]
  exact wpAny_pure h
theorem pick_rev (xs : Array Value) : ((List.range xs.size).filterMap fun (k : Nat) => xs[((xs.size : Int) - 1 + (k : Int) * -1).toNat]?).toArray = xs.toList.reverse.toArray := by
  have e : (fun (k : Nat) => xs[((xs.size : Int) - 1 + (k : Int) * -1).toNat]?) = (xs[·]?) ∘ fun k => xs.size - 1 - k := by
    funext k
    have : ((xs.size : Int) - 1 + (k : Int) * -1).toNat = xs.size - 1 - k := by omega
    rw [this]; rfl
  rw [e, ← List.filterMap_map, PySem.W.krv_range, List.filterMap_reverse, PySem.W.krv_all]
theorem getItem_tuple_rev {t sl : Addr} {items : Array Value} {vl vu vs : Value} {Q : Value → Shared → Prop} (ht : IsTup s.heap t items) (hs : s.heap.IsSliceOf sl vl vu vs) (pl : IsPart vl none) (pu : IsPart vu none) (ps : IsPart vs (some (-1)))
    (h : Q (.ref s.heap.objs.size) { s with heap := s.heap.push { cls := .type "tuple", data := .seq items.toList.reverse.toArray } })
    (hsz : items.size ≤ sizeLine) : wpAny (model prog w) A (getItem (.ref t) (.ref sl)) Q E s := by
  have htake : sizeOk (.seq items.toList.reverse.toArray) := by
    show items.toList.reverse.toArray.size ≤ sizeLine
    rw [List.size_toArray, List.length_reverse, Array.length_toList]
    omega
  obtain ⟨os, hos, hcs, hds⟩ := id hs
  have hTs : s.TypeIs (.ref sl) "slice" := ⟨os, hos, hcs⟩
  unfold getItem
  try with_reducible refine wpAny_holding ?_
  first | refine wpAny_bind (wpAny_pure ?_) | skip
  refine wpAny_bind (wpAny_sequenceKey ht.typeIs (by decide) ?_)
  refine wpAny_bind (wpAny_callSpecial?_slot (name := Str.ofString "__getitem__") ht.typeIs PyProof.Rows.slot_tuple_getitem
    (wpAny_call_entry PyProof.Rows.slot_tuple_getitem ht.typeIs entry_tuple_getitem ?_ (args_tuple_getitem _ _)))
  show wpAny _ _ (Builtin.Tuple.tupleItemsOf (.ref t) >>= _) _ _ s
  refine wpAny_bind (tupleItemsOf_ ht ?_)
  refine wpAny_bind (wpAny_typeOf hTs ?_)
  rw [if_pos (by decide)]
  refine wpAny_bind (sliceApplied_rev hs pl pu ps ?_)
  have hno : ¬ (((items.size : Int) - 1 == 0 && (-1 : Int) == 1 && items.size == items.size) = true) := by simp
  show wpAny _ _ (if ((items.size : Int) - 1 == 0 && (-1 : Int) == 1 && items.size == items.size) = true then _ else _) _ _ s
  rw [if_neg hno, pick_rev]
  first
    | exact wpAny_bind (m := Builtin.Tuple.tupleExact _) (wpAny_newObj_type (wpAny_pure ⟨_, rfl, wpAny_pure h⟩) htake)
    | exact wpAny_bind (m := Builtin.Tuple.tupleExact _) (wpAny_newObj_type (wpAny_bind (wpAny_pure (wpAny_pure ⟨_, rfl, wpAny_pure h⟩))) htake)
    | exact wpAny_bind (wpAny_bind (m := Builtin.Tuple.tupleExact _) (wpAny_newObj_type (wpAny_pure (wpAny_pure ⟨_, rfl, wpAny_pure h⟩)) htake))
    | exact wpAny_bind (wpAny_bind (m := Builtin.Tuple.tupleExact _) (wpAny_newObj_type (wpAny_pure ⟨_, rfl, wpAny_pure h⟩) htake))
/-- xs[::-1] of a list or a tuple -/
def tRevS (K : PySem.W.Frag) (te : TE) : TE := fun σ H Q => te σ H fun x H1 => ∃ a xs, x = .ref a ∧ ((SqL K H1 a xs ∧ ∀ p, H1 p = none → Q (.ref p) (upd H1 p (.lst xs.reverse))) ∨ (SqT K H1 a xs ∧ ∀ p, H1 p = none → Q (.ref p) (upd H1 p (.tup xs.reverse))))
theorem pe_revS {X : Cx} {K : PySem.W.Frag} {e : Expr} {te : TE} {k : Nat} {p1 p2 p3 pos : Pos} (he : PE X e te) (hK : X.K = K := by rfl) : PE X (.Subscript e (.Slice none none (some (.UnaryOp .USub (.Constant (.int 1) k p1) p2)) p3) pos) (tRevS K te) := by
  subst hK
  refine ⟨fun pins s σ H Q I h => ?_⟩
  refine Subscript_ (thn (he.run pins s σ H _ I h) fun v s1 ⟨x, H1, I1, r1, q1⟩ => ?_)
  obtain ⟨a, xs, ex, hq⟩ := q1
  subst ex
  cases r1
  have hst : PO X (some (.UnaryOp .USub (.Constant (.int 1) k p1) p2)) (tPart (tUn (rU fun i => .int (-i)) (tC (.int 1)))) := po_some (pe_un un_neg pe_int)
  refine wpAny_Slice (thn (po_none.run pins s1 σ H1 (fun o H2 => o = none ∧ H2 = H1) I1 ⟨rfl, rfl⟩) fun vl s2 ⟨l, H2, I2, pl, el, e2⟩ => ?_)
  subst el e2
  refine thn (po_none.run pins s2 σ H2 (fun o H3 => o = none ∧ H3 = H2) I2 ⟨rfl, rfl⟩) fun vu s3 ⟨u, H3, I3, pu, eu, e3⟩ => ?_
  subst eu e3
  refine thn (hst.run pins s3 σ H3 (fun o H4 => o = some (-1) ∧ H4 = H3) I3 ⟨1, rfl, -1, rfl, rfl, rfl⟩) fun vs s4 ⟨o, H4, I4, ps, eo, e4⟩ => ?_
  subst eo e4
  have I5 : Inv X pins σ H4 { s4 with heap := s4.heap.push { cls := .type "slice", data := .fields #[vl, vu, vs] } } := I4.kept (t' := s4.toks) fun b ob q => Heap.get?_push_of_some _ q
  show wpAny (model X.prog X.w) X.A (subscriptTail e (.Slice none none (some (.UnaryOp .USub (.Constant (.int 1) k p1) p2)) p3) (.ref a) (.ref s4.heap.objs.size)) (EP X pins σ Q) X.xe { s4 with heap := s4.heap.push { cls := .type "slice", data := .fields #[vl, vu, vs] } }
  rcases hq with ⟨hx, q⟩ | ⟨hx, q⟩
  · obtain ⟨its, r, ht, hz⟩ := I5.list hx
    have hlen := r.length
    refine tail_any (ops := [.ref a, .ref s4.heap.objs.size]) ht.isList.typeIs (PySem.slot_list_getitem.lookup) ?_ (by with_unfolding_all rfl)
    refine wpAny_getItem_list_slice ht.isList (Heap.IsSliceOf.new _ vl vu vs) pl pu ps (by decide) ?_ (by rw [List.size_toArray]; omega)
    rw [PySem.W.krv_pick]
    refine ⟨.ref _, _, I5.laid (t' := s4.toks) (o := .lst xs.reverse) (fun b ob q => Heap.get?_push_of_some _ q) (Nat.le_refl _) ?_, rfl, q _ (I5.hok.fresh (Nat.le_refl _))⟩
    exact ⟨by rw [List.length_reverse]; exact hz, _, 0, r.reverse, Heap.get?_push_size _ rfl⟩
  · obtain ⟨its, r, ht, hz⟩ := I5.tuple hx
    have hlen : its.toArray.size = xs.length := by rw [List.size_toArray]; exact r.length.symm
    refine tail_any (ops := [.ref a, .ref s4.heap.objs.size]) ht.typeIs PyProof.Rows.slot_tuple_getitem.lookup ?_ (by with_unfolding_all rfl)
    refine getItem_tuple_rev ht (Heap.IsSliceOf.new _ vl vu vs) pl pu ps ?_ (by rw [hlen]; exact hz)
    refine ⟨.ref _, _, I5.laid (t' := s4.toks) (o := .tup xs.reverse) (fun b ob q => Heap.get?_push_of_some _ q) (Nat.le_refl _) ?_, rfl, q _ (I5.hok.fresh (Nat.le_refl _))⟩
    exact ⟨by rw [List.length_reverse]; exact hz, _, r.reverse, IsTup.new _ _⟩
end
section
open PySem L2 Evl StX
variable {K : PySem.W.Frag} {ρ : List E} {te tl : TE} {tt : TT} {g : TG} {ts : TS} {N B C : List E → Prop} {R : D → Prop} {Q : E → Prop} {QN : List D → Prop} {vs : List Nat}
theorem de_revS (h : DE K te ρ fun x => (∃ ds, x = .d (.lst ds) ∧ Q (.d (.lst ds.reverse))) ∨ (∃ ds, x = .own ds ∧ Q (.d (.lst ds.reverse))) ∨ ∃ ds, x = .d (.tup ds) ∧ Q (.d (.tup ds.reverse))) : DE K (tRevS K te) ρ Q := fun U σ L G o H j QH q =>
  h U σ L G o H j _ fun v H1 G1 j1 ⟨e1, x, sx, hd⟩ => by
    rcases hd with ⟨ds, rfl, k⟩ | ⟨ds, rfl, k⟩ | ⟨ds, rfl, k⟩
    · cases (sx : Rp K G1 v (.lst ds)) with
      | lst a b => exact ⟨_, _, rfl, .inl ⟨ex_l j1.up (sq_of a), fun l hl => q _ _ _ (j1.alloc hl) ⟨e1.trans (Ex.new (j1.free hl)), .d (.lst ds.reverse), .lst upd_same (b.mono (Ex.new (j1.free hl))).rev, k⟩⟩⟩
    · obtain ⟨a, vs, rfl, hm, b⟩ := sx
      exact ⟨_, _, rfl, .inl ⟨sq_of (j1.hid.2 _ hm), fun l hl => q _ _ _ (j1.alloc hl) ⟨e1.trans (Ex.new (j1.free hl)), .d (.lst ds.reverse), .lst upd_same (b.mono (Ex.new (j1.free hl))).rev, k⟩⟩⟩
    · cases (sx : Rp K G1 v (.tup ds)) with
      | tup a b => exact ⟨_, _, rfl, .inr ⟨ex_t j1.up a, fun l hl => q _ _ _ (j1.alloc hl) ⟨e1.trans (Ex.new (j1.free hl)), .d (.tup ds.reverse), .tup (st_of upd_same) (b.mono (Ex.new (j1.free hl))).rev, k⟩⟩⟩
theorem ki_zip {X : Cx} {e e2 : Expr} {ta : TA} {p pos tpos : Pos} {elts : List Expr} {kk : Nat} (hg : Gl X "zip") (hm : X.mg "zip" = none) (ha : PA X [e, e2] ta) (h : X.K = K := by rfl)
    (hs : starEach [e, e2] X.env = (false, eval e X.env) :: starEach [e2] X.env := by rfl) (hpl : (backTo pos (starEach [e2] X.env)).any (·.1) = false := by rfl) :
    PI X (.Tuple elts kk tpos) (.Call (.Name "zip" p) [e, e2] [] pos) (iZip K ta) := by subst h; exact pi_zip hg hm ha hs hpl
/-- for x, y in zip(two lists) -/
theorem ds_forZ {ta : TA} (h : DA K ta ρ fun ws => ∃ ds es, ws = [.lst ds, .lst es] ∧ ∃ I : Nat → List E → Prop, Wk (I 0) ρ ∧ (∀ (i : Nat) d e ρ', ds[i]? = some d → es[i]? = some e → I i ρ' → DG K g (.d (.tup [d, e])) ρ' fun ρ2 => DS K ts ρ2 (Wk (I (i + 1))) N (Wk (I (i + 1))) R) ∧ ∀ ρ', I (min ds.length es.length) ρ' → N ρ') : DS K (tFor (iZip K ta) g ts) ρ N B C R := fun U σ L G Dn o n b c r H j =>
  h U σ L G o H j _ fun vs H1 G1 j1 ⟨e1, ws, sw, ds, es, ew, I, ⟨ρ0, le0, h0⟩, hs, hd⟩ => by
    subst ew
    cases sw with
    | cons sa sn =>
      cases sn with
      | cons sb sn =>
        cases sn
        cases sa with
        | @lst a xs _ ha k =>
          cases sb with
          | @lst b' ys _ hb' k' =>
            have wk : Walk (Itz K a b') (min xs.length ys.length) (fun H => SqL K H a xs ∧ SqL K H b' ys) (fun i H v H' => ∃ T x y, v = .ref T ∧ H T = none ∧ H' = upd H T (.tup [x, y]) ∧ xs[i]? = some x ∧ ys[i]? = some y) :=
              ⟨fun i H hi ⟨hq, hr⟩ => ⟨xs, ys, xs[i]'(by omega), ys[i]'(by omega), hq, hr, List.getElem?_eq_getElem (by omega), List.getElem?_eq_getElem (by omega)⟩, fun H ⟨hq, hr⟩ => ⟨xs, ys, hq, hr, by omega⟩, fun i H x H' hi ⟨hq, hr⟩ ⟨T, x1, y1, f1, f2, f3, f4, f5⟩ => ⟨T, x1, y1, f1, f2, f3, f4 xs hq, f5 ys hr⟩⟩
            refine ⟨a, b', xs, ys, rfl, sq_of (j1.up _ _ ha), sq_of (j1.up _ _ hb'), for_it wk (fun i σ' H' => ∃ ρ' L' G', I i ρ' ∧ EnvOk K U ρ' σ' L' G' ∧ Ex G1 G' ∧ J (U.hides L') H' G') ⟨ρ0, L, G1, h0, (o.mono e1).le le0, Ex.refl _, j1⟩ (fun i σ' H' _ ⟨ρ', L', G', p, o', e', j'⟩ => ⟨sq_of (j'.up _ _ (e' _ _ ha)), sq_of (j'.up _ _ (e' _ _ hb'))⟩) (fun i x σ' H' H'' hi ⟨ρ', L', G', p, o', e', j'⟩ ⟨T, x1, y1, ex, hT, eH, hx, hy⟩ => ?_) (fun σ' H' ⟨ρ', L', G', p, o', e', j'⟩ => ?_)⟩
            · subst ex eH
              obtain ⟨d, d1, d2⟩ := k.at hx
              obtain ⟨e, q1, q2⟩ := k'.at hy
              have eT : Ex G' (upd G' T (.tup [x1, y1])) := Ex.new (j'.free hT)
              exact loop_env (n.mono e1) (r.mono e1) (o'.mono eT) (e'.trans eT) (j'.alloc hT) (e := .d (.tup [d, e])) (Rp.tup (st_of upd_same) (.cons ((d2.mono e').mono eT) (.cons ((q2.mono e').mono eT) .nil))) (hs i d e ρ' d1 q1 p)
            · rw [k.len, k'.len] at p; exact n ρ' σ' L' G' (hd ρ' p) o' (e1.trans e') H' j'
/-- name += e, name -= e -/
theorem ds_aug {i : Nat} {f : Int → Int → Int} (h : ∃ n, ρ[i]? = some (.d (.int n)) ∧ DE K te ρ fun e => IE e fun m => SetTo ρ i (.d (.int (f n m))) N) : DS K (tAug i te (ipI f)) ρ N B C R := fun U σ L G Dn o n b c r H j => by
  obtain ⟨k, h1, h2⟩ := h
  obtain ⟨v, h3, h4⟩ := o.at h1 rfl
  cases (h4 : Rp K G v (.int k))
  refine ⟨_, h3, h2 U σ L G o H j _ fun y H1 G1 j1 ⟨e1, x, sx, m, ex, ρ', hr, kn⟩ => ?_⟩
  subst ex hr
  cases (sx : Rp K G1 y (.int m))
  exact ⟨_, _, rfl, rfl, n _ _ _ _ kn ((o.mono e1).set (e := .d (.int (f k m))) rfl (Rp.int _)) e1 H1 j1⟩
/-! ### a list or a tuple -/
def rIxS (K : PySem.W.Frag) : R2 := fun x y H Q => rIxL K x y H Q ∨ rIxT K x y H Q
theorem kx_seq {X : Cx} (h : X.K = K := by rfl) : IxR X (rIxS K) := by
  subst h
  intro value slice pins s σ H x y v u Q I rx ry hq hs
  exact hq.elim (fun z => ix_list value slice pins s σ H x y v u Q I rx ry z hs) (fun z => ix_tup value slice pins s σ H x y v u Q I rx ry z hs)
theorem dr_ixSL {ds : List D} {i : Int} (h : ∃ d, atI ds i = some d ∧ Q (.d d)) : DR K (rIxS K) (.d (.lst ds)) (.d (.int i)) Q := fun U L G v w lo sx sy H j QH q => .inl (dr_ixL h U L G v w lo sx sy H j QH q)
theorem dr_ixST {ds : List D} {i : Int} (h : ∃ d, atI ds i = some d ∧ Q (.d d)) : DR K (rIxS K) (.d (.tup ds)) (.d (.int i)) Q := fun U L G v w lo sx sy H j QH q => .inr (dr_ixT h U L G v w lo sx sy H j QH q)
def rSlS (K : PySem.W.Frag) : V → Option Int → Option Int → Hp → VK → Prop := fun x lo hi H Q => rSlL K x lo hi H Q ∨ rSlA K x lo hi H Q
theorem kl_seq {X : Cx} (h : X.K = K := by rfl) : SlR X (rSlS K) := by subst h; exact SlR.or sl_list sl_tupA
theorem kl_tupA {X : Cx} (h : X.K = K := by rfl) : SlR X (rSlA K) := by subst h; exact sl_tupA
theorem kp_catA {X : Cx} (h : X.K = K := by rfl) : OpR X (binaryOp .Add) (rCatA K) := by subst h; exact op_catA
theorem cut_whole {ds : List D} {lo hi : Option Int} (h : HT.sIx ds.length 0 lo = 0 ∧ HT.sIx ds.length ds.length hi = ds.length) : cutO ds lo hi = ds := by
  unfold cutO
  rw [h.1, h.2, List.drop_zero, Nat.sub_zero, List.take_length]
theorem dsl_A {ds : List D} {lo hi : Option Int} (k : Q (.d (.tup (cutO ds lo hi)))) : DSl K (rSlA K) (.d (.tup ds)) lo hi Q := fun U L G v _ sx H j QH q => by
  cases (sx : Rp K G v (.tup ds)) with
  | tup a b =>
    refine ⟨_, _, rfl, ex_t j.up a, fun h => ?_, fun h p hp => ?_⟩
    · rw [b.len] at h
      exact q _ _ _ j ⟨Ex.refl G, .d (.tup (cutO ds lo hi)), by rw [cut_whole h]; exact .tup a b, k⟩
    · exact q _ _ _ (j.alloc hp) ⟨Ex.new (j.free hp), .d (.tup (cutO ds lo hi)), .tup (st_of upd_same) ((b.mono (Ex.new (j.free hp))).cut lo hi), k⟩
theorem dsl_SL {ds : List D} {lo hi : Option Int} (k : Q (.d (.lst (cutO ds lo hi)))) : DSl K (rSlS K) (.d (.lst ds)) lo hi Q := fun U L G v lo' sx H j QH q => .inl (dsl_L k U L G v lo' sx H j QH q)
theorem dsl_ST {ds : List D} {lo hi : Option Int} (k : Q (.d (.tup (cutO ds lo hi)))) : DSl K (rSlS K) (.d (.tup ds)) lo hi Q := fun U L G v lo' sx H j QH q => .inr (dsl_A k U L G v lo' sx H j QH q)
theorem dr_catA {ds es : List D} (hz : ds.length + es.length ≤ sizeLine) (k : Q (.d (.tup (ds ++ es)))) : DR K (rCatA K) (.d (.tup ds)) (.d (.tup es)) Q := fun U L G v w _ sx sy H j QH q => by
  cases (sx : Rp K G v (.tup ds)) with
  | @tup a xs _ ha b =>
    cases (sy : Rp K G w (.tup es)) with
    | @tup a' ys _ ha' b' =>
      refine ⟨_, _, _, _, rfl, rfl, ex_t j.up ha, ex_t j.up ha', by rw [b.len, b'.len]; exact hz, fun h => ?_, fun _ h => ?_, fun _ _ p hp => ?_⟩
      · subst h; cases b; exact q _ _ _ j ⟨Ex.refl G, .d (.tup es), .tup ha' b', k⟩
      · subst h; cases b'; exact q _ _ _ j ⟨Ex.refl G, .d (.tup (ds ++ [])), by rw [List.append_nil]; exact .tup ha b, k⟩
      · exact q _ _ _ (j.alloc hp) ⟨Ex.new (j.free hp), .d (.tup (ds ++ es)), .tup (st_of upd_same) ((b'.mono (Ex.new (j.free hp))).app (b.mono (Ex.new (j.free hp)))), k⟩
/-- a walk over a list or a tuple -/
theorem dn_lcS (h : (DN K (tLc (iList K tl) g tt te vs) ρ QN) ∨ DN K (tLc (iTup K tl) g tt te vs) ρ QN) : DN K (tLc (iSeq K tl) g tt te vs) ρ QN := fun U σ L G o H j QH q =>
  h.elim (fun h => .inl (h U σ L G o H j QH q)) (fun h => .inr (h U σ L G o H j QH q))
theorem ds_forS (h : DS K (tFor (iList K tl) g ts) ρ N B C R ∨ DS K (tFor (iTup K tl) g ts) ρ N B C R) : DS K (tFor (iSeq K tl) g ts) ρ N B C R := fun U σ L G Dn o n b c r H j =>
  h.elim (fun h => .inl (h U σ L G Dn o n b c r H j)) (fun h => .inr (h U σ L G Dn o n b c r H j))
end
end Wp


set_option Elab.async false
set_option linter.all false
set_option maxRecDepth 100000
set_option maxHeartbeats 4000000
set_option pp.maxSteps 250
namespace Pf
open PySem PySem.Spec PyProof.Rows L2 Evl Wp StX
set_option autoImplicit false


local macro_rules | `(tactic| walk_at "c") => `(tactic| first | assumption | exact ⟨by assumption, by assumption⟩ | omega | decide | exact .inr ⟨by omega, by omega⟩ | exact .inl ⟨by omega, by omega⟩ | exact ⟨by omega, by omega⟩ | exact ⟨by decide, by decide⟩ | exact ⟨by omega, by decide, by decide⟩)
local macro_rules | `(tactic| walk_at "sq") => `(tactic| first | assumption | exact sq_of (by assumption) | (refine' ex_l ?exh ?sqh; (case exh => assumption); (case sqh => walk_at "sq")))
local macro_rules | `(tactic| walk_at "st") => `(tactic| first | assumption | exact st_of (by assumption) | (refine' ex_t ?exh ?sqh; (case exh => assumption); (case sqh => walk_at "st")))
local macro_rules | `(tactic| walk_at "go1") => `(tactic| first
  | with_reducible refine iteT ?_
  | with_reducible refine iteF ?_
  | with_reducible refine ifNT ?_
  | with_reducible refine ifNF ?_
  | with_reducible refine sm_seq ?_
  | with_reducible refine sm_asg ?_
  | with_reducible refine gm_name ?_
  | with_reducible refine km_next ?_
  | with_reducible refine kv_rt ?_
  | with_reducible refine sm_if ?_
  | with_reducible refine sm_ret ?_
  | with_reducible refine sm_drop ?_
  | with_reducible refine sm_fld ?_
  | with_reducible refine tm_test ?_
  | with_reducible refine tm_B ?_
  | with_reducible refine tm_and ?_
  | with_reducible refine tm_or ?_
  | with_reducible refine tm_not ?_
  | with_reducible refine tm_yes ?_
  | ((with_reducible refine em_here ?_); refine ⟨_, rfl, ?_⟩)
  | with_reducible refine em_c ?_
  | with_reducible refine em_op ?_
  | with_reducible refine em_un ?_
  | with_reducible refine em_chain ?_
  | with_reducible refine rm_I0 ?_
  | ((with_reducible refine rm_I ?cch ?_); (case cch => walk_at "c"))
  | with_reducible refine rm_U ?_
  | with_reducible refine rm_eqI ?_
  | with_reducible refine rm_neI ?_
  | with_reducible refine bv ?_
  | with_reducible refine iv ?_
  | with_reducible refine am_nil ?_
  | with_reducible refine am_cons ?_
  | with_reducible refine em_cb ?_
  | with_reducible refine em_call ?_
  | with_reducible refine em_fld ?_
  | with_reducible refine em_meth ?_
  | with_reducible refine em_andV ?_
  | with_reducible refine em_orV ?_
  | with_reducible refine em_notV ?_
  | with_reducible refine em_if ?_
  | ((with_reducible refine em_bits ?_))
  | with_reducible refine rm_int ?_
  | with_reducible refine rm_max ?_
  | with_reducible refine rm_min ?_
  | ((with_reducible refine' rm_lenL ?sqh ?_); (case sqh => walk_at "sq"))
  | with_reducible refine gm_subL ?_
  | with_reducible refine gs_cons ?_
  | with_reducible refine gs_nil ?_
  | with_reducible refine rm_isN_ref ?_
  | with_reducible refine rm_isN_non ?_
  | with_reducible refine rm_isN_int ?_
  | with_reducible refine rm_notN_ref ?_
  | with_reducible refine rm_notN_non ?_
  | with_reducible refine rm_notN_int ?_
  | with_reducible refine rm_eqS ?_
  | with_reducible refine rm_neS ?_
  | with_reducible refine rm_eqB ?_
  | with_reducible refine rm_neB ?_
  | with_reducible refine em_sl ?_
  | with_reducible refine om_none ?_
  | with_reducible refine om_some ?_
  | with_reducible refine rm_isB ?_
  | with_reducible refine rm_notB ?_)
local macro_rules | `(tactic| walk_at "go") => `(tactic| repeat walk_at "go1")

def top (i : Nat) : Stmt := PySem.Challenge.pw_offing_k04_whole_breaks_of_lists.main.body.getD i (.Pass ⟨0, 0, 0, 0⟩)
abbrev s_Hasher___init__ : Stmt := inClass (top 12) 0
theorem sc_Hasher___init__ : FnScope ["self", "width"] ["self", "width"] (defScope s_Hasher___init__) := ⟨rfl, rfl, rfl, by decide +kernel, rfl, by decide +kernel, by decide +kernel⟩
abbrev s_Hasher_digest : Stmt := inClass (top 12) 1
theorem sc_Hasher_digest : FnScope ["self", "tag", "numbers", "mix"] ["self", "tag", "numbers"] (defScope s_Hasher_digest) := ⟨rfl, rfl, rfl, by decide +kernel, rfl, by decide +kernel, by decide +kernel⟩
abbrev s_Hasher_is_digest : Stmt := inClass (top 12) 2
theorem sc_Hasher_is_digest : FnScope ["self", "number"] ["self", "number"] (defScope s_Hasher_is_digest) := ⟨rfl, rfl, rfl, by decide +kernel, rfl, by decide +kernel, by decide +kernel⟩
abbrev s_are_digests : Stmt := top 13
theorem sc_are_digests : FnScope ["hasher", "numbers", "number"] ["hasher", "numbers"] (defScope s_are_digests) := ⟨rfl, rfl, rfl, by decide +kernel, rfl, by decide +kernel, by decide +kernel⟩
abbrev s_limbs_of : Stmt := top 14
theorem sc_limbs_of : FnScope ["numbers", "limbs", "number", "many", "place"] ["numbers"] (defScope s_limbs_of) := ⟨rfl, rfl, rfl, by decide +kernel, rfl, by decide +kernel, by decide +kernel⟩
abbrev s_mixed : Stmt := top 15
theorem sc_mixed : FnScope ["limbs", "first", "second", "limb"] ["limbs"] (defScope s_mixed) := ⟨rfl, rfl, rfl, by decide +kernel, rfl, by decide +kernel, by decide +kernel⟩
abbrev s_collision : Stmt := top 16
theorem sc_collision : FnScope ["first", "second"] ["first", "second"] (defScope s_collision) := ⟨rfl, rfl, rfl, by decide +kernel, rfl, by decide +kernel, by decide +kernel⟩
abbrev s_is_collision : Stmt := top 17
theorem sc_is_collision : FnScope ["hasher", "answer", "first", "second"] ["hasher", "answer"] (defScope s_is_collision) := ⟨rfl, rfl, rfl, by decide +kernel, rfl, by decide +kernel, by decide +kernel⟩
abbrev s_is_input : Stmt := top 18
theorem sc_is_input : FnScope ["pair", "tag", "numbers", "number"] ["pair"] (defScope s_is_input) := ⟨rfl, rfl, rfl, by decide +kernel, rfl, by decide +kernel, by decide +kernel⟩
abbrev s_first_collision : Stmt := top 19
theorem sc_first_collision : FnScope ["own_inputs", "told_inputs", "own", "told"] ["own_inputs", "told_inputs"] (defScope s_first_collision) := ⟨rfl, rfl, rfl, by decide +kernel, rfl, by decide +kernel, by decide +kernel⟩
abbrev s_left_size : Stmt := top 23
theorem sc_left_size : FnScope ["size"] ["size"] (defScope s_left_size) := ⟨rfl, rfl, rfl, by decide +kernel, rfl, by decide +kernel, by decide +kernel⟩
abbrev s_part_with : Stmt := top 24
theorem sc_part_with : FnScope ["size", "place", "left"] ["size", "place"] (defScope s_part_with) := ⟨rfl, rfl, rfl, by decide +kernel, rfl, by decide +kernel, by decide +kernel⟩
abbrev s_list_root : Stmt := top 25
theorem sc_list_root : FnScope ["hasher", "items", "size", "left"] ["hasher", "items"] (defScope s_list_root) := ⟨rfl, rfl, rfl, by decide +kernel, rfl, by decide +kernel, by decide +kernel⟩
abbrev s_list_proof : Stmt := top 26
theorem sc_list_proof : FnScope ["hasher", "items", "k", "size", "left"] ["hasher", "items", "k"] (defScope s_list_proof) := ⟨rfl, rfl, rfl, by decide +kernel, rfl, by decide +kernel, by decide +kernel⟩
abbrev s_growth_proof : Stmt := top 27
theorem sc_growth_proof : FnScope ["hasher", "items", "old", "size", "left"] ["hasher", "items", "old"] (defScope s_growth_proof) := ⟨rfl, rfl, rfl, by decide +kernel, rfl, by decide +kernel, by decide +kernel⟩
abbrev s_list_check : Stmt := top 28
theorem sc_list_check : FnScope ["hasher", "root", "count", "k", "item", "proof", "way", "tag", "numbers"] ["hasher", "root", "count", "k", "item", "proof"] (defScope s_list_check) := ⟨rfl, rfl, rfl, by decide +kernel, rfl, by decide +kernel, by decide +kernel⟩
abbrev s_item_way : Stmt := top 29
theorem sc_item_way : FnScope ["count", "k", "most", "way", "size", "goes_left", "part"] ["count", "k", "most"] (defScope s_item_way) := ⟨rfl, rfl, rfl, by decide +kernel, rfl, by decide +kernel, by decide +kernel⟩
abbrev s_item_inputs : Stmt := top 30
theorem sc_item_inputs : FnScope ["hasher", "way", "item", "proof", "leaf", "end"] ["hasher", "way", "item", "proof"] (defScope s_item_inputs) := ⟨rfl, rfl, rfl, by decide +kernel, rfl, by decide +kernel, by decide +kernel⟩
abbrev s_way_inputs : Stmt := top 31
theorem sc_way_inputs : FnScope ["hasher", "way", "beside", "end", "inputs", "below", "at", "size", "goes_left", "numbers"] ["hasher", "way", "beside", "end"] (defScope s_way_inputs) := ⟨rfl, rfl, rfl, by decide +kernel, rfl, by decide +kernel, by decide +kernel⟩
abbrev s_list_break : Stmt := top 32
theorem sc_list_break : FnScope ["hasher", "items", "k", "item", "proof", "count", "way", "own"] ["hasher", "items", "k", "item", "proof"] (defScope s_list_break) := ⟨rfl, rfl, rfl, by decide +kernel, rfl, by decide +kernel, by decide +kernel⟩
abbrev s_growth_check : Stmt := top 33
theorem sc_growth_check : FnScope ["hasher", "old_root", "old", "root", "count", "proof", "way"] ["hasher", "old_root", "old", "root", "count", "proof"] (defScope s_growth_check) := ⟨rfl, rfl, rfl, by decide +kernel, rfl, by decide +kernel, by decide +kernel⟩
abbrev s_growth_way : Stmt := top 34
theorem sc_growth_way : FnScope ["count", "old", "most", "way", "size", "goes_left", "part"] ["count", "old", "most"] (defScope s_growth_way) := ⟨rfl, rfl, rfl, by decide +kernel, rfl, by decide +kernel, by decide +kernel⟩
abbrev s_growth_beside : Stmt := top 35
theorem sc_growth_beside : FnScope ["way", "proof", "beside", "low", "high", "size", "goes_left"] ["way", "proof"] (defScope s_growth_beside) := ⟨rfl, rfl, rfl, by decide +kernel, rfl, by decide +kernel, by decide +kernel⟩
abbrev s_growth_inputs : Stmt := top 36
theorem sc_growth_inputs : FnScope ["hasher", "way", "proof", "beside", "end"] ["hasher", "way", "proof"] (defScope s_growth_inputs) := ⟨rfl, rfl, rfl, by decide +kernel, rfl, by decide +kernel, by decide +kernel⟩
abbrev s_told_root : Stmt := top 37
theorem sc_told_root : FnScope ["hasher", "way", "proof", "tag", "numbers"] ["hasher", "way", "proof"] (defScope s_told_root) := ⟨rfl, rfl, rfl, by decide +kernel, rfl, by decide +kernel, by decide +kernel⟩
abbrev s_told_old_root : Stmt := top 38
theorem sc_told_old_root : FnScope ["hasher", "way", "old", "proof", "sizes", "size", "root", "at", "goes_left"] ["hasher", "way", "old", "proof"] (defScope s_told_old_root) := ⟨rfl, rfl, rfl, by decide +kernel, rfl, by decide +kernel, by decide +kernel⟩
abbrev s_growth_break : Stmt := top 39
theorem sc_growth_break : FnScope ["hasher", "items", "old_root", "old", "proof", "count", "way", "own"] ["hasher", "items", "old_root", "old", "proof"] (defScope s_growth_break) := ⟨rfl, rfl, rfl, by decide +kernel, rfl, by decide +kernel, by decide +kernel⟩
abbrev s__law_draw : Stmt := top 41
theorem sc__law_draw : FnScope ["state", "script", "size", "cell", "mixed_v", "digit"] ["state", "script", "size"] (defScope s__law_draw) := ⟨rfl, rfl, rfl, by decide +kernel, rfl, by decide +kernel, by decide +kernel⟩
abbrev s__law_digest : Stmt := top 42
theorem sc__law_digest : FnScope ["width", "tag", "numbers", "limbs", "number", "digits", "mask", "first", "second", "limb"] ["width", "tag", "numbers"] (defScope s__law_digest) := ⟨rfl, rfl, rfl, by decide +kernel, rfl, by decide +kernel, by decide +kernel⟩
abbrev s__law_part : Stmt := top 43
theorem sc__law_part : FnScope ["size", "part"] ["size"] (defScope s__law_part) := ⟨rfl, rfl, rfl, by decide +kernel, rfl, by decide +kernel, by decide +kernel⟩
abbrev s__law_root : Stmt := top 44
theorem sc__law_root : FnScope ["width", "items", "part"] ["width", "items"] (defScope s__law_root) := ⟨rfl, rfl, rfl, by decide +kernel, rfl, by decide +kernel, by decide +kernel⟩
abbrev s__law_steps : Stmt := top 45
theorem sc__law_steps : FnScope ["count", "k", "steps", "part"] ["count", "k"] (defScope s__law_steps) := ⟨rfl, rfl, rfl, by decide +kernel, rfl, by decide +kernel, by decide +kernel⟩
abbrev s__law_way : Stmt := top 46
theorem sc__law_way : FnScope ["width", "items", "k", "part"] ["width", "items", "k"] (defScope s__law_way) := ⟨rfl, rfl, rfl, by decide +kernel, rfl, by decide +kernel, by decide +kernel⟩
abbrev s__law_inputs : Stmt := top 47
theorem sc__law_inputs : FnScope ["width", "count", "k", "item", "proof", "found", "steps", "j", "size", "is_left", "digest"] ["width", "count", "k", "item", "proof"] (defScope s__law_inputs) := ⟨rfl, rfl, rfl, by decide +kernel, rfl, by decide +kernel, by decide +kernel⟩
abbrev s__law_listed : Stmt := top 48
theorem sc__law_listed : FnScope ["width", "root", "count", "k", "item", "proof", "tag", "numbers", "one"] ["width", "root", "count", "k", "item", "proof"] (defScope s__law_listed) := ⟨rfl, rfl, rfl, by decide +kernel, rfl, by decide +kernel, by decide +kernel⟩
abbrev s__law_items : Stmt := top 49
theorem sc__law_items : FnScope ["state", "script", "most", "items", "k"] ["state", "script", "most"] (defScope s__law_items) := ⟨rfl, rfl, rfl, by decide +kernel, rfl, by decide +kernel, by decide +kernel⟩
abbrev s__law_pieces : Stmt := top 50
theorem sc__law_pieces : FnScope ["count", "old", "part"] ["count", "old"] (defScope s__law_pieces) := ⟨rfl, rfl, rfl, by decide +kernel, rfl, by decide +kernel, by decide +kernel⟩
abbrev s__law_grows : Stmt := top 51
theorem sc__law_grows : FnScope ["width", "items", "old", "part"] ["width", "items", "old"] (defScope s__law_grows) := ⟨rfl, rfl, rfl, by decide +kernel, rfl, by decide +kernel, by decide +kernel⟩
abbrev s__law_old : Stmt := top 52
theorem sc__law_old : FnScope ["width", "sizes", "digests", "digest", "size", "k"] ["width", "sizes", "digests"] (defScope s__law_old) := ⟨rfl, rfl, rfl, by decide +kernel, rfl, by decide +kernel, by decide +kernel⟩
abbrev s__law_whole : Stmt := top 53
theorem sc__law_whole : FnScope ["width", "count", "old", "proof", "part", "left", "rest", "first", "right", "second", "one"] ["width", "count", "old", "proof"] (defScope s__law_whole) := ⟨rfl, rfl, rfl, by decide +kernel, rfl, by decide +kernel, by decide +kernel⟩
abbrev s__law_grown : Stmt := top 54
theorem sc__law_grown : FnScope ["width", "old_root", "old", "root", "count", "proof", "pieces", "places", "one", "k"] ["width", "old_root", "old", "root", "count", "proof"] (defScope s__law_grown) := ⟨rfl, rfl, rfl, by decide +kernel, rfl, by decide +kernel, by decide +kernel⟩
abbrev s__law_first : Stmt := top 55
theorem sc__law_first : FnScope ["true", "told", "k"] ["true", "told"] (defScope s__law_first) := ⟨rfl, rfl, rfl, by decide +kernel, rfl, by decide +kernel, by decide +kernel⟩
abbrev s__law_right : Stmt := top 56
theorem sc__law_right : FnScope ["hasher", "width", "found", "due", "one", "other"] ["hasher", "width", "found", "due"] (defScope s__law_right) := ⟨rfl, rfl, rfl, by decide +kernel, rfl, by decide +kernel, by decide +kernel⟩
abbrev s__law_item : Stmt := top 57
theorem sc__law_item : FnScope ["state", "script", "hasher", "items", "width", "root", "k", "true", "proof", "item", "accepted", "due", "told"] ["state", "script", "hasher", "items"] (defScope s__law_item) := ⟨rfl, rfl, rfl, by decide +kernel, rfl, by decide +kernel, by decide +kernel⟩
abbrev s__law_growth : Stmt := top 58
theorem sc__law_growth : FnScope ["state", "script", "hasher", "items", "width", "root", "old", "true", "proof", "pieces", "places", "old_root", "accepted", "due", "j"] ["state", "script", "hasher", "items"] (defScope s__law_growth) := ⟨rfl, rfl, rfl, by decide +kernel, rfl, by decide +kernel, by decide +kernel⟩
abbrev s_law : Stmt := top 59
theorem sc_law : FnScope ["script", "state", "hasher", "items", "turn", "k"] ["script"] (defScope s_law) := ⟨rfl, rfl, rfl, by decide +kernel, rfl, by decide +kernel, by decide +kernel⟩
structure Txt (K : PySem.W.Frag) (mg : Str → Option Value) where
  fd_Hasher___init__ : FuncData
  Hasher___init__ : MDef K mg "__init__" "Hasher.__init__" s_Hasher___init__ ["self", "width"] (He.fAd K ("Hasher", some "__init__")) fd_Hasher___init__
  fd_Hasher_digest : FuncData
  Hasher_digest : MDef K mg "digest" "Hasher.digest" s_Hasher_digest ["self", "tag", "numbers"] (He.fAd K ("Hasher", some "digest")) fd_Hasher_digest
  fd_Hasher_is_digest : FuncData
  Hasher_is_digest : MDef K mg "is_digest" "Hasher.is_digest" s_Hasher_is_digest ["self", "number"] (He.fAd K ("Hasher", some "is_digest")) fd_Hasher_is_digest
  fd_are_digests : FuncData
  are_digests : Def K mg "are_digests" "are_digests" s_are_digests ["hasher", "numbers"] (He.fAd K ("are_digests", none)) fd_are_digests
  fd_limbs_of : FuncData
  limbs_of : Def K mg "limbs_of" "limbs_of" s_limbs_of ["numbers"] (He.fAd K ("limbs_of", none)) fd_limbs_of
  fd_mixed : FuncData
  mixed : Def K mg "mixed" "mixed" s_mixed ["limbs"] (He.fAd K ("mixed", none)) fd_mixed
  fd_collision : FuncData
  collision : Def K mg "collision" "collision" s_collision ["first", "second"] (He.fAd K ("collision", none)) fd_collision
  fd_is_collision : FuncData
  is_collision : Def K mg "is_collision" "is_collision" s_is_collision ["hasher", "answer"] (He.fAd K ("is_collision", none)) fd_is_collision
  fd_is_input : FuncData
  is_input : Def K mg "is_input" "is_input" s_is_input ["pair"] (He.fAd K ("is_input", none)) fd_is_input
  fd_first_collision : FuncData
  first_collision : Def K mg "first_collision" "first_collision" s_first_collision ["own_inputs", "told_inputs"] (He.fAd K ("first_collision", none)) fd_first_collision
  fd_left_size : FuncData
  left_size : Def K mg "left_size" "left_size" s_left_size ["size"] (He.fAd K ("left_size", none)) fd_left_size
  fd_part_with : FuncData
  part_with : Def K mg "part_with" "part_with" s_part_with ["size", "place"] (He.fAd K ("part_with", none)) fd_part_with
  fd_list_root : FuncData
  list_root : Def K mg "list_root" "list_root" s_list_root ["hasher", "items"] (He.fAd K ("list_root", none)) fd_list_root
  fd_list_proof : FuncData
  list_proof : Def K mg "list_proof" "list_proof" s_list_proof ["hasher", "items", "k"] (He.fAd K ("list_proof", none)) fd_list_proof
  fd_growth_proof : FuncData
  growth_proof : Def K mg "growth_proof" "growth_proof" s_growth_proof ["hasher", "items", "old"] (He.fAd K ("growth_proof", none)) fd_growth_proof
  fd_list_check : FuncData
  list_check : Def K mg "list_check" "list_check" s_list_check ["hasher", "root", "count", "k", "item", "proof"] (He.fAd K ("list_check", none)) fd_list_check
  fd_item_way : FuncData
  item_way : Def K mg "item_way" "item_way" s_item_way ["count", "k", "most"] (He.fAd K ("item_way", none)) fd_item_way
  fd_item_inputs : FuncData
  item_inputs : Def K mg "item_inputs" "item_inputs" s_item_inputs ["hasher", "way", "item", "proof"] (He.fAd K ("item_inputs", none)) fd_item_inputs
  fd_way_inputs : FuncData
  way_inputs : Def K mg "way_inputs" "way_inputs" s_way_inputs ["hasher", "way", "beside", "end"] (He.fAd K ("way_inputs", none)) fd_way_inputs
  fd_list_break : FuncData
  list_break : Def K mg "list_break" "list_break" s_list_break ["hasher", "items", "k", "item", "proof"] (He.fAd K ("list_break", none)) fd_list_break
  fd_growth_check : FuncData
  growth_check : Def K mg "growth_check" "growth_check" s_growth_check ["hasher", "old_root", "old", "root", "count", "proof"] (He.fAd K ("growth_check", none)) fd_growth_check
  fd_growth_way : FuncData
  growth_way : Def K mg "growth_way" "growth_way" s_growth_way ["count", "old", "most"] (He.fAd K ("growth_way", none)) fd_growth_way
  fd_growth_beside : FuncData
  growth_beside : Def K mg "growth_beside" "growth_beside" s_growth_beside ["way", "proof"] (He.fAd K ("growth_beside", none)) fd_growth_beside
  fd_growth_inputs : FuncData
  growth_inputs : Def K mg "growth_inputs" "growth_inputs" s_growth_inputs ["hasher", "way", "proof"] (He.fAd K ("growth_inputs", none)) fd_growth_inputs
  fd_told_root : FuncData
  told_root : Def K mg "told_root" "told_root" s_told_root ["hasher", "way", "proof"] (He.fAd K ("told_root", none)) fd_told_root
  fd_told_old_root : FuncData
  told_old_root : Def K mg "told_old_root" "told_old_root" s_told_old_root ["hasher", "way", "old", "proof"] (He.fAd K ("told_old_root", none)) fd_told_old_root
  fd_growth_break : FuncData
  growth_break : Def K mg "growth_break" "growth_break" s_growth_break ["hasher", "items", "old_root", "old", "proof"] (He.fAd K ("growth_break", none)) fd_growth_break
  fd__law_draw : FuncData
  _law_draw : Def K mg "_law_draw" "_law_draw" s__law_draw ["state", "script", "size"] (He.fAd K ("_law_draw", none)) fd__law_draw
  fd__law_digest : FuncData
  _law_digest : Def K mg "_law_digest" "_law_digest" s__law_digest ["width", "tag", "numbers"] (He.fAd K ("_law_digest", none)) fd__law_digest
  fd__law_part : FuncData
  _law_part : Def K mg "_law_part" "_law_part" s__law_part ["size"] (He.fAd K ("_law_part", none)) fd__law_part
  fd__law_root : FuncData
  _law_root : Def K mg "_law_root" "_law_root" s__law_root ["width", "items"] (He.fAd K ("_law_root", none)) fd__law_root
  fd__law_steps : FuncData
  _law_steps : Def K mg "_law_steps" "_law_steps" s__law_steps ["count", "k"] (He.fAd K ("_law_steps", none)) fd__law_steps
  fd__law_way : FuncData
  _law_way : Def K mg "_law_way" "_law_way" s__law_way ["width", "items", "k"] (He.fAd K ("_law_way", none)) fd__law_way
  fd__law_inputs : FuncData
  _law_inputs : Def K mg "_law_inputs" "_law_inputs" s__law_inputs ["width", "count", "k", "item", "proof"] (He.fAd K ("_law_inputs", none)) fd__law_inputs
  fd__law_listed : FuncData
  _law_listed : Def K mg "_law_listed" "_law_listed" s__law_listed ["width", "root", "count", "k", "item", "proof"] (He.fAd K ("_law_listed", none)) fd__law_listed
  fd__law_items : FuncData
  _law_items : Def K mg "_law_items" "_law_items" s__law_items ["state", "script", "most"] (He.fAd K ("_law_items", none)) fd__law_items
  fd__law_pieces : FuncData
  _law_pieces : Def K mg "_law_pieces" "_law_pieces" s__law_pieces ["count", "old"] (He.fAd K ("_law_pieces", none)) fd__law_pieces
  fd__law_grows : FuncData
  _law_grows : Def K mg "_law_grows" "_law_grows" s__law_grows ["width", "items", "old"] (He.fAd K ("_law_grows", none)) fd__law_grows
  fd__law_old : FuncData
  _law_old : Def K mg "_law_old" "_law_old" s__law_old ["width", "sizes", "digests"] (He.fAd K ("_law_old", none)) fd__law_old
  fd__law_whole : FuncData
  _law_whole : Def K mg "_law_whole" "_law_whole" s__law_whole ["width", "count", "old", "proof"] (He.fAd K ("_law_whole", none)) fd__law_whole
  fd__law_grown : FuncData
  _law_grown : Def K mg "_law_grown" "_law_grown" s__law_grown ["width", "old_root", "old", "root", "count", "proof"] (He.fAd K ("_law_grown", none)) fd__law_grown
  fd__law_first : FuncData
  _law_first : Def K mg "_law_first" "_law_first" s__law_first ["true", "told"] (He.fAd K ("_law_first", none)) fd__law_first
  fd__law_right : FuncData
  _law_right : Def K mg "_law_right" "_law_right" s__law_right ["hasher", "width", "found", "due"] (He.fAd K ("_law_right", none)) fd__law_right
  fd__law_item : FuncData
  _law_item : Def K mg "_law_item" "_law_item" s__law_item ["state", "script", "hasher", "items"] (He.fAd K ("_law_item", none)) fd__law_item
  fd__law_growth : FuncData
  _law_growth : Def K mg "_law_growth" "_law_growth" s__law_growth ["state", "script", "hasher", "items"] (He.fAd K ("_law_growth", none)) fd__law_growth
  fd_law : FuncData
  law : Def K mg "law" "law" s_law ["script"] (He.fAd K ("law", none)) fd_law
  cl_Hasher : Cls K (He.ga K "Hasher")
  g_Hasher : mg "Hasher" = some (.ref (He.ga K "Hasher"))
  z_all : mg "all" = none
  z_any : mg "any" = none
  z_int : mg "int" = none
  z_len : mg "len" = none
  z_list : mg "list" = none
  z_max : mg "max" = none
  z_range : mg "range" = none
  z_reversed : mg "reversed" = none
  z_tuple : mg "tuple" = none
  z_zip : mg "zip" = none
  c_FIRST_FACTOR : ∃ t, mg "FIRST_FACTOR" = some (.int 15241578750190521011 t)
  c_FIRST_SHIFT : ∃ t, mg "FIRST_SHIFT" = some (.int 31 t)
  c_FIRST_START : ∃ t, mg "FIRST_START" = some (.int 7263541890216354987 t)
  c_GREATEST_TAG : ∃ t, mg "GREATEST_TAG" = some (.int 15 t)
  c_LEAF_TAG : ∃ t, mg "LEAF_TAG" = some (.int 0 t)
  c_LIMB_BITS : ∃ t, mg "LIMB_BITS" = some (.int 32 t)
  c_LIMB_MASK : ∃ t, mg "LIMB_MASK" = some (.int 4294967295 t)
  c_MIX_BITS : ∃ t, mg "MIX_BITS" = some (.int 128 t)
  c_NODE_TAG : ∃ t, mg "NODE_TAG" = some (.int 1 t)
  c_SECOND_FACTOR : ∃ t, mg "SECOND_FACTOR" = some (.int 9764318250173649287 t)
  c_SECOND_SHIFT : ∃ t, mg "SECOND_SHIFT" = some (.int 29 t)
  c_SECOND_START : ∃ t, mg "SECOND_START" = some (.int 12985647301928374651 t)
  c_WORD_MASK : ∃ t, mg "WORD_MASK" = some (.int 18446744073709551615 t)
  me_Hasher_digest : Meth K (He.ga K "Hasher") "digest" (He.fAd K ("Hasher", some "digest"))
  me_Hasher_is_digest : Meth K (He.ga K "Hasher") "is_digest" (He.fAd K ("Hasher", some "is_digest"))
  mk_Hasher : Mk K (He.ga K "Hasher") (He.fAd K ("Hasher", some "__init__"))
  n_Hasher_width : NoAttr K (He.ga K "Hasher") "width"
section
variable {P : Program} {w : World} {K : PySem.W.Frag} {mg : Str → Option Value} {base : Heap}
/-! ### digests -/
def M64 : Int := 2 ^ 64 - 1
def stp (s : Int × Int) (l : Int) : Int × Int :=
  let f1 := Builtin.bitAnd (Builtin.bitXor s.1 l * 15241578750190521011) 18446744073709551615
  let f2 := Builtin.bitXor f1 (f1 / 2 ^ (31 : Int).toNat)
  let s1 := Builtin.bitAnd ((f2 + s.2) * 9764318250173649287) 18446744073709551615
  let s2 := Builtin.bitXor s1 (s1 / 2 ^ (29 : Int).toNat)
  (Builtin.bitAnd (f2 + s2) 18446744073709551615, s2)
def st0 : Int × Int := (7263541890216354987, 12985647301928374651)
def mixN (ls : List Int) : Int × Int := ls.foldl stp st0
def many (n : Int) : Nat := (Builtin.Int.intBits n + 31) / 32
def limb (n : Int) (p : Nat) : Int := Builtin.bitAnd (n / 2 ^ (p * 32)) 4294967295
def limbs1 (n : Int) : List Int := (many n : Int) :: (List.range (many n)).map (limb n)
def limbsN (ns : List Int) : List Int := ns.flatMap limbs1
def limbs (ns : List Int) : List Int := (ns.length : Int) :: limbsN ns
def dgst (w tag : Int) (ns : List Int) : Int := let m := mixN (tag :: limbs ns ++ [w, w]); (m.1 * 2 ^ 64 + m.2) / 2 ^ (128 - w).toNat
def U64 (x : Int) : Prop := 0 ≤ x ∧ x < 18446744073709551616
theorem and64 (x : Int) : Builtin.bitAnd x 18446744073709551615 = x % 18446744073709551616 := PySem.W.kbt_mask x 64
theorem and64_U (x : Int) : U64 (Builtin.bitAnd x 18446744073709551615) := by
  rw [and64]
  exact ⟨Int.emod_nonneg _ (by decide), Int.emod_lt_of_pos _ (by decide)⟩
theorem xorshr_U {x : Int} (h : U64 x) (k : Nat) : U64 (Builtin.bitXor x (x / 2 ^ k)) := by
  obtain ⟨a, rfl⟩ := Int.eq_ofNat_of_zero_le h.1
  have e : (a : Int) / 2 ^ k = ((a / 2 ^ k : Nat) : Int) := by rw [Int.natCast_ediv, PySem.W.kbt_cast]
  rw [e, Bits.bitXor_pp (Int.natCast_nonneg _) (Int.natCast_nonneg _), Int.toNat_natCast, Int.toNat_natCast]
  have ha : a < 2 ^ 64 := by have := h.2; omega
  have hb : a / 2 ^ k < 2 ^ 64 := Nat.lt_of_le_of_lt (Nat.div_le_self _ _) ha
  have := Nat.xor_lt_two_pow ha hb
  exact ⟨Int.natCast_nonneg _, by omega⟩
theorem stp_U (s : Int × Int) (l : Int) : U64 (stp s l).1 ∧ U64 (stp s l).2 := ⟨and64_U _, xorshr_U (and64_U _) _⟩
theorem fold_U : ∀ (ls : List Int) (s : Int × Int), U64 s.1 → U64 s.2 → U64 (ls.foldl stp s).1 ∧ U64 (ls.foldl stp s).2
  | [], s, h1, h2 => ⟨h1, h2⟩
  | l :: ls, s, _, _ => fold_U ls (stp s l) (stp_U s l).1 (stp_U s l).2
theorem st0_U : U64 st0.1 ∧ U64 st0.2 := ⟨⟨by decide, by decide⟩, ⟨by decide, by decide⟩⟩
theorem mix_U (ls : List Int) : U64 (mixN ls).1 ∧ U64 (mixN ls).2 := fold_U ls st0 st0_U.1 st0_U.2
theorem natAbs_U {x : Int} (h : U64 x) : x.natAbs < 2 ^ 64 := by obtain ⟨h1, h2⟩ := h; omega
theorem dgst_rng {w : Int} (h4 : 4 ≤ w) (h : w ≤ 128) (tag : Int) (ns : List Int) : 0 ≤ dgst w tag ns ∧ dgst w tag ns < 2 ^ w.toNat := by
  unfold dgst
  obtain ⟨⟨a0, a1⟩, ⟨b0, b1⟩⟩ := mix_U (tag :: limbs ns ++ [w, w])
  generalize mixN (tag :: limbs ns ++ [w, w]) = m at a0 a1 b0 b1 ⊢
  show 0 ≤ (m.1 * 2 ^ 64 + m.2) / 2 ^ (128 - w).toNat ∧ (m.1 * 2 ^ 64 + m.2) / 2 ^ (128 - w).toNat < 2 ^ w.toNat
  have hp : (0 : Int) < 2 ^ (128 - w).toNat := PySem.W.kbt_pos _
  refine ⟨Int.ediv_nonneg (by omega) (Int.le_of_lt hp), Int.ediv_lt_of_lt_mul hp ?_⟩
  rw [← Int.pow_add, show w.toNat + (128 - w).toNat = 128 by omega]
  omega
theorem limbs_snoc (ns : List Int) (n : Int) : limbsN (ns ++ [n]) = limbsN ns ++ limbs1 n := by
  unfold limbsN
  rw [List.flatMap_append]
  simp
def HsAt (C : Addr) (G : Hp) (h : Addr) (w : Int) : Prop := ∃ dx, G h = some (.ins C dx [("width", V.int w)])
theorem ex_h {C : Addr} {G G' : Hp} {h : Addr} {w : Int} (e : Ex G G') : HsAt C G h w → HsAt C G' h w := fun ⟨dx, g⟩ => ⟨dx, e _ _ g⟩
theorem limbs1_len (n : Int) : (limbs1 n).length = many n + 1 := by unfold limbs1; simp
theorem limbsN_le {ns : List Int} {b : Nat} (h : ∀ n ∈ ns, many n ≤ b) : (limbsN ns).length ≤ ns.length * (b + 1) := by
  induction ns with
  | nil => simp [limbsN]
  | cons n ns ih =>
    have h1 := h n (by simp)
    have h2 := ih fun m hm => h m (by simp [hm])
    have e : (limbsN (n :: ns)).length = (limbs1 n).length + (limbsN ns).length := by
      unfold limbsN
      rw [List.flatMap_cons, List.length_append]
    rw [e, limbs1_len, List.length_cons, Nat.add_mul]
    omega
theorem sz6 {n : Nat} (h : n ≤ 1000000) : n ≤ sizeLine := Nat.le_trans h (by decide)
theorem sz6' {n : Nat} (h : n < 1000000) : n < sizeLine := Nat.lt_of_lt_of_le h (by decide)
theorem sub_len {ns : List Int} {i : Nat} : (limbsN (ns.take i)).length ≤ (limbsN ns).length := by
  conv => rhs; rw [← List.take_append_drop i ns]
  unfold limbsN
  rw [List.flatMap_append, List.length_append]
  omega
theorem take_snoc {ns : List Int} {i : Nat} {n : Int} (h : ns[i]? = some n) : ns.take (i + 1) = ns.take i ++ [n] := by rw [List.take_add_one, h]; rfl
theorem int_at {ns : List Int} {i : Nat} {x : V} (h : (ns.map V.int)[i]? = some x) : ∃ n, x = .int n ∧ ns[i]? = some n := by
  rw [List.getElem?_map] at h
  obtain ⟨n, e, rfl⟩ := Option.map_eq_some_iff.mp h
  exact ⟨n, rfl, e⟩
def sp_limbs_of (K : PySem.W.Frag) : Sp := spA (fun (x : Addr × List Int) vs G => vs = [.ref x.1] ∧ SqS K G x.1 (x.2.map V.int) ∧ (limbs x.2).length ≤ 100000) fun x v G' => ∃ p, v = .ref p ∧ G' p = some (.lst ((limbs x.2).map V.int))
theorem ok_limbs_of (T : Txt K mg) : FnOk P w K mg base CX0 1 (He.fAd K ("limbs_of", none)) T.fd_limbs_of ["numbers"] (sp_limbs_of K) := by
  refine T.limbs_of.F.ok sc_limbs_of (fun vs H Q E h => ?_) (fun cdv A outer s H vs Q E hr h => ?_)
  · obtain ⟨_, _, _, ⟨rfl, _⟩, _⟩ := h
    rfl
  · obtain ⟨⟨a, ns⟩, G, e0, ⟨rfl, hS, hz⟩, q⟩ := h
    replace hz : (limbs ns).length ≤ 100000 := hz
    have hz' : (limbsN ns).length < 100000 := by unfold limbs at hz; rw [List.length_cons] at hz; omega
    replace hS : SqS K G a (ns.map V.int) := hS
    refine ⟨_, PSs.nox (pss_cons (ps_set (i := 1) sc_limbs_of.nd rfl (Or.inl rfl) (pe_lst (pa_cons (pe_callB (kq_len (K := K)) (by rfl) T.z_len (by decide +kernel) (pa_cons (pv 0) pa_nil)) pa_nil)))
  (pss_cons (ps_for PassesOwn.never rfl (ki_seq (K := K) (pv 0)) (pg_name (i := 2) sc_limbs_of.nd rfl (Or.inl rfl)) (pss_cons (ps_set (i := 3) sc_limbs_of.nd rfl (Or.inl rfl) (pe_op op_fdivW (pe_op op_sub (pe_op op_add (pe_bits (pv 2)) (pe_glob (v := .int 32) rfl T.c_LIMB_BITS.choose_spec ⟨_, rfl⟩)) pe_int) (pe_glob (v := .int 32) rfl T.c_LIMB_BITS.choose_spec ⟨_, rfl⟩)))
  (pss_cons (ps_expr (pe_bm PySem.F.plainAttrs_list PySem.F.slot_list_append PySem.F.type_list_append mt_append (pv 1) (pa_cons (pv 3) pa_nil)))
  (pss_one (ps_for PassesOwn.never rfl (pi_range1 rfl T.z_range (pa_cons (pv 3) pa_nil)) (pg_name (i := 4) sc_limbs_of.nd rfl (Or.inl rfl)) (pss_one (ps_expr (pe_bm PySem.F.plainAttrs_list PySem.F.slot_list_append PySem.F.type_list_append mt_append (pv 1) (pa_cons (pe_op op_and (pe_op op_shr (pv 2) (pe_op op_mul (pv 4) (pe_glob (v := .int 32) rfl T.c_LIMB_BITS.choose_spec ⟨_, rfl⟩))) (pe_glob (v := .int 4294967295) rfl T.c_LIMB_MASK.choose_spec ⟨_, rfl⟩)) pa_nil)))))))))
  (pss_one (ps_ret (pv 1))))), ?_⟩
    refine (show SM (V0 H G) _ _ _ G from ?_) H (J.start e0)
    walk_at "go"
    refine em_lst ?_
    walk_at "go"
    refine rm_lenS hS ?_
    walk_at "go"
    refine ⟨by show 1 ≤ sizeLine; decide, fun l G1 gl e1 gl1 => ?_⟩
    walk_at "go"
    have hge : (V0 H G).Ge l = none := gl
    refine sm_forS (fun i σ G' => ∃ v2 v3 v4, σ = [some (.ref a), some (.ref l), v2, v3, v4] ∧ Ex G G' ∧ G' l = some (.lst (((ns.length : Int) :: limbsN (ns.take i)).map V.int))) hS e1 ?_ ?_ (fun i σ' G' ⟨_, _, _, _, e, _⟩ => e) ?_ ?_
    · walk_at "go"
      exact ⟨rfl, rfl⟩
    · exact ⟨none, none, none, rfl, e1, by rw [gl1, List.length_map]; rfl⟩
    · rintro i x σ' G' hx ⟨v2, v3, v4, rfl, e2, g2⟩
      obtain ⟨n, rfl, hn⟩ := int_at hx
      have hle : (limbsN (ns.take (i + 1))).length ≤ (limbsN ns).length := sub_len
      rw [take_snoc hn, limbs_snoc, List.length_append, limbs1_len] at hle
      walk_at "go"
      have hm : ((Builtin.Int.intBits n : Nat) + 32 - 1 : Int) / 32 = (many n : Nat) := by unfold many; omega
      rw [hm]
      refine em_append (l := l) (xs := ((ns.length : Int) :: limbsN (ns.take i)).map V.int) ?_
      walk_at "go"
      refine ⟨rfl, g2, ?_⟩
      walk_at "go"
      refine ⟨g2, hge, ?_, ?_⟩
      · rw [List.length_map, List.length_cons]; exact sz6' (by omega)
      walk_at "go"
      refine sm_forR1 ?_
      walk_at "go"
      refine ⟨many n, rfl, by omega, by omega, fun p σ G'' => ∃ v4, σ = [some (.ref a), some (.ref l), some (.int n), some (.int (many n : Nat)), v4] ∧ Ex G G'' ∧ G'' l = some (.lst (((ns.length : Int) :: (limbsN (ns.take i) ++ ((many n : Int) :: (List.range p).map (limb n)))).map V.int)), ?_, ?_, ?_⟩
      · refine ⟨_, rfl, Ex.mut e2 gl, ?_⟩
        rw [upd_same]
        simp
      · rintro p σ' G'' hp ⟨v4, rfl, e3, g3⟩
        walk_at "go"
        refine em_append (l := l) (xs := ((ns.length : Int) :: (limbsN (ns.take i) ++ ((many n : Int) :: (List.range p).map (limb n)))).map V.int) ?_
        walk_at "go"
        refine ⟨rfl, g3, ?_⟩
        walk_at "go"
        refine ⟨g3, hge, ?_, ?_⟩
        · rw [List.length_map, List.length_cons, List.length_append, List.length_cons, List.length_map, List.length_range]; exact sz6' (by omega)
        · refine km_kj ⟨_, rfl, Ex.mut e3 gl, ?_⟩
          rw [upd_same, List.range_succ, List.map_append]
          have e : (((p : Nat) : Int) * 32).toNat = p * 32 := by omega
          rw [e]
          simp [limb]
      · rintro σ' G'' ⟨v4, rfl, e3, g3⟩
        refine km_kj ⟨_, _, _, rfl, e3, ?_⟩
        rw [g3, take_snoc hn, limbs_snoc, Int.toNat_natCast]
        rfl
    · rintro σ' G' ⟨v2, v3, v4, rfl, e2, g2⟩
      walk_at "go"
      refine kv_ret q e2 ⟨l, rfl, ?_⟩
      rw [g2, List.length_map, List.take_length]
      rfl
def sp_mixed (K : PySem.W.Frag) : Sp := spA (fun (x : Addr × List Int) vs G => vs = [.ref x.1] ∧ SqL K G x.1 (x.2.map V.int)) fun x v _ => v = .int ((mixN x.2).1 * 2 ^ 64 + (mixN x.2).2)
theorem ok_mixed (T : Txt K mg) : FnOk P w K mg base CX0 1 (He.fAd K ("mixed", none)) T.fd_mixed ["limbs"] (sp_mixed K) := by
  refine T.mixed.F.ok sc_mixed (fun vs H Q E h => ?_) (fun cdv A outer s H vs Q E hr h => ?_)
  · obtain ⟨_, _, _, ⟨rfl, _⟩, _⟩ := h
    rfl
  · obtain ⟨⟨a, ls⟩, G, e0, ⟨rfl, hS⟩, q⟩ := h
    replace hS : SqL K G a (ls.map V.int) := hS
    refine ⟨_, PSs.nox (pss_cons (ps_set (i := 1) sc_mixed.nd rfl (Or.inl rfl) (pe_glob (v := .int 7263541890216354987) rfl T.c_FIRST_START.choose_spec ⟨_, rfl⟩))
  (pss_cons (ps_set (i := 2) sc_mixed.nd rfl (Or.inl rfl) (pe_glob (v := .int 12985647301928374651) rfl T.c_SECOND_START.choose_spec ⟨_, rfl⟩))
  (pss_cons (ps_for PassesOwn.never rfl (ki_list (K := K) (pv 0)) (pg_name (i := 3) sc_mixed.nd rfl (Or.inl rfl)) (pss_cons (ps_set (i := 1) sc_mixed.nd rfl (Or.inl rfl) (pe_op op_and (pe_op op_mul (pe_op op_xor (pv 1) (pv 3)) (pe_glob (v := .int 15241578750190521011) rfl T.c_FIRST_FACTOR.choose_spec ⟨_, rfl⟩)) (pe_glob (v := .int 18446744073709551615) rfl T.c_WORD_MASK.choose_spec ⟨_, rfl⟩)))
  (pss_cons (ps_set (i := 1) sc_mixed.nd rfl (Or.inl rfl) (pe_op op_xor (pv 1) (pe_op op_shr (pv 1) (pe_glob (v := .int 31) rfl T.c_FIRST_SHIFT.choose_spec ⟨_, rfl⟩))))
  (pss_cons (ps_set (i := 2) sc_mixed.nd rfl (Or.inl rfl) (pe_op op_and (pe_op op_mul (pe_op op_add (pv 1) (pv 2)) (pe_glob (v := .int 9764318250173649287) rfl T.c_SECOND_FACTOR.choose_spec ⟨_, rfl⟩)) (pe_glob (v := .int 18446744073709551615) rfl T.c_WORD_MASK.choose_spec ⟨_, rfl⟩)))
  (pss_cons (ps_set (i := 2) sc_mixed.nd rfl (Or.inl rfl) (pe_op op_xor (pv 2) (pe_op op_shr (pv 2) (pe_glob (v := .int 29) rfl T.c_SECOND_SHIFT.choose_spec ⟨_, rfl⟩))))
  (pss_one (ps_set (i := 1) sc_mixed.nd rfl (Or.inl rfl) (pe_op op_and (pe_op op_add (pv 1) (pv 2)) (pe_glob (v := .int 18446744073709551615) rfl T.c_WORD_MASK.choose_spec ⟨_, rfl⟩)))))))))
  (pss_one (ps_ret (pe_op op_or (pe_op op_shl (pv 1) pe_int) (pv 2))))))), ?_⟩
    refine (show SM (V0 H G) _ _ _ G from ?_) H (J.start e0)
    walk_at "go"
    refine sm_forL ?_
    walk_at "go"
    refine ⟨a, _, rfl, hS, fun i σ G' => ∃ v3, σ = [some (.ref a), some (.int (mixN (ls.take i)).1), some (.int (mixN (ls.take i)).2), v3] ∧ G' = G, ⟨none, rfl, rfl⟩, fun i σ' G' _ ⟨_, _, e⟩ => by rw [e]; exact hS, ?_, ?_⟩
    · rintro i x σ' G' hx ⟨v3, rfl, rfl⟩
      obtain ⟨n, rfl, hn⟩ := int_at hx
      walk_at "go"
      refine km_kj ⟨some (.int n), ?_, rfl⟩
      have e : mixN (ls.take (i + 1)) = stp (mixN (ls.take i)) n := by
        unfold mixN
        rw [take_snoc hn, List.foldl_append]
        rfl
      rw [e]
      rfl
    · rintro σ' G' ⟨v3, rfl, rfl⟩
      rw [List.length_map, List.take_length]
      obtain ⟨u1, u2⟩ := mix_U ls
      walk_at "go"
      refine rm_I ⟨by decide, by decide, natAbs_U u1⟩ ?_
      walk_at "go"
      refine kv_ret q (Ex.refl _) ?_
      show V.int (Builtin.bitOr ((mixN ls).1 * 2 ^ 64) (mixN ls).2) = _
      rw [or_low (k := 64) u1.1 u2.1 (by have := u2.2; omega)]
def sp_Hasher___init__ (K : PySem.W.Frag) : Sp := fun vs H Q _ => ∃ (x dx C : Addr) (w : Int), vs = [.ref x, .int w] ∧ C = He.ga K "Hasher" ∧ H x = some (.ins C dx []) ∧ ∀ H', (∀ b o, b ≠ x → H b = some o → H' b = some o) → H' x = some (.ins C dx [("width", V.int w)]) → Q .non H'
theorem ok_Hasher___init__ (T : Txt K mg) : FnOk P w K mg base CX0 1 (He.fAd K ("Hasher", some "__init__")) T.fd_Hasher___init__ ["self", "width"] (sp_Hasher___init__ K) := by
  refine T.Hasher___init__.F.ok sc_Hasher___init__ (fun vs H Q E h => ?_) (fun cdv A outer s H vs Q E hr h => ?_)
  · obtain ⟨x, dx, C, w, rfl, _⟩ := h
    rfl
  · obtain ⟨x, dx, C, w, rfl, rfl, hx, q⟩ := h
    refine ⟨_, PSs.nox (pss_one (ps_fld (pv 0) (pv 1) rfl)), ?_⟩
    refine ⟨_, rfl, _, rfl, x, _, dx, [], rfl, hx, T.cl_Hasher, T.n_Hasher_width, (by show 0 < 1000; decide), ?_⟩
    exact q _ (fun b o nb e => by rw [upd_ne nb]; exact e) upd_same
def sp_Hasher_is_digest (K : PySem.W.Frag) : Sp := spA (fun (x : Addr × Int × Int) vs G => vs = [.ref x.1, .int x.2.2] ∧ HsAt (He.ga K "Hasher") G x.1 x.2.1 ∧ 0 ≤ x.2.1 ∧ x.2.1 ≤ 100000) fun x v _ => v = .bl (decide (0 ≤ x.2.2 ∧ x.2.2 < 2 ^ x.2.1.toNat))
theorem ok_Hasher_is_digest (T : Txt K mg) : FnOk P w K mg base CX0 1 (He.fAd K ("Hasher", some "is_digest")) T.fd_Hasher_is_digest ["self", "number"] (sp_Hasher_is_digest K) := by
  refine T.Hasher_is_digest.F.ok sc_Hasher_is_digest (fun vs H Q E h => ?_) (fun cdv A outer s H vs Q E hr h => ?_)
  · obtain ⟨_, _, _, ⟨rfl, _⟩, _⟩ := h
    rfl
  · obtain ⟨⟨a, w, n⟩, G, e0, ⟨rfl, ⟨dx, hh⟩, hw0, hw1⟩, q⟩ := h
    replace hh : G a = some (.ins (He.ga K "Hasher") dx [("width", V.int w)]) := hh
    replace hw0 : 0 ≤ w := hw0
    replace hw1 : w ≤ 100000 := hw1
    refine ⟨_, PSs.nox (pss_one (ps_ret (pe_chain (op_le) (op_lt) pe_int (pv 1) (pe_op op_shl pe_int (ke_fld (K := K) (pv 0)))))), ?_⟩
    refine (show SM (V0 H G) _ _ _ G from ?_) H (J.start e0)
    walk_at "go"
    refine ifd (fun h0 => ?_) (fun h0 => ?_)
    · walk_at "go"
      refine fm hh T.cl_Hasher T.n_Hasher_width rfl ?_
      refine rm_I ⟨hw0, by omega, by decide⟩ ?_
      walk_at "go"
      refine kv_ret q (Ex.refl _) ?_
      show V.bl (decide (n < 1 * 2 ^ w.toNat)) = V.bl (decide (0 ≤ n ∧ n < 2 ^ w.toNat))
      rw [Int.one_mul]
      congr 1
      exact decide_eq_decide.mpr ⟨fun z => ⟨h0, z⟩, fun z => z.2⟩
    · walk_at "go"
      refine kv_ret q (Ex.refl _) ?_
      show V.bl false = V.bl (decide (0 ≤ n ∧ n < 2 ^ w.toNat))
      rw [decide_eq_false (fun z => h0 z.1)]
def sp_Hasher_digest (K : PySem.W.Frag) : Sp := spA (fun (x : Addr × Int × Int × Addr × List Int) vs G => vs = [.ref x.1, .int x.2.2.1, .ref x.2.2.2.1] ∧ HsAt (He.ga K "Hasher") G x.1 x.2.1 ∧ 0 ≤ x.2.1 ∧ x.2.1 ≤ 128 ∧ SqS K G x.2.2.2.1 (x.2.2.2.2.map V.int) ∧ (limbs x.2.2.2.2).length ≤ 99000) fun x v _ => v = .int (dgst x.2.1 x.2.2.1 x.2.2.2.2)
theorem ok_Hasher_digest (T : Txt K mg) : FnOk P w K mg base CX0 2 (He.fAd K ("Hasher", some "digest")) T.fd_Hasher_digest ["self", "tag", "numbers"] (sp_Hasher_digest K) := by
  refine T.Hasher_digest.F.ok sc_Hasher_digest (fun vs H Q E h => ?_) (fun cdv A outer s H vs Q E hr h => ?_)
  · obtain ⟨_, _, _, ⟨rfl, _⟩, _⟩ := h
    rfl
  · obtain ⟨⟨a, w, t, b, ns⟩, G, e0, ⟨rfl, ⟨dx, hh⟩, hw0, hw1, hS, hz⟩, q⟩ := h
    replace hh : G a = some (.ins (He.ga K "Hasher") dx [("width", V.int w)]) := hh
    replace hw0 : 0 ≤ w := hw0
    replace hw1 : w ≤ 128 := hw1
    replace hS : SqS K G b (ns.map V.int) := hS
    replace hz : (limbs ns).length ≤ 99000 := hz
    refine ⟨_, PSs.nox (pss_cons (ps_set (i := 3) sc_Hasher_digest.nd rfl (Or.inl rfl) (pe_call (ok_mixed T) (hr.mono (by omega)) (by rfl) T.mixed.g T.mixed.F.kp T.mixed.b .nil pass0 (pa_cons (pe_lst (pa_cons (pv 1) (ka_star (K := K) (pe_call (ok_limbs_of T) (hr.mono (by omega)) (by rfl) T.limbs_of.g T.limbs_of.F.kp T.limbs_of.b .nil pass0 (pa_cons (pv 2) pa_nil)) (pa_cons (ke_fld (K := K) (pv 0)) (pa_cons (ke_fld (K := K) (pv 0)) pa_nil))))) pa_nil)))
  (pss_one (ps_ret (pe_op op_shr (pv 3) (pe_callB cq_max (by rfl) T.z_max (by decide +kernel) (pa_cons pe_int (pa_cons (pe_op op_sub (pe_glob (v := .int 128) rfl T.c_MIX_BITS.choose_spec ⟨_, rfl⟩) (ke_fld (K := K) (pv 0))) pa_nil))))))), ?_⟩
    refine (show SM (V0 H G) _ _ _ G from ?_) H (J.start e0)
    walk_at "go"
    refine em_lst ?_
    walk_at "go"
    refine am_star ?_
    walk_at "go"
    refine cm_a (b, ns) ⟨rfl, hS, by show (limbs ns).length ≤ 100000; omega⟩ fun v G1 e1 hv => ?_
    obtain ⟨p, rfl, gp⟩ := hv
    refine ⟨p, _, rfl, .inr (sq_of gp), ?_⟩
    walk_at "go"
    refine fm (e1 _ _ hh) T.cl_Hasher T.n_Hasher_width rfl ?_
    walk_at "go"
    refine fm (e1 _ _ hh) T.cl_Hasher T.n_Hasher_width rfl ?_
    walk_at "go"
    refine ⟨?_, fun l G2 gl e2 gl2 => ?_⟩
    · show (V.int t :: ((limbs ns).map V.int ++ [V.int w, V.int w])).length ≤ sizeLine
      rw [List.length_cons, List.length_append, List.length_map]
      exact sz6 (by show (limbs ns).length + 2 + 1 ≤ _; omega)
    have el : (V.int t :: ((limbs ns).map V.int ++ [V.int w, V.int w])) = (t :: limbs ns ++ [w, w]).map V.int := by simp
    walk_at "go"
    refine cm_a (l, t :: limbs ns ++ [w, w]) ⟨rfl, sq_of (by rw [gl2]; exact congrArg (fun z => some (HO.lst z)) el)⟩ fun v G3 e3 hv => ?_
    cases hv
    walk_at "go"
    refine fm (e3 _ _ (e2 _ _ (e1 _ _ hh))) T.cl_Hasher T.n_Hasher_width rfl ?_
    walk_at "go"
    refine kv_ret q (e1.trans (e2.trans e3)) ?_
    show V.int (_ / 2 ^ (if 128 - w > 0 then 128 - w else 0).toNat) = V.int (_ / 2 ^ (128 - w).toNat)
    rw [show (if 128 - w > 0 then 128 - w else 0).toNat = (128 - w).toNat by split <;> omega]

/-! ### the law's own digest -/
theorem many_pos {n : Int} (h : 0 ≤ n) (j : Nat) : n / 2 ^ (j * 32) > 0 ↔ j < many n := by
  obtain ⟨a, rfl⟩ := Int.eq_ofNat_of_zero_le h
  have e : (a : Int) / 2 ^ (j * 32) = ((a / 2 ^ (j * 32) : Nat) : Int) := by rw [Int.natCast_ediv, PySem.W.kbt_cast]
  rw [e]
  have hb : Builtin.Int.intBits (a : Int) = if a = 0 then 0 else a.log2 + 1 := by
    unfold Builtin.Int.intBits
    by_cases z : a = 0
    · subst z; rfl
    · rw [if_neg (show ¬ ((a : Int) == 0) = true by simpa using z), if_neg z]; rfl
  unfold many
  rw [hb]
  have hp : 0 < 2 ^ (j * 32) := Nat.pow_pos (by decide)
  by_cases z : a = 0
  · subst z
    rw [if_pos rfl]
    simp
  · rw [if_neg z]
    have h1 : 0 < a / 2 ^ (j * 32) ↔ 2 ^ (j * 32) ≤ a := by
      rw [Nat.div_pos_iff]
      exact ⟨fun q => q.2, fun q => ⟨hp, q⟩⟩
    have h2 : 2 ^ (j * 32) ≤ a ↔ j * 32 ≤ a.log2 := (Nat.le_log2 z).symm
    constructor
    · intro q
      have := h2.mp (h1.mp (by omega))
      omega
    · intro q
      have := h1.mpr (h2.mpr (by omega))
      omega
theorem shr32 (n : Int) (j : Nat) : n / 2 ^ (j * 32) / 2 ^ (Int.toNat 32) = n / 2 ^ ((j + 1) * 32) := by
  rw [Int.ediv_ediv_of_nonneg (Int.le_of_lt (PySem.W.kbt_pos _)), ← Int.pow_add, show j * 32 + Int.toNat 32 = (j + 1) * 32 by omega]
def sp__law_digest (K : PySem.W.Frag) : Sp := spA (fun (x : Int × Int × Addr × List Int) vs G => vs = [.int x.1, .int x.2.1, .ref x.2.2.1] ∧ 4 ≤ x.1 ∧ x.1 ≤ 128 ∧ SqS K G x.2.2.1 (x.2.2.2.map V.int) ∧ (∀ n ∈ x.2.2.2, 0 ≤ n) ∧ (limbs x.2.2.2).length ≤ 99000) fun x v _ => v = .int (dgst x.1 x.2.1 x.2.2.2)
theorem ok__law_digest (T : Txt K mg) : FnOk P w K mg base CX0 1 (He.fAd K ("_law_digest", none)) T.fd__law_digest ["width", "tag", "numbers"] (sp__law_digest K) := by
  refine T._law_digest.F.ok sc__law_digest (fun vs H Q E h => ?_) (fun cdv A outer s H vs Q E hr h => ?_)
  · obtain ⟨_, _, _, ⟨rfl, _⟩, _⟩ := h
    rfl
  · obtain ⟨⟨w, t, a, ns⟩, G, e0, ⟨rfl, hw0, hw1, hS, hn, hz⟩, q⟩ := h
    replace hw0 : 4 ≤ w := hw0
    replace hw1 : w ≤ 128 := hw1
    replace hS : SqS K G a (ns.map V.int) := hS
    replace hn : ∀ n ∈ ns, 0 ≤ n := hn
    replace hz : (limbs ns).length ≤ 99000 := hz
    have hz' : (limbsN ns).length < 99000 := by unfold limbs at hz; rw [List.length_cons] at hz; omega
    refine ⟨_, PSs.nox (pss_cons (ps_set (i := 3) sc__law_digest.nd rfl (Or.inl rfl) (pe_lst (pa_cons (pv 1) (pa_cons (pe_callB (kq_len (K := K)) (by rfl) T.z_len (by decide +kernel) (pa_cons (pv 2) pa_nil)) pa_nil))))
  (pss_cons (ps_for PassesOwn.never rfl (ki_seq (K := K) (pv 2)) (pg_name (i := 4) sc__law_digest.nd rfl (Or.inl rfl)) (pss_cons (ps_set (i := 5) sc__law_digest.nd rfl (Or.inl rfl) (pe_lst pa_nil))
  (pss_cons (ps_while PassesOwn.never (pt_cmpR (op_gt) (pv 4) pe_int (nomark _)) (pss_cons (ps_expr (pe_bm PySem.F.plainAttrs_list PySem.F.slot_list_append PySem.F.type_list_append mt_append (pv 5) (pa_cons (pe_op op_and (pv 4) pe_int) pa_nil)))
  (pss_one (ps_set (i := 4) sc__law_digest.nd rfl (Or.inl rfl) (pe_op op_shr (pv 4) pe_int)))))
  (pss_one (ps_set (i := 3) sc__law_digest.nd rfl (Or.inl rfl) (pe_op op_cat (pe_op op_cat (pv 3) (pe_lst (pa_cons (pe_callB (kq_len (K := K)) (by rfl) T.z_len (by decide +kernel) (pa_cons (pv 5) pa_nil)) pa_nil))) (pv 5)))))))
  (pss_cons (ps_set (i := 6) sc__law_digest.nd rfl (Or.inl rfl) (pe_op op_sub (pe_op op_shl pe_int pe_int) pe_int))
  (pss_cons (ps_set (i := 7) sc__law_digest.nd rfl (Or.inl rfl) pe_int)
  (pss_cons (ps_set (i := 8) sc__law_digest.nd rfl (Or.inl rfl) pe_int)
  (pss_cons (ps_for PassesOwn.never rfl (ki_list (K := K) (pe_op op_cat (pv 3) (pe_lst (pa_cons (pv 0) (pa_cons (pv 0) pa_nil))))) (pg_name (i := 9) sc__law_digest.nd rfl (Or.inl rfl)) (pss_cons (ps_set (i := 7) sc__law_digest.nd rfl (Or.inl rfl) (pe_op op_and (pe_op op_mul (pe_op op_xor (pv 7) (pv 9)) pe_int) (pv 6)))
  (pss_cons (ps_set (i := 7) sc__law_digest.nd rfl (Or.inl rfl) (pe_op op_xor (pv 7) (pe_op op_shr (pv 7) pe_int)))
  (pss_cons (ps_set (i := 8) sc__law_digest.nd rfl (Or.inl rfl) (pe_op op_and (pe_op op_mul (pe_op op_add (pv 8) (pv 7)) pe_int) (pv 6)))
  (pss_cons (ps_set (i := 8) sc__law_digest.nd rfl (Or.inl rfl) (pe_op op_xor (pv 8) (pe_op op_shr (pv 8) pe_int)))
  (pss_one (ps_set (i := 7) sc__law_digest.nd rfl (Or.inl rfl) (pe_op op_and (pe_op op_add (pv 7) (pv 8)) (pv 6)))))))))
  (pss_one (ps_ret (pe_op op_shr (pe_op op_add (pe_op op_shl (pv 7) pe_int) (pv 8)) (pe_op op_sub pe_int (pv 0))))))))))), ?_⟩
    refine (show SM (V0 H G) _ _ _ G from ?_) H (J.start e0)
    walk_at "go"
    refine em_lst ?_
    walk_at "go"
    refine rm_lenS hS ?_
    walk_at "go"
    refine ⟨by show 2 ≤ sizeLine; decide, fun l G1 gl e1 gl1 => ?_⟩
    walk_at "go"
    refine sm_forS (fun i σ G' => ∃ l v4 v5 v6 v7 v8 v9, σ = [some (.int w), some (.int t), some (.ref a), some (.ref l), v4, v5, v6, v7, v8, v9] ∧ Ex G G' ∧ G' l = some (.lst ((t :: (ns.length : Int) :: limbsN (ns.take i)).map V.int))) hS e1 ?_ ?_ (fun i σ' G' ⟨_, _, _, _, _, _, _, _, e, _⟩ => e) ?_ ?_
    · walk_at "go"
      exact ⟨rfl, rfl⟩
    · exact ⟨l, none, none, none, none, none, none, rfl, e1, by rw [gl1, List.length_map]; rfl⟩
    · rintro i x σ' G' hx ⟨l, v4, v5, v6, v7, v8, v9, rfl, e2, g2⟩
      obtain ⟨n, rfl, hni⟩ := int_at hx
      have n0 := hn n (List.mem_of_getElem? hni)
      have hle : (limbsN (ns.take (i + 1))).length ≤ (limbsN ns).length := sub_len
      rw [take_snoc hni, limbs_snoc, List.length_append, limbs1_len] at hle
      walk_at "go"
      refine em_lst ?_
      walk_at "go"
      refine ⟨by show 0 ≤ sizeLine; decide, fun d G2 gd e3 gd2 => ?_⟩
      have hge : (V0 H G).Ge d = none := none_of_ex e2 gd
      have g3 := e3 _ _ g2
      walk_at "go"
      refine sm_while (fun mm σ G'' => ∃ j, mm = many n - j ∧ j ≤ many n ∧ σ = [some (.int w), some (.int t), some (.ref a), some (.ref l), some (.int (n / 2 ^ (j * 32))), some (.ref d), v6, v7, v8, v9] ∧ Ex G' G'' ∧ G'' d = some (.lst (((List.range j).map (limb n)).map V.int))) (many n) ?_ ?_
      · refine ⟨0, rfl, Nat.zero_le _, ?_, e3, gd2⟩
        simp
      · rintro mm σ' G'' ⟨j, rfl, hj, rfl, e4, g4⟩
        walk_at "go"
        refine ifd (fun hm => ?_) (fun hm => ?_)
        · have hj2 := (many_pos n0 j).mp hm
          walk_at "go"
          refine em_append (l := d) (xs := ((List.range j).map (limb n)).map V.int) ?_
          walk_at "go"
          refine ⟨rfl, g4, ?_⟩
          walk_at "go"
          refine ⟨g4, hge, by rw [List.length_map, List.length_map, List.length_range]; exact sz6' (by omega), ?_⟩
          walk_at "go"
          rw [shr32]
          refine km_kj ⟨many n - (j + 1), by omega, j + 1, rfl, hj2, rfl, Ex.mut e4 gd, ?_⟩
          rw [upd_same, List.range_succ, List.map_append, List.map_append]
          rfl
        · have hj2 : j = many n := by
            have := mt (many_pos n0 j).mpr hm
            omega
          subst hj2
          have g5 := e4 _ _ g2
          walk_at "go"
          refine em_lst ?_
          walk_at "go"
          refine ⟨by show 1 ≤ sizeLine; decide, fun r G5 _ e5 gr => ?_⟩
          refine rm_cat (e5 _ _ g5) gr ?_ fun r2 G6 _ e6 gr2 => ?_
          · rw [List.length_map]; exact sz6 (by simp; have : (limbsN (ns.take i)).length ≤ (limbsN ns).length := sub_len
                                                omega)
          walk_at "go"
          refine rm_cat gr2 (e6 _ _ (e5 _ _ g4)) ?_ fun r3 G7 _ e7 gr3 => ?_
          · rw [List.length_append, List.length_map, List.length_map, List.length_map]; exact sz6 (by simp; have : (limbsN (ns.take i)).length ≤ (limbsN ns).length := sub_len
                                                                                                      omega)
          walk_at "go"
          refine km_kj ⟨r3, _, _, _, _, _, _, rfl, (e2.trans e4).trans ((e5.trans e6).trans e7), ?_⟩
          rw [gr3, take_snoc hni, limbs_snoc]
          simp [limbs1]
    · rintro σ' G' ⟨l, v4, v5, v6, v7, v8, v9, rfl, e2, g2⟩
      rw [List.length_map, List.take_length] at g2
      walk_at "go"
      refine sm_forL ?_
      walk_at "go"
      refine em_lst ?_
      walk_at "go"
      refine ⟨by show 2 ≤ sizeLine; decide, fun r G5 _ e5 gr => ?_⟩
      refine rm_cat (e5 _ _ g2) gr ?_ fun r2 G6 _ e6 gr2 => ?_
      · rw [List.length_map]; exact sz6 (by simp; omega)
      have el : (t :: (ns.length : Int) :: limbsN ns).map V.int ++ [V.int w, V.int w] = (t :: limbs ns ++ [w, w]).map V.int := by simp [limbs]
      rw [el] at gr2
      refine ⟨r2, _, rfl, sq_of gr2, fun i σ G' => ∃ v9, σ = [some (.int w), some (.int t), some (.ref a), some (.ref l), v4, v5, some (.int 18446744073709551615), some (.int (mixN ((t :: limbs ns ++ [w, w]).take i)).1), some (.int (mixN ((t :: limbs ns ++ [w, w]).take i)).2), v9] ∧ G' = G6, ⟨v9, ?_, rfl⟩, fun i σ' G' _ ⟨_, _, e⟩ => by rw [e]; exact sq_of gr2, ?_, ?_⟩
      · rfl
      · rintro i x σ' G' hx ⟨v9, rfl, rfl⟩
        obtain ⟨n, rfl, hni⟩ := int_at hx
        walk_at "go"
        refine km_kj ⟨some (.int n), ?_, rfl⟩
        have e : mixN ((t :: limbs ns ++ [w, w]).take (i + 1)) = stp (mixN ((t :: limbs ns ++ [w, w]).take i)) n := by
          unfold mixN
          rw [take_snoc hni, List.foldl_append]
          rfl
        rw [e, stp, Int.add_comm (Builtin.bitXor _ _) (mixN _).2]
        rfl
      · rintro σ' G' ⟨v9, rfl, rfl⟩
        rw [List.length_map, List.take_length]
        obtain ⟨u1, u2⟩ := mix_U (t :: limbs ns ++ [w, w])
        walk_at "go"
        refine rm_I ⟨by decide, by decide, natAbs_U u1⟩ ?_
        walk_at "go"
        refine kv_ret q (e2.trans (e5.trans e6)) rfl

/-! ### numbers of bounded size -/
def Bd (n : Int) : Prop := many n ≤ 700
theorem limbs_bd {ns : List Int} (hl : ns.length ≤ 120) (h : ∀ n ∈ ns, Bd n) : (limbs ns).length ≤ 99000 := by
  have := limbsN_le h
  have h2 : ns.length * 701 ≤ 120 * 701 := Nat.mul_le_mul_right _ hl
  unfold limbs
  rw [List.length_cons]
  omega
theorem bd_abs {n : Int} (h : n.natAbs < 2 ^ 200) : Bd n := by
  have := PyProof.Rows.intBits_le h
  unfold Bd many
  omega
theorem bd_small {n : Int} (h0 : -1000000 ≤ n) (h : n ≤ 1000000) : Bd n := by
  refine bd_abs (Nat.lt_of_lt_of_le (show n.natAbs < 2 ^ 20 by omega) (Nat.pow_le_pow_right (by decide) (by decide)))
theorem bd_rng {n : Int} {k : Nat} (h0 : 0 ≤ n) (h : n < 2 ^ k) (hk : k ≤ 200) : Bd n := by
  refine bd_abs ?_
  have : n.natAbs < 2 ^ k := by
    have e : ((n.natAbs : Nat) : Int) < ((2 ^ k : Nat) : Int) := by rw [PySem.W.kbt_cast]; omega
    exact Int.ofNat_lt.mp e
  exact Nat.lt_of_lt_of_le this (Nat.pow_le_pow_right (by decide) hk)
theorem bd_dgst {w : Int} (h4 : 4 ≤ w) (h : w ≤ 128) (t : Int) (ns : List Int) : Bd (dgst w t ns) := bd_rng (dgst_rng h4 h t ns).1 (dgst_rng h4 h t ns).2 (by omega)

def sp__law_draw (K : PySem.W.Frag) : Sp := spDraw K
theorem ok__law_draw (T : Txt K mg) : FnOk P w K mg base CX0 1 (He.fAd K ("_law_draw", none)) T.fd__law_draw ["state", "script", "size"] (sp__law_draw K) := by
  refine T._law_draw.F.ok sc__law_draw (fun vs H Q E h => ?_) (fun cdv A outer s H vs Q E hr h => ?_)
  · obtain ⟨st, sc, ns, a, b, sz, rfl, _⟩ := h
    rfl
  · obtain ⟨st, sc, ns, a, b, sz, rfl, hst, ha, hb, hS0, h0, hz, q⟩ := h
    refine ⟨_, PSs.nox (pss_cons (ps_cut (ps_if (pt_cmpR (op_eq) (pe_ix (kx_list (K := K)) (pv 0) pe_int (fun _ _ => rfl)) pe_int (nomark _)) (pss_cons (ps_set (i := 3) sc__law_draw.nd rfl (Or.inl rfl) pe_int)
  (pss_cons (ps_cut (ps_if (pt_cmpR (op_gt) (pe_callB (kq_len (K := K)) (by rfl) T.z_len (by decide +kernel) (pa_cons (pv 1) pa_nil)) pe_int (nomark _)) (pss_one (ps_set (i := 3) sc__law_draw.nd rfl (Or.inl rfl) (pe_ix (kx_list (K := K)) (pv 1) (pe_op op_mod (pe_ix (kx_list (K := K)) (pv 0) pe_int (fun _ _ => rfl)) (pe_callB (kq_len (K := K)) (by rfl) T.z_len (by decide +kernel) (pa_cons (pv 1) pa_nil))) (fun _ _ => rfl)))) pss_nil))
  (pss_cons (ps_cut (ps_if (pt_cmpR (op_lt) (pv 3) pe_int (nomark _)) (pss_one (ps_set (i := 3) sc__law_draw.nd rfl (Or.inl rfl) (pe_op op_sub pe_int (pe_op op_mul pe_int (pv 3))))) pss_nil))
  (pss_cons (ps_set (i := 4) sc__law_draw.nd rfl (Or.inl rfl) (pe_op op_mod (pe_callTy cq_int (by rfl) T.z_int (by decide +kernel) (pa_cons (pe_op op_mul (pe_op op_add (pe_op op_add (pv 3) (pe_op op_mul (pe_ix (kx_list (K := K)) (pv 0) pe_int (fun _ _ => rfl)) pe_int)) pe_int) pe_int) pa_nil)) pe_int))
  (pss_cons (ps_asg (pe_op op_mod (pe_callTy cq_int (by rfl) T.z_int (by decide +kernel) (pa_cons (pe_op op_add (pe_op op_mul (pv 4) pe_int) (pe_op op_mul (pe_ix (kx_list (K := K)) (pv 0) pe_int (fun _ _ => rfl)) pe_int)) pa_nil)) pe_int) (pg_sub (pv 0) pe_int set_list))
  (pss_cons (ps_cut (ps_if (PW.pt (pw_and (pt_cmpR (op_ge) (pv 3) (pe_op op_pow pe_int pe_int) (nomark _)) (pw_and1 (pt_cmpR (op_lt) (pe_ix (kx_list (K := K)) (pv 0) pe_int (fun _ _ => rfl)) (pe_callB (kq_len (K := K)) (by rfl) T.z_len (by decide +kernel) (pa_cons (pv 1) pa_nil)) (nomark _))))) (pss_one (ps_asg (pv 3) (pg_sub (pv 0) pe_int set_list))) pss_nil))
  (pss_one (ps_asg (pe_op op_add (pe_ix (kx_list (K := K)) (pv 0) pe_int (fun _ _ => rfl)) pe_int) (pg_sub (pv 0) pe_int set_list))))))))) pss_nil))
  (pss_cons (ps_set (i := 5) sc__law_draw.nd rfl (Or.inl rfl) (pe_op op_mod (pe_callTy cq_int (by rfl) T.z_int (by decide +kernel) (pa_cons (pe_ix (kx_list (K := K)) (pv 0) pe_int (fun _ _ => rfl)) pa_nil)) (pv 2)))
  (pss_cons (ps_asg (pe_op op_fdivW (pe_ix (kx_list (K := K)) (pv 0) pe_int (fun _ _ => rfl)) (pv 2)) (pg_sub (pv 0) pe_int set_list))
  (pss_one (ps_ret (pv 5)))))), ?_⟩
    refine (show SM (VD st H) _ _ _ H from ?_) H VD.start
    have gst : (VD st H).Ge st = none := wo_same
    have hS : SqL K H sc (ns.map V.int) := ex_l wo_ex hS0
    have hLen : (ns.map V.int).length = ns.length := List.length_map ..
    refine sm_seq (sm_cut (fun σ G => ∃ a1 b1 : Int, ∃ v3 v4 v5, σ = [some (.ref st), some (.ref sc), some (.int sz), v3, v4, v5] ∧ 0 ≤ a1 ∧ 0 ≤ b1 ∧ G st = some (.lst [.int a1, .int b1])) ?_ ?_)
    · rintro σ' G' ⟨a1, b1, v3, v4, v5, rfl, h1, h2, g1⟩
      walk_at "go"
      refine rm_ixL (sq_of g1) (v := .int b1) rfl ?_
      walk_at "go"
      refine rm_ixL (sq_of g1) (v := .int b1) rfl ?_
      walk_at "go"
      refine slm (j := 1) g1 gst rfl ?_
      walk_at "go"
      refine kv_draw (b' := b1 / sz) q (Int.emod_nonneg _ (by omega)) (Int.emod_lt_of_pos _ h0) h1 (Int.ediv_nonneg h2 (by omega)) ?_
      exact upd_same
    · walk_at "go"
      refine rm_ixL (sq_of hst) (v := .int b) rfl ?_
      walk_at "go"
      refine ifd (fun hb0 => ?_) (fun hb0 => ?_)
      · subst hb0
        walk_at "go"
        refine sm_cut (fun σ G => ∃ c : Int, ∃ v4 v5, σ = [some (.ref st), some (.ref sc), some (.int sz), some (.int c), v4, v5] ∧ G = H) ?_ ?_
        · rintro σ' G' ⟨c, v4, v5, rfl, rfl⟩
          walk_at "go"
          refine sm_cut (fun σ G => ∃ c : Int, ∃ v4 v5, σ = [some (.ref st), some (.ref sc), some (.int sz), some (.int c), v4, v5] ∧ 0 ≤ c ∧ G = G') ?_ ?_
          · rintro σ' G'' ⟨c, v4, v5, rfl, hc, rfl⟩
            walk_at "go"
            refine rm_ixL (sq_of hst) (v := .int a) rfl ?_
            walk_at "go"
            refine rm_ixL (sq_of hst) (v := .int a) rfl ?_
            walk_at "go"
            refine slm (j := 1) hst gst rfl ?_
            have b0 : (0 : Int) ≤ ((((c + a * 7919 + 1) * 48271) % 2147483647) * 69621 + a * 104729) % 4294967291 := Int.emod_nonneg _ (by decide)
            generalize ((((c + a * 7919 + 1) * 48271) % 2147483647) * 69621 + a * 104729) % 4294967291 = b1 at b0 ⊢
            have g1 : upd G'' st (.lst ([V.int a, V.int 0].set 1 (.int b1))) st = some (.lst [.int a, .int b1]) := upd_same
            have e1 : Ex (wo st G'') (upd G'' st (.lst ([V.int a, V.int 0].set 1 (.int b1)))) := wo_upd wo_ex
            generalize upd G'' st (.lst ([V.int a, V.int 0].set 1 (.int b1))) = G1 at g1 e1 ⊢
            walk_at "go"
            refine sm_cut (fun σ G => ∃ a1 b1 : Int, ∃ v3 v4 v5, σ = [some (.ref st), some (.ref sc), some (.int sz), v3, v4, v5] ∧ 0 ≤ a1 ∧ 0 ≤ b1 ∧ G st = some (.lst [.int a1, .int b1])) ?_ ?_
            · rintro σ' G' ⟨a1, b1, v3, v4, v5, rfl, h1, h2, g1⟩
              walk_at "go"
              refine rm_ixL (sq_of g1) (v := .int a1) rfl ?_
              walk_at "go"
              refine slm (j := 0) g1 gst rfl ?_
              refine km_kj ?_
              exact ⟨a1 + 1, b1, _, _, _, rfl, by omega, h2, upd_same⟩
            · walk_at "go"
              refine ifd (fun hcc => ?_) (fun hcc => ?_)
              · walk_at "go"
                refine rm_ixL (sq_of g1) (v := .int a) rfl ?_
                walk_at "go"
                refine ifd (fun _ => ?_) (fun _ => ?_)
                · walk_at "go"
                  refine slm (j := 1) g1 gst rfl ?_
                  refine km_kj ?_
                  exact ⟨a, c, _, _, _, rfl, ha, hc, upd_same⟩
                · walk_at "go"
                  refine sm_next ?_
                  refine km_kj ?_
                  exact ⟨a, b1, _, _, _, rfl, ha, b0, g1⟩
              · walk_at "go"
                refine sm_next ?_
                refine km_kj ?_
                exact ⟨a, b1, _, _, _, rfl, ha, b0, g1⟩
          · walk_at "go"
            refine ifd (fun hcc => ?_) (fun hcc => ?_)
            · walk_at "go"
              refine km_kj ?_
              exact ⟨_, _, _, rfl, by omega, rfl⟩
            · walk_at "go"
              refine sm_next ?_
              refine km_kj ?_
              exact ⟨_, _, _, rfl, by omega, rfl⟩
        · walk_at "go"
          refine ifd (fun hl => ?_) (fun hl => ?_)
          · walk_at "go"
            refine rm_ixL (sq_of hst) (v := .int a) rfl ?_
            walk_at "go"
            have hpos : (0 : Int) < (ns.map V.int).length := hl
            have k0 := Int.emod_nonneg a (show ((ns.map V.int).length : Int) ≠ 0 by omega)
            have k1 := Int.emod_lt_of_pos a hpos
            obtain ⟨k, hk⟩ := Int.eq_ofNat_of_zero_le k0
            have hkl : k < ns.length := by rw [hLen] at k1 hk; omega
            refine rm_ixL (v := .int ns[k]) hS ?_ ?_
            · rw [hk]
              exact atI_nat (by rw [List.getElem?_map, List.getElem?_eq_getElem hkl]; rfl)
            · walk_at "go"
              refine km_kj ?_
              exact ⟨_, _, _, rfl, rfl⟩
          · walk_at "go"
            refine sm_next ?_
            refine km_kj ?_
            exact ⟨_, _, _, rfl, rfl⟩
      · walk_at "go"
        refine sm_next ?_
        refine km_kj ?_
        exact ⟨a, b, _, _, _, rfl, ha, hb, hst⟩

/-! ### the digests by data -/
theorem rpa1 {F : Hp} {vs : List V} {a : D} (h : RpA K F vs [a]) : ∃ v, vs = [v] ∧ Rp K F v a := by
  cases h with | cons x n => cases n; exact ⟨_, rfl, x⟩
abbrev Hs (K : PySem.W.Frag) (wd : Int) : D := .obj (He.ga K "Hasher") ["width"] [.int wd]
abbrev lI (ns : List Int) : D := .lst (ns.map D.int)
abbrev tI (ns : List Int) : D := .tup (ns.map D.int)
theorem hs_at {G : Hp} {v : V} {C : Addr} {wd : Int} (h : Rp K G v (.obj C ["width"] [.int wd])) : ∃ a, v = .ref a ∧ HsAt C G a wd := by
  cases h with
  | @obj a _ dx fvs _ _ ha hk b =>
    obtain ⟨v, e, hv⟩ := rpa1 b
    cases hv
    match fvs, hk, e with
    | [(k, u)], hk, e => 
      simp at hk e
      subst hk e
      exact ⟨a, rfl, dx, ha⟩
theorem sqs_of {G : Hp} {v : V} {ns : List Int} {x : D} (hx : x = lI ns ∨ x = tI ns) (h : Rp K G v x) : ∃ a, v = .ref a ∧ SqS K G a (ns.map V.int) := by
  rcases hx with rfl | rfl
  · cases h with | lst a b => rw [rpa_ints b] at a; exact ⟨_, rfl, .inl (sq_of a)⟩
  · cases h with | tup a b => rw [rpa_ints b] at a; exact ⟨_, rfl, .inr a⟩
theorem dc_digest {Q : E → Prop} {wd t : Int} {x : D} (ns : List Int) (hx : x = lI ns ∨ x = tI ns) (h0 : 0 ≤ wd) (h1 : wd ≤ 128) (hl : (limbs ns).length ≤ 99000) (k : Q (.d (.int (dgst wd t ns)))) : DC K (sp_Hasher_digest K) [Hs K wd, .int t, x] Q := fun U L G vs lo s => by
  cases s with
  | cons a s =>
    cases s with
    | cons b s =>
      obtain ⟨v, rfl, c⟩ := rpa1 s
      cases b
      obtain ⟨p, rfl, hp⟩ := hs_at a
      obtain ⟨q, rfl, hq⟩ := sqs_of hx c
      exact cm_a (p, wd, t, q, ns) ⟨rfl, hp, h0, h1, hq, hl⟩ fun v G' e hv => ⟨e, .d (.int (dgst wd t ns)), by rw [show v = .int (dgst wd t ns) from hv]; exact Rp.int _, k⟩
def isD (wd n : Int) : Bool := decide (0 ≤ n ∧ n < 2 ^ wd.toNat)
theorem dc_isdig {Q : E → Prop} {wd n : Int} (h0 : 0 ≤ wd) (h1 : wd ≤ 100000) (k : Q (.d (.bl (isD wd n)))) : DC K (sp_Hasher_is_digest K) [Hs K wd, .int n] Q := fun U L G vs lo s => by
  cases s with
  | cons a s =>
    obtain ⟨v, rfl, c⟩ := rpa1 s
    cases c
    obtain ⟨p, rfl, hp⟩ := hs_at a
    exact cm_a (p, wd, n) ⟨rfl, hp, h0, h1⟩ fun v G' e hv => ⟨e, .d (.bl (isD wd n)), by rw [show v = .bl (isD wd n) from hv]; exact Rp.bl _, k⟩
theorem dc_lawdig {Q : E → Prop} {wd t : Int} {x : D} (ns : List Int) (hx : x = lI ns ∨ x = tI ns) (h0 : 4 ≤ wd) (h1 : wd ≤ 128) (hn : ∀ n ∈ ns, 0 ≤ n) (hl : (limbs ns).length ≤ 99000) (k : Q (.d (.int (dgst wd t ns)))) : DC K (sp__law_digest K) [.int wd, .int t, x] Q := fun U L G vs lo s => by
  cases s with
  | cons a s =>
    cases s with
    | cons b s =>
      obtain ⟨v, rfl, c⟩ := rpa1 s
      cases a
      cases b
      obtain ⟨q, rfl, hq⟩ := sqs_of hx c
      exact cm_a (wd, t, q, ns) ⟨rfl, h0, h1, hq, hn, hl⟩ fun v G' e hv => ⟨e, .d (.int (dgst wd t ns)), by rw [show v = .int (dgst wd t ns) from hv]; exact Rp.int _, k⟩
theorem de_hasher {ρ : List E} {Q : E → Prop} {E' : XK} {tas : TA} (wd : Int) (h : DA K tas ρ fun ds => ds = [.int wd] ∧ Q (.d (Hs K wd))) : DE K (tMake (He.ga K "Hasher") (sp_Hasher___init__ K) [] E' tas) ρ Q := fun U σ L G o =>
  em_makeI (fs := [("width", V.int wd)]) ((h U σ L G o).w fun vs G1 ⟨e1, ds, sd, ed, k⟩ => by
    subst ed
    obtain ⟨v, rfl, c⟩ := rpa1 sd
    cases c
    exact ⟨fun x dx H QI EI hx q => ⟨x, dx, _, wd, rfl, rfl, hx, q⟩, fun x dx G2 n e2 g => ⟨e1.trans e2, .d (Hs K wd), .obj g rfl (.cons (.int _) .nil), k⟩⟩)
/-! ### lists of ints, cut -/
theorem cut_to {α : Type} {f : α → D} {xs : List α} {k : Nat} (h : k ≤ xs.length) : cutO (xs.map f) none (some (k : Int)) = (xs.take k).map f := by
  unfold cutO
  rw [HT.sIx_none, HT.sIx_nat, List.drop_zero, Nat.sub_zero, List.length_map, Nat.min_eq_left h, List.map_take]
theorem cut_from {α : Type} {f : α → D} {xs : List α} {k : Nat} (h : k ≤ xs.length) : cutO (xs.map f) (some (k : Int)) none = (xs.drop k).map f := by
  unfold cutO
  rw [HT.sIx_none, HT.sIx_nat, List.length_map, Nat.min_eq_left h, List.map_drop]
  exact List.take_of_length_le (by rw [List.length_drop, List.length_map]; exact Nat.le_refl _)
theorem atI_map {α : Type} {f : α → D} {xs : List α} {k : Nat} {x : α} (h : xs[k]? = some x) : atI (xs.map f) (k : Int) = some (f x) := atI_nat (by rw [List.getElem?_map, h]; rfl)
theorem ints_inj : ∀ {a b : List Int}, a.map D.int = b.map D.int → a = b
  | [], [], _ => rfl
  | [], _ :: _, h => by simp at h
  | _ :: _, [], h => by simp at h
  | x :: a, y :: b, h => by
    rw [List.map_cons, List.map_cons] at h
    injection h with h1 h2
    injection h1 with h1
    rw [h1, ints_inj h2]
theorem tI_ne {a b : List Int} : (tI a = tI b) ↔ a = b := by
  constructor
  · intro h; injection h with h; exact ints_inj h
  · intro h; rw [h]
theorem lI_ne {a b : List Int} : (lI a = lI b) ↔ a = b := by
  constructor
  · intro h; injection h with h; exact ints_inj h
  · intro h; rw [h]
theorem lI_plain (a : List Int) : (lI a).plain = true := plains_map (fun _ => rfl) a
theorem tI_plain (a : List Int) : (tI a).plain = true := plains_map (fun _ => rfl) a
theorem lI_dep (a : List Int) : (lI a).dep ≤ 60 := by show D.deps (a.map D.int) + 1 ≤ 60; have := deps_map (f := D.int) (n := 0) (fun _ => Nat.le_refl _) a; omega
theorem tI_dep (a : List Int) : (tI a).dep ≤ 60 := by show D.deps (a.map D.int) + 1 ≤ 60; have := deps_map (f := D.int) (n := 0) (fun _ => Nat.le_refl _) a; omega
theorem dr_eqLI {Q : E → Prop} {a b : List Int} (k : Q (.d (.bl (decide (a = b))))) : DR K (rEqD K) (.d (lI a)) (.d (lI b)) Q := dr_eqD (decide (a = b)) (by rw [decide_eq_true_iff]; exact lI_ne.symm) (lI_plain a) (lI_plain b) (lI_dep a) (lI_dep b) k
theorem dr_neLI {Q : E → Prop} {a b : List Int} (k : Q (.d (.bl (!decide (a = b))))) : DR K (rNeD K) (.d (lI a)) (.d (lI b)) Q := dr_neD (decide (a = b)) (by rw [decide_eq_true_iff]; exact lI_ne.symm) (lI_plain a) (lI_plain b) (lI_dep a) (lI_dep b) k
theorem dr_eqTI {Q : E → Prop} {a b : List Int} (k : Q (.d (.bl (decide (a = b))))) : DR K (rEqD K) (.d (tI a)) (.d (tI b)) Q := dr_eqD (decide (a = b)) (by rw [decide_eq_true_iff]; exact tI_ne.symm) (tI_plain a) (tI_plain b) (tI_dep a) (tI_dep b) k
theorem dr_neTI {Q : E → Prop} {a b : List Int} (k : Q (.d (.bl (!decide (a = b))))) : DR K (rNeD K) (.d (tI a)) (.d (tI b)) Q := dr_neD (decide (a = b)) (by rw [decide_eq_true_iff]; exact tI_ne.symm) (tI_plain a) (tI_plain b) (tI_dep a) (tI_dep b) k
def sqD (b : Bool) (ns : List Int) : D := match b with | true => tI ns | false => lI ns
theorem db_lenSq {Q : E → Prop} {b : Bool} {ns : List Int} (k : Q (.d (.int (ns.length : Nat)))) : DB K (rLenQ K) [sqD b ns] Q := by
  cases b
  · exact db_lenM k
  · exact db_lenMT k
/-- an item at an unknown place -/
theorem atI_some {ds : List D} {n : Int} {P : D → Prop} (h0 : 0 ≤ n) (h1 : n < ds.length) (k : ∀ d ∈ ds, P d) : ∃ d, atI ds n = some d ∧ P d := by
  obtain ⟨m, rfl⟩ := Int.eq_ofNat_of_zero_le h0
  have hm : m < ds.length := by omega
  exact ⟨ds[m], atI_nat (List.getElem?_eq_getElem hm), k _ (List.getElem_mem hm)⟩
/-- a choice of two, three, four ints -/
theorem atI_ints {a : List D} {n : Int} {P : D → Prop} (R : Int → Prop) (h0 : 0 ≤ n) (h1 : n < a.length) (h2 : ∀ d ∈ a, ∃ m, d = .int m ∧ R m) (k : ∀ m, R m → P (.int m)) : ∃ d, atI a n = some d ∧ P d :=
  atI_some h0 h1 fun d hd => by obtain ⟨m, rfl, r⟩ := h2 d hd; exact k m r
theorem dn_listSq {ρ : List E} {te : TE} {QN : List D → Prop} (h : DE K te ρ fun e => ∃ b ns, e = .d (sqD b ns) ∧ QN (ns.map D.int)) : DN K (tCB (rListQ K) (tCons te tNil)) ρ QN :=
  dn_listL fun U σ L G o => (h U σ L G o).w fun v G1 ⟨e1, e, se, b, ns, ed, q⟩ => ⟨e1, e, se, ns.map D.int, by subst ed; cases b; exact .inl rfl; exact .inr rfl, q⟩
theorem ixN_nat {n k : Nat} (h : k < n) : ixN n (k : Int) = some k := by
  unfold ixN
  rw [if_pos (by omega), if_pos (by omega), Int.toNat_natCast]
theorem bd_xor1 {p : Int} {k : Nat} (h0 : 0 ≤ p) (h : p < 2 ^ k) (h1 : 1 ≤ k) (hk : k ≤ 200) : Bd (Builtin.bitXor p 1) := by
  obtain ⟨a, rfl⟩ := Int.eq_ofNat_of_zero_le h0
  rw [Bits.bitXor_pp (Int.natCast_nonneg a) (by decide), Int.toNat_natCast]
  have ha : a < 2 ^ k := nat_lt_pow h
  have hb : (1 : Int).toNat < 2 ^ k := Nat.lt_of_lt_of_le (show 1 < 2 ^ 1 by decide) (Nat.pow_le_pow_right (by decide) h1)
  exact bd_rng (k := k) (by omega) (by rw [← PySem.W.kbt_cast]; exact Int.ofNat_lt.mpr (Nat.xor_lt_two_pow ha hb)) hk
theorem ty_tup {H : Hp} {a : Addr} {xs : List V} (h : SqT K H a xs) : TyX K H (.ref a) (.type "tuple") := by
  rcases h with (h | ⟨o, h⟩) | ⟨o, its, n, e, c, _⟩
  · exact .base (.tup h)
  · exact .fTuple h
  · exact .kTuple e c
theorem de_isTup {ρ : List E} {te : TE} {Q : E → Prop} (h : DE K te ρ fun e => ∃ ds, e = .d (.tup ds) ∧ Q (.d (.bl true))) : DE K (tCB (rIsi K) (tCons te (tCons (tC (.ty "tuple")) tNil))) ρ Q := fun U σ L G o =>
  em_cb (am_cons ((h U σ L G o).w fun v G1 ⟨e1, e, se, ds, ed, k⟩ => am_cons (em_c (am_nil (by
    subst ed
    cases (se : Rp K G1 v (.tup ds)) with
    | tup a b => exact fun H j _ q => ⟨_, .ty "tuple", .type "tuple", .type "tuple", true, rfl, .ty "tuple", ty_tup (ex_t j.up a), kit_ty (by decide +kernel), q _ _ _ j ⟨e1, .d (.bl true), Rp.bl _, k⟩⟩)))))
theorem ty_lst {H : Hp} {a : Addr} {xs : List V} (h : SqL K H a xs) : H a = some (.lst xs) → TyX K H (.ref a) (.type "list") := fun h => .base (.lst h)
theorem de_isLst {ρ : List E} {te : TE} {Q : E → Prop} (h : DE K te ρ fun e => ∃ ds, e = .d (.lst ds) ∧ Q (.d (.bl true))) : DE K (tCB (rIsi K) (tCons te (tCons (tC (.ty "list")) tNil))) ρ Q := fun U σ L G o =>
  em_cb (am_cons ((h U σ L G o).w fun v G1 ⟨e1, e, se, ds, ed, k⟩ => am_cons (em_c (am_nil (by
    subst ed
    cases (se : Rp K G1 v (.lst ds)) with
    | lst a b => exact fun H j _ q => ⟨_, .ty "list", .type "list", .type "list", true, rfl, .ty "list", .base (.lst (j.up _ _ a)), kit_ty (by decide +kernel), q _ _ _ j ⟨e1, .d (.bl true), Rp.bl _, k⟩⟩)))))
theorem and1 {n : Int} : Builtin.bitAnd n 1 = n % 2 := PySem.W.kbt_mask n 1
theorem sq_of_pick {ns : List Int} : ∀ d ∈ [lI ns, tI ns], ∃ b, d = sqD b ns := by
  intro d hd
  simp at hd
  rcases hd with rfl | rfl
  · exact ⟨false, rfl⟩
  · exact ⟨true, rfl⟩
theorem log_small {n : Int} (h0 : 0 ≤ n) (h : n ≤ 1000000) : n.natAbs.log2 < 9000 := by
  have : n.natAbs < 2 ^ 20 := by omega
  by_cases z : n = 0
  · subst z; decide
  · have := (Nat.log2_lt (by omega)).mpr this
    omega

local macro_rules | `(tactic| walk_at "dr") => `(tactic| first | exact fun _ => .int _ | exact fun _ => .bl _ | exact fun _ => .str _ | exact fun _ => .non)
local macro_rules | `(tactic| walk_at "sz") => `(tactic| first | exact Nat.le_of_ble_eq_true rfl | (simp only [List.length_append, List.length_map, List.length_range, List.length_cons, List.length_nil, List.length_reverse]; exact sz6 (by omega)))
local macro_rules | `(tactic| walk_at "le") => `(tactic| ((repeat first | exact EnvLe.nil | with_reducible refine EnvLe.any ?_ | with_reducible refine EnvLe.same ?_ | refine EnvLe.sameE ?_ ?_); all_goals first | done | rfl | (simp; done) | (simp [List.map_append]; done) | skip))
local macro_rules | `(tactic| walk_at "d1") => `(tactic| first
  | with_reducible refine iteT ?_
  | with_reducible refine iteF ?_
  | with_reducible refine ifNT ?_
  | with_reducible refine ifNF ?_
  | with_reducible refine ds_seq ?_
  | refine ds_store ?_
  | ((with_reducible refine ds_own (dn_lst ?_)))
  | ((with_reducible refine ds_asg ?_))
  | ((with_reducible refine' dg_name ?fcc ?rcc ?_); (case fcc => rfl); (case rcc => first | (dsimp only [List.set]; done) | (dsimp only [List.set]; exact rfl)))
  | ((with_reducible refine' dg_tup ?lcc ?_); (case lcc => rfl))
  | with_reducible refine dgs_cons ?_
  | with_reducible refine dgs_nil ?_
  | ((with_reducible refine' set_to ?rcc ?_); (case rcc => first | (dsimp only [List.set]; done) | (dsimp only [List.set]; exact rfl)))
  | ((with_reducible refine' sz_ ?scc ?_); (case scc => walk_at "sz"))
  | ((with_reducible refine ds_aug ?_); refine ⟨_, rfl, ?_⟩)
  | with_reducible refine ds_next ?_
  | with_reducible refine ds_brk ?_
  | with_reducible refine ds_cont ?_
  | ((refine ds_retO ?_); refine ⟨_, rfl, ?_⟩)
  | with_reducible refine ds_ret ?_
  | with_reducible refine ds_retN ?_
  | ((refine ds_append ?_); refine ⟨_, rfl, ?_⟩)
  | ((refine ds_extend ?_); refine ⟨_, rfl, ?_⟩)
  | with_reducible refine ds_drop ?_
  | with_reducible refine ds_if ?_
  | with_reducible refine dt_test ?_
  | with_reducible refine dt_B ?_
  | with_reducible refine dt_and ?_
  | with_reducible refine dt_or ?_
  | with_reducible refine dt_not ?_
  | with_reducible refine dt_yes ?_
  | ((with_reducible refine de_var ?_); refine ⟨_, rfl, rfl, ?_⟩)
  | with_reducible refine de_cI ?_
  | with_reducible refine de_cB ?_
  | with_reducible refine de_cS ?_
  | with_reducible refine de_cN ?_
  | with_reducible refine de_op ?_
  | with_reducible refine de_un ?_
  | with_reducible refine de_chain ?_
  | ((with_reducible refine' dr_I0 ?dcc ?_); (case dcc => walk_at "dr"))
  | ((with_reducible refine' dr_I ?ccc ?dcc ?_); (case dcc => walk_at "dr"); (case ccc => walk_at "c"))
  | ((with_reducible refine' du_U ?dcc ?_); (case dcc => walk_at "dr"))
  | with_reducible refine dr_eqI ?_
  | with_reducible refine dr_neI ?_
  | with_reducible refine dr_eqS ?_
  | with_reducible refine dr_neS ?_
  | with_reducible refine dr_eqB ?_
  | with_reducible refine dr_neB ?_
  | with_reducible refine dr_isB ?_
  | with_reducible refine dr_notB ?_
  | with_reducible refine dr_isN ?_
  | with_reducible refine dr_notN ?_
  | with_reducible refine be ?_
  | with_reducible refine ie ?_
  | with_reducible refine dd ?_
  | with_reducible refine da_nil ?_
  | with_reducible refine da_cons ?_
  | with_reducible refine da_star ?_
  | with_reducible refine se_tup ?_
  | with_reducible refine se_lst ?_
  | with_reducible refine se_own ?_
  | with_reducible refine de_meth ?_
  | ((with_reducible refine' me ?ncc ?_); (case ncc => decide +kernel))
  | with_reducible refine de_fld ?_
  | ((with_reducible refine' fe ?ccc ?ncc ?lcc ?_); (case ccc => assumption); (case ncc => assumption); (case lcc => rfl))
  | with_reducible refine de_lst ?_
  | with_reducible refine de_tup ?_
  | ((with_reducible refine de_lenO ?_); refine ⟨_, rfl, ?_⟩)
  | ((with_reducible refine de_isTup ?_))
  | ((with_reducible refine de_isLst ?_))
  | with_reducible refine de_cb ?_
  | with_reducible refine de_bits ?_
  | refine de_callS (by exact rfl) (by exact rfl) ?_
  | with_reducible refine de_call ?_
  | with_reducible refine de_andV ?_
  | with_reducible refine de_orV ?_
  | with_reducible refine de_notV ?_
  | with_reducible refine de_if ?_
  | with_reducible refine db_lenM ?_
  | with_reducible refine db_lenMT ?_
  | with_reducible refine db_lenL ?_
  | with_reducible refine db_lenT ?_
  | with_reducible refine db_int ?_
  | with_reducible refine db_intB ?_
  | with_reducible refine db_max ?_
  | with_reducible refine db_min ?_
  | with_reducible refine db_listL ?_
  | with_reducible refine db_listT ?_
  | with_reducible refine db_tupL ?_
  | with_reducible refine db_tupT ?_
  | with_reducible refine db_sum ?_
  | with_reducible refine db_all ?_
  | with_reducible refine db_any ?_
  | with_reducible refine de_sl ?_
  | with_reducible refine do_none ?_
  | with_reducible refine do_some ?_
  | with_reducible refine dsl_L ?_
  | with_reducible refine dsl_O ?_
  | with_reducible refine dsl_A ?_
  | with_reducible refine dsl_SL ?_
  | with_reducible refine dsl_ST ?_
  | with_reducible refine dr_ixL ?_
  | with_reducible refine dr_ixO ?_
  | with_reducible refine dr_ixT ?_
  | with_reducible refine dr_ixSL ?_
  | with_reducible refine dr_ixST ?_
  | with_reducible refine dr_eqLI ?_
  | with_reducible refine dr_neLI ?_
  | with_reducible refine dr_eqTI ?_
  | with_reducible refine dr_neTI ?_)
local macro_rules | `(tactic| walk_at "d") => `(tactic| repeat walk_at "d1")
local macro_rules | `(tactic| walk_at "D") => `(tactic| ((try dsimp only); walk_at "d"))

/-! ### lists: what they are -/
def lft (n : Nat) : Nat := 2 ^ (n - 1).log2
theorem lft_pos (n : Nat) : 0 < lft n := Nat.pow_pos (by decide)
theorem lft_lt {n : Nat} (h : 2 ≤ n) : lft n < n := by
  have := Nat.log2_self_le (n := n - 1) (by omega)
  unfold lft; omega
theorem lft_ge {n : Nat} (h : 2 ≤ n) : n ≤ 2 * lft n := by
  have := Nat.lt_log2_self (n := n - 1)
  rw [Nat.pow_succ] at this
  unfold lft; omega
theorem lft_uniq {n j : Nat} (h1 : 2 ^ j < n) (h2 : n ≤ 2 * 2 ^ j) : 2 ^ j = lft n := by
  unfold lft
  congr 1
  exact ((Nat.log2_eq_iff (by have := Nat.pow_pos (a := 2) (n := j) (by decide); omega)).mpr ⟨by omega, by rw [Nat.pow_succ]; omega⟩).symm
theorem bits_pos {n : Nat} (h : 1 ≤ n) : Builtin.Int.intBits (n : Int) = n.log2 + 1 := by
  unfold Builtin.Int.intBits
  rw [if_neg (show ¬ ((n : Int) == 0) = true by simp; omega)]
  rfl
def rootN (wd : Int) (xs : List Int) : Int := if h : xs.length < 2 then dgst wd 0 xs else dgst wd 1 [(xs.length : Int), rootN wd (xs.take (lft xs.length)), rootN wd (xs.drop (lft xs.length))]
termination_by xs.length
decreasing_by
  · rw [List.length_take]; have := lft_lt (n := xs.length) (by omega); omega
  · rw [List.length_drop]; have := lft_pos xs.length; omega
theorem rootN_lt {wd : Int} {xs : List Int} (h : xs.length < 2) : rootN wd xs = dgst wd 0 xs := by rw [rootN, dif_pos h]
theorem rootN_ge {wd : Int} {xs : List Int} (h : ¬ xs.length < 2) : rootN wd xs = dgst wd 1 [(xs.length : Int), rootN wd (xs.take (lft xs.length)), rootN wd (xs.drop (lft xs.length))] := by rw [rootN, dif_neg h]
def wayN (wd : Int) (xs : List Int) (k : Nat) : List Int := if h : xs.length < 2 then [] else if k < lft xs.length then wayN wd (xs.take (lft xs.length)) k ++ [rootN wd (xs.drop (lft xs.length))] else wayN wd (xs.drop (lft xs.length)) (k - lft xs.length) ++ [rootN wd (xs.take (lft xs.length))]
termination_by xs.length
decreasing_by
  · rw [List.length_take]; have := lft_lt (n := xs.length) (by omega); omega
  · rw [List.length_drop]; have := lft_pos xs.length; omega
def stepsN (s k : Nat) : List (Nat × Bool) := if h : s < 2 then [] else if k < lft s then (s, true) :: stepsN (lft s) k else (s, false) :: stepsN (s - lft s) (k - lft s)
termination_by s
decreasing_by
  · exact lft_lt (by omega)
  · have := lft_pos s; omega
theorem rootN_rng {wd : Int} (h4 : 4 ≤ wd) (h : wd ≤ 128) (xs : List Int) : 0 ≤ rootN wd xs ∧ rootN wd xs < 2 ^ wd.toNat := by
  rw [rootN]; split <;> exact dgst_rng h4 h _ _
theorem bd_root {wd : Int} (h4 : 4 ≤ wd) (h : wd ≤ 128) (xs : List Int) : Bd (rootN wd xs) := bd_rng (rootN_rng h4 h xs).1 (rootN_rng h4 h xs).2 (by omega)
def numsN (b p : Int) (st : Nat × Bool) : List Int := if st.2 then [(st.1 : Int), b, p] else [(st.1 : Int), p, b]
/-- the digest behind so many steps from below -/
def botN (wd : Int) (W : List (Nat × Bool)) (P : List Int) (e : Int) : Nat → Int
  | 0 => e
  | i + 1 => dgst wd 1 (numsN (botN wd W P e i) (P.getD i 0) (W.getD i (0, true)))
def upN (wd : Int) (W : List (Nat × Bool)) (P : List Int) (e : Int) (n : Nat) : List (Int × List Int) := (List.range n).map fun i => (1, numsN (botN wd W P e i) (P.getD i 0) (W.getD i (0, true)))
theorem upN_succ (wd : Int) (W : List (Nat × Bool)) (P : List Int) (e : Int) (n : Nat) : upN wd W P e (n + 1) = upN wd W P e n ++ [(1, numsN (botN wd W P e n) (P.getD n 0) (W.getD n (0, true)))] := by
  unfold upN; rw [List.range_succ, List.map_append]; rfl
theorem upN_len (wd : Int) (W : List (Nat × Bool)) (P : List Int) (e : Int) (n : Nat) : (upN wd W P e n).length = n := by unfold upN; simp
theorem bot_bd {wd : Int} (h4 : 4 ≤ wd) (h : wd ≤ 128) {W : List (Nat × Bool)} {P : List Int} {e : Int} (he : Bd e) : ∀ i, Bd (botN wd W P e i)
  | 0 => he
  | i + 1 => bd_dgst h4 h _ _
theorem nums_bd {s : Nat} {b p : Int} {l : Bool} (hs : s ≤ 1000) (hb : Bd b) (hp : Bd p) : (limbs (numsN b p (s, l))).length ≤ 99000 := by
  have h3 : Bd (s : Int) := bd_small (by omega) (by omega)
  refine limbs_bd ?_ ?_
  · unfold numsN; cases l <;> simp
  · unfold numsN
    cases l
    all_goals
      intro n hn
      simp at hn
      rcases hn with rfl | rfl | rfl <;> assumption
/-! ### lists: the program -/
abbrev stD (st : Nat × Bool) : D := .tup [.int (st.1 : Int), .bl st.2]
abbrev inD (x : Int × List Int) : D := .tup [.int x.1, tI x.2]
def sp_left_size (K : PySem.W.Frag) : Sp := spG K (fun n : Nat => [.int (n : Int)]) (fun n => 2 ≤ n ∧ n ≤ 1000) fun n => .int (lft n)
theorem ok_left_size (T : Txt K mg) : FnOk P w K mg base CX0 (1) (He.fAd K ("left_size", none)) T.fd_left_size ["size"] (sp_left_size K) := by
  refine T.left_size.F.ok sc_left_size (fun vs H Q E h => len_g h fun _ => rfl) (fun cdv A outer s H vs Q E hr h => ⟨_, PSs.nox (pss_one (ps_ret (pe_op op_shl pe_int (pe_op op_sub (pe_bits (pe_op op_sub (pv 0) pe_int)) pe_int)))), fn_g h fun x p => ?_⟩)
  change DS K _ (Wp.E.d _ :: []) _ _ _ _
  obtain ⟨h1, h2⟩ := p
  have hb : Builtin.Int.intBits ((x : Int) - 1) = (x - 1).log2 + 1 := by
    rw [show (x : Int) - 1 = ((x - 1 : Nat) : Int) by omega]; exact bits_pos (by omega)
  have hl : (x - 1).log2 < 10 := (Nat.log2_lt (by omega)).mpr (by omega)
  walk_at "d"
  rw [hb]
  have e1 : (((x - 1).log2 + 1 : Nat) : Int) - 1 = ((x - 1).log2 : Int) := by omega
  rw [e1, Int.toNat_natCast, Int.one_mul]
  show D.int (2 ^ (x - 1).log2) = D.int ((lft x : Nat) : Int)
  unfold lft
  rw [PySem.W.kbt_cast]
def partD (s k : Nat) : D := .tup [.bl (decide (k < lft s)), .int (if k < lft s then (lft s : Int) else ((s - lft s : Nat) : Int)), .int (if k < lft s then (k : Int) else ((k - lft s : Nat) : Int))]
def sp_part_with (K : PySem.W.Frag) : Sp := spG K (fun x : Nat × Nat => [.int (x.1 : Int), .int (x.2 : Int)]) (fun x => 2 ≤ x.1 ∧ x.1 ≤ 1000) fun x => partD x.1 x.2
theorem ok_part_with (T : Txt K mg) : FnOk P w K mg base CX0 (2) (He.fAd K ("part_with", none)) T.fd_part_with ["size", "place"] (sp_part_with K) := by
  refine T.part_with.F.ok sc_part_with (fun vs H Q E h => len_g h fun _ => rfl) (fun cdv A outer s H vs Q E hr h => ⟨_, PSs.nox (pss_cons (ps_set (i := 2) sc_part_with.nd rfl (Or.inl rfl) (pe_call (ok_left_size T) (hr.mono (by omega)) (by rfl) T.left_size.g T.left_size.F.kp T.left_size.b .nil pass0 (pa_cons (pv 0) pa_nil)))
  (pss_cons (ps_if (pt_cmpR (op_lt) (pv 1) (pv 2) (nomark _)) (pss_one (ps_ret (pe_tup (pa_cons pe_bl (pa_cons (pv 2) (pa_cons (pv 1) pa_nil)))))) pss_nil)
  (pss_one (ps_ret (pe_tup (pa_cons pe_bl (pa_cons (pe_op op_sub (pv 0) (pv 2)) (pa_cons (pe_op op_sub (pv 1) (pv 2)) pa_nil)))))))), fn_g h fun x p => ?_⟩)
  change DS K _ (Wp.E.d _ :: (Wp.E.d _ :: (Wp.E.any :: []))) _ _ _ _
  obtain ⟨s, k⟩ := x
  obtain ⟨h1, h2⟩ := p
  walk_at "d"
  refine dc_g s rfl ⟨h1, h2⟩ ?_
  walk_at "d"
  dsimp only at h1 h2 ⊢
  have hl := lft_lt h1
  walk_at "d"
  unfold partD
  refine ifd (fun h => ?_) (fun h => ?_)
  · walk_at "d"
    have h' : k < lft s := by omega
    rw [if_pos h', if_pos h', decide_eq_true h']
  · walk_at "d"
    have h' : ¬ k < lft s := by omega
    rw [if_neg h', if_neg h', decide_eq_false h', Int.ofNat_sub (by omega), Int.ofNat_sub (by omega)]
/-- items that a list may have -/
def Itm (n : Int) : Prop := 0 ≤ n ∧ Bd n
theorem itm_root {wd : Int} (h4 : 4 ≤ wd) (h : wd ≤ 128) (xs : List Int) : Itm (rootN wd xs) := ⟨(rootN_rng h4 h xs).1, bd_root h4 h xs⟩
theorem itm_nat {n : Nat} (h : n ≤ 1000000) : Itm (n : Int) := ⟨by omega, bd_small (by omega) (by omega)⟩
theorem itms_take {xs : List Int} {k : Nat} (h : ∀ y ∈ xs, Itm y) : ∀ y ∈ xs.take k, Itm y := fun y hy => h y (List.mem_of_mem_take hy)
theorem itms_drop {xs : List Int} {k : Nat} (h : ∀ y ∈ xs, Itm y) : ∀ y ∈ xs.drop k, Itm y := fun y hy => h y (List.mem_of_mem_drop hy)
theorem itms_bd {xs : List Int} (hl : xs.length ≤ 120) (h : ∀ y ∈ xs, Itm y) : (limbs xs).length ≤ 99000 := limbs_bd hl fun y hy => (h y hy).2
theorem itms3 {a b c : Int} (ha : Itm a) (hb : Itm b) (hc : Itm c) : ∀ y ∈ [a, b, c], Itm y := by
  intro y hy
  simp at hy
  rcases hy with rfl | rfl | rfl <;> assumption
theorem ok_void {α : Type} {args : α → List D} {pre : α → Prop} {res : α → D} {k : Nat} {f : Addr} {fd : FuncData} {ps : List Str} (hp : ∀ x, ¬ pre x) : FnOk P w K mg base CX0 k f fd ps (spG K args pre res) :=
  ⟨fun _ _ _ _ ⟨x, _, _, ⟨_, p⟩, _⟩ => absurd p (hp x), fun _ _ _ _ _ _ _ _ _ _ _ _ _ ⟨x, _, _, ⟨_, p⟩, _⟩ => absurd p (hp x)⟩
def sp_lr (K : PySem.W.Frag) (n : Nat) : Sp := spG K (fun x : Int × List Int => [Hs K x.1, lI x.2]) (fun x => 4 ≤ x.1 ∧ x.1 ≤ 128 ∧ x.2.length < n ∧ x.2.length ≤ 100 ∧ ∀ y ∈ x.2, Itm y) fun x => .int (rootN x.1 x.2)
theorem ok_lr_step (T : Txt K mg) (n : Nat) (IH : FnOk P w K mg base CX0 (6 + n) (He.fAd K ("list_root", none)) T.fd_list_root ["hasher", "items"] (sp_lr K n)) : FnOk P w K mg base CX0 (6 + n + 1) (He.fAd K ("list_root", none)) T.fd_list_root ["hasher", "items"] (sp_lr K (n + 1)) := by
  refine T.list_root.F.ok sc_list_root (fun vs H Q E h => len_g h fun _ => rfl) (fun cdv A outer s H vs Q E hr h => ⟨_, PSs.nox (pss_cons (ps_set (i := 2) sc_list_root.nd rfl (Or.inl rfl) (pe_callB (kq_len (K := K)) (by rfl) T.z_len (by decide +kernel) (pa_cons (pv 1) pa_nil)))
  (pss_cons (ps_if (pt_cmpR (op_lt) (pv 2) pe_int (nomark _)) (pss_one (ps_ret (pe_meth (pv 0) T.cl_Hasher T.me_Hasher_digest (ok_Hasher_digest T) (hr.mono (by omega)) T.Hasher_digest.b .nil pass0 (pa_cons (pe_glob (v := .int 0) rfl T.c_LEAF_TAG.choose_spec ⟨_, rfl⟩) (pa_cons (pv 1) pa_nil))))) pss_nil)
  (pss_cons (ps_set (i := 3) sc_list_root.nd rfl (Or.inl rfl) (pe_call (ok_left_size T) (hr.mono (by omega)) (by rfl) T.left_size.g T.left_size.F.kp T.left_size.b .nil pass0 (pa_cons (pv 2) pa_nil)))
  (pss_one (ps_ret (pe_meth (pv 0) T.cl_Hasher T.me_Hasher_digest (ok_Hasher_digest T) (hr.mono (by omega)) T.Hasher_digest.b .nil pass0 (pa_cons (pe_glob (v := .int 1) rfl T.c_NODE_TAG.choose_spec ⟨_, rfl⟩) (pa_cons (pe_lst (pa_cons (pv 2) (pa_cons (pe_call IH (hr.mono (by omega)) (by rfl) T.list_root.g T.list_root.F.kp T.list_root.b .nil pass0 (pa_cons (pv 0) (pa_cons (pe_slice (kl_list (K := K)) (pv 1) po_none (po_some (pv 3))) pa_nil))) (pa_cons (pe_call IH (hr.mono (by omega)) (by rfl) T.list_root.g T.list_root.F.kp T.list_root.b .nil pass0 (pa_cons (pv 0) (pa_cons (pe_slice (kl_list (K := K)) (pv 1) (po_some (pv 3)) po_none) pa_nil))) pa_nil)))) pa_nil)))))))), fn_g h fun x p => ?_⟩)
  change DS K _ (Wp.E.d _ :: (Wp.E.d _ :: (Wp.E.any :: (Wp.E.any :: [])))) _ _ _ _
  obtain ⟨wd, xs⟩ := x
  obtain ⟨w4, w128, hn, hl, hi⟩ := p
  dsimp only at w4 w128 hn hl hi ⊢
  walk_at "d"
  refine ifd (fun h => ?_) (fun h => ?_)
  · walk_at "d"
    refine dc_digest xs (.inl rfl) (by omega) w128 (itms_bd (by omega) hi) ?_
    walk_at "d"
    rw [rootN_lt (by omega)]
  · walk_at "d"
    have h2 : 2 ≤ xs.length := by omega
    have hlt := lft_lt h2
    have hlp := lft_pos xs.length
    refine dc_g xs.length rfl ⟨h2, by omega⟩ ?_
    walk_at "d"
    rw [cut_to (by omega)]
    refine dc_g (wd, xs.take (lft xs.length)) rfl ⟨w4, w128, by rw [List.length_take]; omega, by rw [List.length_take]; omega, itms_take hi⟩ ?_
    walk_at "d"
    rw [cut_from (by omega)]
    refine dc_g (wd, xs.drop (lft xs.length)) rfl ⟨w4, w128, by rw [List.length_drop]; omega, by rw [List.length_drop]; omega, itms_drop hi⟩ ?_
    walk_at "d"
    refine dc_digest [(xs.length : Int), rootN wd (xs.take (lft xs.length)), rootN wd (xs.drop (lft xs.length))] (.inl rfl) (by omega) w128 (itms_bd (by show 3 ≤ 120; decide) (itms3 (itm_nat (by omega)) (itm_root w4 w128 _) (itm_root w4 w128 _))) ?_
    walk_at "d"
    rw [← rootN_ge (by omega)]
theorem ok_lr (T : Txt K mg) : ∀ n : Nat, FnOk P w K mg base CX0 (6 + n) (He.fAd K ("list_root", none)) T.fd_list_root ["hasher", "items"] (sp_lr K n)
  | 0 => ok_void fun x p => absurd p.2.2.1 (Nat.not_lt_zero _)
  | n + 1 => ok_lr_step T n (ok_lr T n)
def sp_list_root (K : PySem.W.Frag) : Sp := sp_lr K 34
theorem ok_list_root (T : Txt K mg) : FnOk P w K mg base CX0 (40) (He.fAd K ("list_root", none)) T.fd_list_root ["hasher", "items"] (sp_list_root K) := ok_lr T 34
def sp_lp (K : PySem.W.Frag) (n : Nat) : Sp := spG K (fun x : Int × List Int × Nat => [Hs K x.1, lI x.2.1, .int (x.2.2 : Int)]) (fun x => 4 ≤ x.1 ∧ x.1 ≤ 128 ∧ x.2.1.length < n ∧ x.2.1.length ≤ 33 ∧ ∀ y ∈ x.2.1, Itm y) fun x => tI (wayN x.1 x.2.1 x.2.2)
theorem wayN_lt {wd : Int} {xs : List Int} {k : Nat} (h : xs.length < 2) : wayN wd xs k = [] := by rw [wayN, dif_pos h]
theorem wayN_ge {wd : Int} {xs : List Int} {k : Nat} (h : ¬ xs.length < 2) : wayN wd xs k = if k < lft xs.length then wayN wd (xs.take (lft xs.length)) k ++ [rootN wd (xs.drop (lft xs.length))] else wayN wd (xs.drop (lft xs.length)) (k - lft xs.length) ++ [rootN wd (xs.take (lft xs.length))] := by rw [wayN, dif_neg h]
theorem wayN_len {wd : Int} : ∀ (n : Nat) (xs : List Int) (k : Nat), xs.length ≤ n → (wayN wd xs k).length ≤ n
  | 0, xs, k, h => by rw [wayN_lt (by omega)]; simp
  | n + 1, xs, k, h => by
    by_cases z : xs.length < 2
    · rw [wayN_lt z]; simp
    · rw [wayN_ge z]
      have hlt := lft_lt (n := xs.length) (by omega)
      have hlp := lft_pos xs.length
      split
      · rw [List.length_append]
        have := wayN_len (wd := wd) n (xs.take (lft xs.length)) k (by rw [List.length_take]; omega)
        simp; omega
      · rw [List.length_append]
        have := wayN_len (wd := wd) n (xs.drop (lft xs.length)) (k - lft xs.length) (by rw [List.length_drop]; omega)
        simp; omega
theorem wayN_itm {wd : Int} (h4 : 4 ≤ wd) (h : wd ≤ 128) : ∀ (n : Nat) (xs : List Int) (k : Nat), xs.length ≤ n → ∀ y ∈ wayN wd xs k, 0 ≤ y ∧ y < 2 ^ wd.toNat
  | 0, xs, k, hn => by rw [wayN_lt (by omega)]; simp
  | n + 1, xs, k, hn => by
    by_cases z : xs.length < 2
    · rw [wayN_lt z]; simp
    · rw [wayN_ge z]
      have hlt := lft_lt (n := xs.length) (by omega)
      have hlp := lft_pos xs.length
      split
      · intro y hy
        rcases List.mem_append.mp hy with hy | hy
        · exact wayN_itm h4 h n _ _ (by rw [List.length_take]; omega) y hy
        · simp at hy; rw [hy]; exact rootN_rng h4 h _
      · intro y hy
        rcases List.mem_append.mp hy with hy | hy
        · exact wayN_itm h4 h n _ _ (by rw [List.length_drop]; omega) y hy
        · simp at hy; rw [hy]; exact rootN_rng h4 h _
theorem ok_lp_step (T : Txt K mg) (n : Nat) (IH : FnOk P w K mg base CX0 (41 + n) (He.fAd K ("list_proof", none)) T.fd_list_proof ["hasher", "items", "k"] (sp_lp K n)) : FnOk P w K mg base CX0 (41 + n + 1) (He.fAd K ("list_proof", none)) T.fd_list_proof ["hasher", "items", "k"] (sp_lp K (n + 1)) := by
  refine T.list_proof.F.ok sc_list_proof (fun vs H Q E h => len_g h fun _ => rfl) (fun cdv A outer s H vs Q E hr h => ⟨_, PSs.nox (pss_cons (ps_set (i := 3) sc_list_proof.nd rfl (Or.inl rfl) (pe_callB (kq_len (K := K)) (by rfl) T.z_len (by decide +kernel) (pa_cons (pv 1) pa_nil)))
  (pss_cons (ps_if (pt_cmpR (op_lt) (pv 3) pe_int (nomark _)) (pss_one (ps_ret (pe_tup pa_nil))) pss_nil)
  (pss_cons (ps_set (i := 4) sc_list_proof.nd rfl (Or.inl rfl) (pe_call (ok_left_size T) (hr.mono (by omega)) (by rfl) T.left_size.g T.left_size.F.kp T.left_size.b .nil pass0 (pa_cons (pv 3) pa_nil)))
  (pss_cons (ps_if (pt_cmpR (op_lt) (pv 2) (pv 4) (nomark _)) (pss_one (ps_ret (pe_tup (ka_star (K := K) (pe_call IH (hr.mono (by omega)) (by rfl) T.list_proof.g T.list_proof.F.kp T.list_proof.b .nil pass0 (pa_cons (pv 0) (pa_cons (pe_slice (kl_list (K := K)) (pv 1) po_none (po_some (pv 4))) (pa_cons (pv 2) pa_nil)))) (pa_cons (pe_call (ok_list_root T) (hr.mono (by omega)) (by rfl) T.list_root.g T.list_root.F.kp T.list_root.b .nil pass0 (pa_cons (pv 0) (pa_cons (pe_slice (kl_list (K := K)) (pv 1) (po_some (pv 4)) po_none) pa_nil))) pa_nil))))) pss_nil)
  (pss_one (ps_ret (pe_tup (ka_star (K := K) (pe_call IH (hr.mono (by omega)) (by rfl) T.list_proof.g T.list_proof.F.kp T.list_proof.b .nil pass0 (pa_cons (pv 0) (pa_cons (pe_slice (kl_list (K := K)) (pv 1) (po_some (pv 4)) po_none) (pa_cons (pe_op op_sub (pv 2) (pv 4)) pa_nil)))) (pa_cons (pe_call (ok_list_root T) (hr.mono (by omega)) (by rfl) T.list_root.g T.list_root.F.kp T.list_root.b .nil pass0 (pa_cons (pv 0) (pa_cons (pe_slice (kl_list (K := K)) (pv 1) po_none (po_some (pv 4))) pa_nil))) pa_nil))))))))), fn_g h fun x p => ?_⟩)
  change DS K _ (Wp.E.d _ :: (Wp.E.d _ :: (Wp.E.d _ :: (Wp.E.any :: (Wp.E.any :: []))))) _ _ _ _
  obtain ⟨wd, xs, k⟩ := x
  obtain ⟨w4, w128, hn, hl, hi⟩ := p
  dsimp only at w4 w128 hn hl hi ⊢
  walk_at "d"
  refine ifd (fun h => ?_) (fun h => ?_)
  · walk_at "d"
    rw [wayN_lt (by omega)]
    rfl
  · walk_at "d"
    have h2 : 2 ≤ xs.length := by omega
    have hlt := lft_lt h2
    have hlp := lft_pos xs.length
    refine dc_g xs.length rfl ⟨h2, by omega⟩ ?_
    walk_at "d"
    have wl := wayN_len (wd := wd) 33
    refine ifd (fun hk => ?_) (fun hk => ?_)
    · walk_at "d"
      rw [cut_to (by omega)]
      refine dc_g (wd, xs.take (lft xs.length), k) rfl ⟨w4, w128, by rw [List.length_take]; omega, by rw [List.length_take]; omega, itms_take hi⟩ ?_
      walk_at "d"
      rw [cut_from (by omega)]
      refine dc_g (wd, xs.drop (lft xs.length)) rfl ⟨w4, w128, by rw [List.length_drop]; omega, by rw [List.length_drop]; omega, itms_drop hi⟩ ?_
      walk_at "d"
      have := wl (xs.take (lft xs.length)) k (by rw [List.length_take]; omega)
      refine sz_ (by rw [List.length_append, List.length_map]; exact sz6 (by simp; omega)) ?_
      walk_at "d"
      rw [wayN_ge (xs := xs) (k := k) (by omega), if_pos (by omega)]
      simp
    · walk_at "d"
      rw [cut_from (by omega), show (k : Int) - (lft xs.length : Int) = ((k - lft xs.length : Nat) : Int) by omega]
      refine dc_g (wd, xs.drop (lft xs.length), k - lft xs.length) rfl ⟨w4, w128, by rw [List.length_drop]; omega, by rw [List.length_drop]; omega, itms_drop hi⟩ ?_
      walk_at "d"
      rw [cut_to (by omega)]
      refine dc_g (wd, xs.take (lft xs.length)) rfl ⟨w4, w128, by rw [List.length_take]; omega, by rw [List.length_take]; omega, itms_take hi⟩ ?_
      walk_at "d"
      have := wl (xs.drop (lft xs.length)) (k - lft xs.length) (by rw [List.length_drop]; omega)
      refine sz_ (by rw [List.length_append, List.length_map]; exact sz6 (by simp; omega)) ?_
      walk_at "d"
      rw [wayN_ge (xs := xs) (k := k) (by omega), if_neg (by omega)]
      simp
theorem ok_lp (T : Txt K mg) : ∀ n : Nat, FnOk P w K mg base CX0 (41 + n) (He.fAd K ("list_proof", none)) T.fd_list_proof ["hasher", "items", "k"] (sp_lp K n)
  | 0 => ok_void fun x p => absurd p.2.2.1 (Nat.not_lt_zero _)
  | n + 1 => ok_lp_step T n (ok_lp T n)
def sp_list_proof (K : PySem.W.Frag) : Sp := sp_lp K 34
theorem ok_list_proof (T : Txt K mg) : FnOk P w K mg base CX0 (80) (He.fAd K ("list_proof", none)) T.fd_list_proof ["hasher", "items", "k"] (sp_list_proof K) := (ok_lp T 34).mono (by omega)
/-! ### ways -/
def sp_are_digests (K : PySem.W.Frag) : Sp := spG K (fun x : Int × Bool × List Int => [Hs K x.1, sqD x.2.1 x.2.2]) (fun x => 4 ≤ x.1 ∧ x.1 ≤ 128 ∧ x.2.2.length ≤ 10000) fun x => .bl (x.2.2.all (isD x.1))
theorem ok_are_digests (T : Txt K mg) : FnOk P w K mg base CX0 (2) (He.fAd K ("are_digests", none)) T.fd_are_digests ["hasher", "numbers"] (sp_are_digests K) := by
  refine T.are_digests.F.ok sc_are_digests (fun vs H Q E h => len_g h fun _ => rfl) (fun cdv A outer s H vs Q E hr h => ⟨_, PSs.nox (pss_one (ps_ret (pe_callB (kr_all (K := K)) (by rfl) T.z_all (by decide +kernel) (pa_cons (pe_lc (own := [("number", 2)]) rfl sc_are_digests.nd (ki_seq (K := K) (pv 1)) (blkOk_by (own := [("number", 2)]) (N := ["hasher", "numbers", "number"]) (sc := defScope s_are_digests) (by decide +kernel)) (fun _ _ _ _ _ => pg_name (i := 2) sc_are_digests.nd rfl (Or.inl rfl)) (fun _ _ _ _ _ => pts_nil) (fun _ _ _ _ _ => (pe_meth (pv 0) T.cl_Hasher T.me_Hasher_is_digest (ok_Hasher_is_digest T) (hr.mono (by omega)) T.Hasher_is_digest.b .nil pass0 (pa_cons (pv 2) pa_nil)))) pa_nil)))), fn_g h fun x p => ?_⟩)
  change DS K _ (Wp.E.d _ :: (Wp.E.d _ :: (Wp.E.any :: []))) _ _ _ _
  obtain ⟨wd, b, ns⟩ := x
  obtain ⟨w4, w128, hl⟩ := p
  dsimp only at w4 w128 hl ⊢
  have el : (ns.map (isD wd)).all id = ns.all (isD wd) := by rw [List.all_map]; rfl
  have em : ns.map (fun n => D.bl (isD wd n)) = (ns.map (isD wd)).map D.bl := by rw [List.map_map]; rfl
  cases b
  · dsimp only [sqD]
    walk_at "d"
    refine de_new (dn_lcS (.inl (dn_mapL ns D.int (fun n => D.bl (isD wd n)) ?_)))
    walk_at "d"
    refine ⟨rfl, by omega, fun i n hn => dgw_name rfl (by decide) rfl ?_, ?_⟩
    · walk_at "d"
      refine dc_isdig (by omega) (by omega) ?_
      rfl
    · walk_at "d"
      rw [em]
      walk_at "d"
      rw [el]
  · dsimp only [sqD]
    walk_at "d"
    refine de_new (dn_lcS (.inr (dn_mapT ns D.int (fun n => D.bl (isD wd n)) ?_)))
    walk_at "d"
    refine ⟨rfl, by omega, fun i n hn => dgw_name rfl (by decide) rfl ?_, ?_⟩
    · walk_at "d"
      refine dc_isdig (by omega) (by omega) ?_
      rfl
    · walk_at "d"
      rw [em]
      walk_at "d"
      rw [el]
theorem stepsN_lt {s k : Nat} (h : s < 2) : stepsN s k = [] := by rw [stepsN, dif_pos h]
theorem stepsN_ge {s k : Nat} (h : ¬ s < 2) : stepsN s k = if k < lft s then (s, true) :: stepsN (lft s) k else (s, false) :: stepsN (s - lft s) (k - lft s) := by rw [stepsN, dif_neg h]
def sp_item_way (K : PySem.W.Frag) : Sp := spG K (fun x : Nat × Nat × Nat => [.int (x.1 : Int), .int (x.2.1 : Int), .int (x.2.2 : Int)]) (fun x => x.1 ≤ 1000 ∧ x.2.2 ≤ 1000) fun x => .lst (((stepsN x.1 x.2.1).take (x.2.2 + 1)).map stD)
theorem ok_item_way (T : Txt K mg) : FnOk P w K mg base CX0 (3) (He.fAd K ("item_way", none)) T.fd_item_way ["count", "k", "most"] (sp_item_way K) := by
  refine T.item_way.F.ok sc_item_way (fun vs H Q E h => len_g h fun _ => rfl) (fun cdv A outer s H vs Q E hr h => ⟨_, PSs.nox (pss_cons (ps_set (i := 3) sc_item_way.nd rfl (Or.inl rfl) (pe_lst pa_nil))
  (pss_cons (ps_set (i := 4) sc_item_way.nd rfl (Or.inl rfl) (pv 0))
  (pss_cons (ps_while PassesOwn.never (PW.pt (pw_and (pt_cmpR (op_gt) (pv 4) pe_int (nomark _)) (pw_and1 (pt_cmpR (op_le) (pe_callB (kq_len (K := K)) (by rfl) T.z_len (by decide +kernel) (pa_cons (pv 3) pa_nil)) (pv 2) (nomark _))))) (pss_cons (ps_asg (pe_call (ok_part_with T) (hr.mono (by omega)) (by rfl) T.part_with.g T.part_with.F.kp T.part_with.b .nil pass0 (pa_cons (pv 4) (pa_cons (pv 1) pa_nil))) (kg_tup (K := K) (n := 3) rfl (pgs_cons (pg_name (i := 5) sc_item_way.nd rfl (Or.inl rfl)) (pgs_cons (pg_name (i := 6) sc_item_way.nd rfl (Or.inl rfl)) (pgs_cons (pg_name (i := 1) sc_item_way.nd rfl (Or.inl rfl)) pgs_nil)))))
  (pss_cons (ps_expr (pe_bm PySem.F.plainAttrs_list PySem.F.slot_list_append PySem.F.type_list_append mt_append (pv 3) (pa_cons (pe_tup (pa_cons (pv 4) (pa_cons (pv 5) pa_nil))) pa_nil)))
  (pss_one (ps_set (i := 4) sc_item_way.nd rfl (Or.inl rfl) (pv 6))))))
  (pss_one (ps_ret (pv 3)))))), fn_g h fun x p => ?_⟩)
  change DS K _ (Wp.E.d _ :: (Wp.E.d _ :: (Wp.E.d _ :: (Wp.E.any :: (Wp.E.any :: (Wp.E.any :: (Wp.E.any :: []))))))) _ _ _ _
  obtain ⟨c, k, m⟩ := x
  obtain ⟨hc, hm⟩ := p
  dsimp only at hc hm ⊢
  walk_at "d"
  refine ds_while (fun v ρ => ∃ (way : List (Nat × Bool)) (s k' : Nat), v = s ∧ s ≤ 1000 ∧ way.length ≤ m + 1 ∧ way ++ stepsN s k' = stepsN c k ∧ ρ = [.d (.int (c : Int)), .d (.int (k' : Int)), .d (.int (m : Int)), .own (way.map stD), .d (.int (s : Int)), .any, .any]) c ⟨_, by walk_at "le", [], c, k, rfl, hc, by simp, rfl, rfl⟩ ?_
  rintro s ρ ⟨way, _, k', rfl, hs, hw, he, rfl⟩
  have fin : ∀ h : s < 2 ∨ m + 1 ≤ way.length, way.map stD = ((stepsN c k).take (m + 1)).map stD := fun h => by
    rcases h with h | h
    · rw [← he, stepsN_lt h, List.append_nil, List.take_of_length_le hw]
    · rw [← he, List.take_append_of_le_length (by omega), List.take_of_length_le (by omega)]
  walk_at "d"
  refine ifd (fun h => ?_) (fun h => ?_)
  · walk_at "d"
    rw [List.length_map]
    refine ifd (fun h' => ?_) (fun h' => ?_)
    · walk_at "d"
      have h2 : 2 ≤ s := by omega
      refine dc_g (s, k') rfl ⟨h2, hs⟩ ?_
      unfold partD
      walk_at "d"
      refine ⟨by rw [List.length_map]; exact sz6' (by omega), ?_⟩
      walk_at "d"
      have hlt := lft_lt h2
      have hlp := lft_pos s
      have e2 := stepsN_ge (s := s) (k := k') (by omega)
      by_cases z : k' < lft s
      · simp only [if_pos z, decide_eq_true z]
        rw [if_pos z] at e2
        refine ⟨_, by walk_at "le", lft s, by omega, way ++ [(s, true)], _, k', rfl, by omega, by rw [List.length_append]; simp; omega, by rw [← he, e2]; simp, rfl⟩
      · simp only [if_neg z, decide_eq_false z]
        rw [if_neg z] at e2
        refine ⟨_, by walk_at "le", s - lft s, by omega, way ++ [(s, false)], _, k' - lft s, rfl, by omega, by rw [List.length_append]; simp; omega, by rw [← he, e2]; simp, rfl⟩
    · refine ds_freeze 3 rfl rfl ?_
      walk_at "d"
      exact congrArg D.lst (fin (.inr (by omega)))
  · refine ds_freeze 3 rfl rfl ?_
    walk_at "d"
    exact congrArg D.lst (fin (.inl (by omega)))
def sp_way_inputs (K : PySem.W.Frag) : Sp := spG K (fun x : Int × List (Nat × Bool) × Bool × List Int × Int => [Hs K x.1, .lst (x.2.1.reverse.map stD), sqD x.2.2.1 x.2.2.2.1.reverse, .int x.2.2.2.2]) (fun x => 4 ≤ x.1 ∧ x.1 ≤ 128 ∧ x.2.1.length ≤ 1000 ∧ x.2.2.2.1.length = x.2.1.length ∧ (∀ y ∈ x.2.1, y.1 ≤ 1000) ∧ (∀ y ∈ x.2.2.2.1, Bd y) ∧ Bd x.2.2.2.2)
  fun x => .lst ((upN x.1 x.2.1 x.2.2.2.1 x.2.2.2.2 x.2.1.length).reverse.map inD)
theorem rev_at {α : Type} {xs : List α} {i : Nat} (h : i < xs.length) (d : α) : xs.reverse[xs.length - 1 - i]? = some (xs.getD i d) := by
  rw [List.getElem?_reverse (by omega)]
  rw [List.getD_eq_getElem?_getD, List.getElem?_eq_getElem h]
  rw [show xs.length - 1 - (xs.length - 1 - i) = i by omega, List.getElem?_eq_getElem h]
  rfl
theorem mem_getD {α : Type} {xs : List α} {i : Nat} (h : i < xs.length) (d : α) : xs.getD i d ∈ xs := by
  rw [List.getD_eq_getElem?_getD, List.getElem?_eq_getElem h]
  exact List.getElem_mem h
theorem ok_way_inputs (T : Txt K mg) : FnOk P w K mg base CX0 (3) (He.fAd K ("way_inputs", none)) T.fd_way_inputs ["hasher", "way", "beside", "end"] (sp_way_inputs K) := by
  refine T.way_inputs.F.ok sc_way_inputs (fun vs H Q E h => len_g h fun _ => rfl) (fun cdv A outer s H vs Q E hr h => ⟨_, PSs.nox (pss_cons (ps_set (i := 4) sc_way_inputs.nd rfl (Or.inl rfl) (pe_lst pa_nil))
  (pss_cons (ps_set (i := 5) sc_way_inputs.nd rfl (Or.inl rfl) (pv 3))
  (pss_cons (ps_for PassesOwn.never rfl (pi_revR (by rfl) T.z_reversed (prg_1 (by rfl) T.z_range (pe_callB (kq_len (K := K)) (by rfl) T.z_len (by decide +kernel) (pa_cons (pv 1) pa_nil)))) (pg_name (i := 6) sc_way_inputs.nd rfl (Or.inl rfl)) (pss_cons (ps_asg (pe_ix (kx_list (K := K)) (pv 1) (pv 6) (fun _ _ => rfl)) (kg_tup (K := K) (n := 2) rfl (pgs_cons (pg_name (i := 7) sc_way_inputs.nd rfl (Or.inl rfl)) (pgs_cons (pg_name (i := 8) sc_way_inputs.nd rfl (Or.inl rfl)) pgs_nil))))
  (pss_cons (ps_set (i := 9) sc_way_inputs.nd rfl (Or.inl rfl) (pe_ifExp (pt_val (pv 8)) (pe_tup (pa_cons (pv 7) (pa_cons (pv 5) (pa_cons (pe_ix (kx_seq (K := K)) (pv 2) (pv 6) (fun _ _ => rfl)) pa_nil)))) (pe_tup (pa_cons (pv 7) (pa_cons (pe_ix (kx_seq (K := K)) (pv 2) (pv 6) (fun _ _ => rfl)) (pa_cons (pv 5) pa_nil))))))
  (pss_cons (ps_expr (pe_bm PySem.F.plainAttrs_list PySem.F.slot_list_append PySem.F.type_list_append mt_append (pv 4) (pa_cons (pe_tup (pa_cons (pe_glob (v := .int 1) rfl T.c_NODE_TAG.choose_spec ⟨_, rfl⟩) (pa_cons (pv 9) pa_nil))) pa_nil)))
  (pss_one (ps_set (i := 5) sc_way_inputs.nd rfl (Or.inl rfl) (pe_meth (pv 0) T.cl_Hasher T.me_Hasher_digest (ok_Hasher_digest T) (hr.mono (by omega)) T.Hasher_digest.b .nil pass0 (pa_cons (pe_glob (v := .int 1) rfl T.c_NODE_TAG.choose_spec ⟨_, rfl⟩) (pa_cons (pv 9) pa_nil)))))))))
  (pss_one (ps_ret (pe_revS (K := K) (pv 4))))))), fn_g h fun x p => ?_⟩)
  change DS K _ (Wp.E.d _ :: (Wp.E.d _ :: (Wp.E.d _ :: (Wp.E.d _ :: (Wp.E.any :: (Wp.E.any :: (Wp.E.any :: (Wp.E.any :: (Wp.E.any :: (Wp.E.any :: [])))))))))) _ _ _ _
  obtain ⟨wd, W, b, P', e⟩ := x
  obtain ⟨w4, w128, hW, hl, hs, hb, he⟩ := p
  dsimp only at w4 w128 hW hl hs hb he ⊢
  walk_at "d"
  refine ds_forRev1 ?_
  walk_at "d"
  rw [List.length_reverse]
  refine ⟨by omega, by omega, fun i ρ => ρ = [.d (Hs K wd), .d (.lst (W.reverse.map stD)), .d (sqD b P'.reverse), .d (.int e), .own ((upN wd W P' e i).map inD), .d (.int (botN wd W P' e i)), .any, .any, .any, .any], ⟨_, by walk_at "le", rfl⟩, ?_, ?_⟩
  · rintro i ρ hi rfl
    rw [Int.toNat_natCast] at hi ⊢
    have ei : ((W.length : Int) - 1 - (i : Int)) = ((W.length - 1 - i : Nat) : Int) := by omega
    rw [ei]
    walk_at "d"
    refine ⟨_, atI_map (rev_at hi (0, true)), ?_⟩
    have hm := hs _ (mem_getD hi (0, true))
    have hp := hb _ (mem_getD (show i < P'.length by omega) 0)
    have hbt := bot_bd w4 w128 (W := W) (P := P') he i
    have ep : P'.reverse[W.length - 1 - i]? = some (P'.getD i 0) := by rw [← hl]; exact rev_at (by omega) 0
    have eu := upN_succ wd W P' e i
    have eb : botN wd W P' e (i + 1) = dgst wd 1 (numsN (botN wd W P' e i) (P'.getD i 0) (W.getD i (0, true))) := rfl
    generalize W.getD i (0, true) = st at hm eu eb ⊢
    generalize P'.getD i 0 = q at hp ep eu eb ⊢
    obtain ⟨s, l⟩ := st
    walk_at "d"
    have ea : atI (P'.reverse.map D.int) ((W.length - 1 - i : Nat) : Int) = some (.int q) := atI_map ep
    have fin : Wk (fun ρ => ρ = [.d (Hs K wd), .d (.lst (W.reverse.map stD)), .d (sqD b P'.reverse), .d (.int e), .own ((upN wd W P' e (i + 1)).map inD), .d (.int (botN wd W P' e (i + 1))), .any, .any, .any, .any]) [.d (Hs K wd), .d (.lst (W.reverse.map stD)), .d (sqD b P'.reverse), .d (.int e), .own ((upN wd W P' e i).map inD ++ [inD (1, numsN (botN wd W P' e i) q (s, l))]), .d (.int (dgst wd 1 (numsN (botN wd W P' e i) q (s, l)))), .d (.int ((W.length - 1 - i : Nat) : Int)), .d (.int (s : Int)), .d (.bl l), .d (tI (numsN (botN wd W P' e i) q (s, l)))] := by
      refine ⟨_, ?_, rfl⟩
      rw [eu, eb, List.map_append]
      walk_at "le"
    have hz : ((upN wd W P' e i).map inD).length < sizeLine := by rw [List.length_map, upN_len]; exact sz6' (by omega)
    have hn := nums_bd (s := s) (l := l) hm hbt hp
    cases b <;> cases l
    all_goals
      dsimp only [sqD] at fin ⊢
      walk_at "d"
      refine ⟨_, ea, ?_⟩
      walk_at "d"
      refine ⟨hz, ?_⟩
      walk_at "d"
    · exact dc_digest (numsN (botN wd W P' e i) q (s, false)) (.inr rfl) (by omega) w128 hn (dg_name rfl rfl fin)
    · exact dc_digest (numsN (botN wd W P' e i) q (s, true)) (.inr rfl) (by omega) w128 hn (dg_name rfl rfl fin)
    · exact dc_digest (numsN (botN wd W P' e i) q (s, false)) (.inr rfl) (by omega) w128 hn (dg_name rfl rfl fin)
    · exact dc_digest (numsN (botN wd W P' e i) q (s, true)) (.inr rfl) (by omega) w128 hn (dg_name rfl rfl fin)
  · rintro ρ rfl
    rw [Int.toNat_natCast]
    walk_at "d"
    refine de_revS ?_
    walk_at "d"
    refine .inr (.inl ⟨_, rfl, ?_⟩)
    walk_at "d"
    rw [List.map_reverse]
theorem stepsN_le : ∀ (n s k : Nat), s ≤ n → ∀ y ∈ stepsN s k, y.1 ≤ n
  | 0, s, k, h => by rw [stepsN_lt (by omega)]; simp
  | n + 1, s, k, h => by
    by_cases z : s < 2
    · rw [stepsN_lt z]; simp
    · rw [stepsN_ge z]
      have hlt := lft_lt (n := s) (by omega)
      have hlp := lft_pos s
      intro y hy
      split at hy
      · rcases List.mem_cons.mp hy with rfl | hy
        · exact h
        · have := stepsN_le n (lft s) k (by omega) y hy; omega
      · rcases List.mem_cons.mp hy with rfl | hy
        · exact h
        · have := stepsN_le n (s - lft s) (k - lft s) (by omega) y hy; omega
theorem stepsN_len : ∀ (n s k : Nat), s ≤ n → (stepsN s k).length ≤ n
  | 0, s, k, h => by rw [stepsN_lt (by omega)]; simp
  | n + 1, s, k, h => by
    by_cases z : s < 2
    · rw [stepsN_lt z]; simp
    · rw [stepsN_ge z]
      have hlt := lft_lt (n := s) (by omega)
      have hlp := lft_pos s
      split
      · have := stepsN_len n (lft s) k (by omega); simp; omega
      · have := stepsN_len n (s - lft s) (k - lft s) (by omega); simp; omega
/-- the inputs that an item's proof tells, from below -/
def tellN (wd : Int) (W : List (Nat × Bool)) (x : Int) (P : List Int) : List (Int × List Int) := (0, [x]) :: upN wd W.reverse P (dgst wd 0 [x]) W.length
def sp_item_inputs (K : PySem.W.Frag) : Sp := spG K (fun x : Int × List (Nat × Bool) × Int × Bool × List Int => [Hs K x.1, .lst (x.2.1.map stD), .int x.2.2.1, sqD x.2.2.2.1 x.2.2.2.2]) (fun x => 4 ≤ x.1 ∧ x.1 ≤ 128 ∧ x.2.1.length ≤ 1000 ∧ x.2.2.2.2.length = x.2.1.length ∧ (∀ y ∈ x.2.1, y.1 ≤ 1000) ∧ (∀ y ∈ x.2.2.2.2, Bd y) ∧ Bd x.2.2.1)
  fun x => .lst ((tellN x.1 x.2.1 x.2.2.1 x.2.2.2.2).reverse.map inD)
theorem ok_item_inputs (T : Txt K mg) : FnOk P w K mg base CX0 (4) (He.fAd K ("item_inputs", none)) T.fd_item_inputs ["hasher", "way", "item", "proof"] (sp_item_inputs K) := by
  refine T.item_inputs.F.ok sc_item_inputs (fun vs H Q E h => len_g h fun _ => rfl) (fun cdv A outer s H vs Q E hr h => ⟨_, PSs.nox (pss_cons (ps_set (i := 4) sc_item_inputs.nd rfl (Or.inl rfl) (pe_tup (pa_cons (pe_glob (v := .int 0) rfl T.c_LEAF_TAG.choose_spec ⟨_, rfl⟩) (pa_cons (pe_tup (pa_cons (pv 2) pa_nil)) pa_nil))))
  (pss_cons (ps_set (i := 5) sc_item_inputs.nd rfl (Or.inl rfl) (pe_meth (pv 0) T.cl_Hasher T.me_Hasher_digest (ok_Hasher_digest T) (hr.mono (by omega)) T.Hasher_digest.b .nil pass0 (pa_cons (pe_glob (v := .int 0) rfl T.c_LEAF_TAG.choose_spec ⟨_, rfl⟩) (pa_cons (pe_lst (pa_cons (pv 2) pa_nil)) pa_nil))))
  (pss_one (ps_ret (pe_lst (ka_star (K := K) (pe_call (ok_way_inputs T) (hr.mono (by omega)) (by rfl) T.way_inputs.g T.way_inputs.F.kp T.way_inputs.b .nil pass0 (pa_cons (pv 0) (pa_cons (pv 1) (pa_cons (pe_revS (K := K) (pv 3)) (pa_cons (pv 5) pa_nil))))) (pa_cons (pv 4) pa_nil))))))), fn_g h fun x p => ?_⟩)
  change DS K _ (Wp.E.d _ :: (Wp.E.d _ :: (Wp.E.d _ :: (Wp.E.d _ :: (Wp.E.any :: (Wp.E.any :: [])))))) _ _ _ _
  obtain ⟨wd, W, x, b, P'⟩ := x
  obtain ⟨w4, w128, hW, hl, hs, hb, hx⟩ := p
  dsimp only at w4 w128 hW hl hs hb hx ⊢
  have h1 : (limbs [x]).length ≤ 99000 := limbs_bd (by show 1 ≤ 120; decide) (by intro y hy; simp at hy; rw [hy]; exact hx)
  walk_at "d"
  refine dc_digest [x] (.inl rfl) (by omega) w128 h1 ?_
  walk_at "d"
  refine de_revS ?_
  walk_at "d"
  have hpre : 4 ≤ wd ∧ wd ≤ 128 ∧ W.reverse.length ≤ 1000 ∧ P'.length = W.reverse.length ∧ (∀ y ∈ W.reverse, y.1 ≤ 1000) ∧ (∀ y ∈ P', Bd y) ∧ Bd (dgst wd 0 [x]) :=
    ⟨w4, w128, by rw [List.length_reverse]; exact hW, by rw [List.length_reverse]; exact hl, fun y hy => hs y (List.mem_reverse.mp hy), hb, bd_dgst w4 w128 _ _⟩
  have hfin : (List.map inD (upN wd W.reverse P' (dgst wd 0 [x]) W.reverse.length).reverse ++ [D.tup [.int 0, .tup [.int x]]]) = (tellN wd W x P').reverse.map inD := by
    unfold tellN
    rw [List.length_reverse, List.reverse_cons, List.map_append]
    rfl
  have hsz : (List.map inD (upN wd W.reverse P' (dgst wd 0 [x]) W.reverse.length).reverse ++ [D.tup [.int 0, .tup [.int x]]]).length ≤ sizeLine := by
    rw [List.length_append, List.length_map, List.length_reverse, upN_len, List.length_reverse]
    exact sz6 (by simp; omega)
  cases b
  · dsimp only [sqD]
    refine .inl ⟨_, rfl, ?_⟩
    walk_at "d"
    refine dc_g (wd, W.reverse, false, P', dgst wd 0 [x]) (by simp [sqD]) hpre ?_
    walk_at "d"
    refine sz_ hsz ?_
    walk_at "d"
    rw [hfin]
  · dsimp only [sqD]
    refine .inr (.inr ⟨_, rfl, ?_⟩)
    walk_at "d"
    refine dc_g (wd, W.reverse, true, P', dgst wd 0 [x]) (by simp [sqD]) hpre ?_
    walk_at "d"
    refine sz_ hsz ?_
    walk_at "d"
    rw [hfin]
def topN (wd : Int) (W : List (Nat × Bool)) (x : Int) (P : List Int) : Int × List Int := (tellN wd W x P).getD W.length (0, [])
def listedN (wd root count k item : Int) (P : List Int) : Bool :=
  if 0 ≤ item ∧ 0 ≤ k ∧ k < count ∧ (stepsN count.toNat k.toNat).length = P.length ∧ P.all (isD wd) = true then
    decide (dgst wd (topN wd (stepsN count.toNat k.toNat) item P).1 (topN wd (stepsN count.toNat k.toNat) item P).2 = root) else false
theorem listedN_no {wd root count k item : Int} {P : List Int} (h : ¬ (0 ≤ item ∧ 0 ≤ k ∧ k < count ∧ (stepsN count.toNat k.toNat).length = P.length ∧ P.all (isD wd) = true)) : listedN wd root count k item P = false := by unfold listedN; rw [if_neg h]
theorem tellN_len (wd : Int) (W : List (Nat × Bool)) (x : Int) (P : List Int) : (tellN wd W x P).length = W.length + 1 := by unfold tellN; simp [upN_len]
theorem topN_at (wd : Int) (W : List (Nat × Bool)) (x : Int) (P : List Int) : (tellN wd W x P).reverse[0]? = some (topN wd W x P) := by
  have := rev_at (xs := tellN wd W x P) (i := W.length) (by rw [tellN_len]; omega) (0, [])
  rw [tellN_len, show W.length + 1 - 1 - W.length = 0 by omega] at this
  exact this
theorem bd_isD {wd n : Int} (h : wd ≤ 128) (z : isD wd n = true) : Bd n := by
  have := of_decide_eq_true z
  exact bd_rng this.1 this.2 (by omega)
theorem topN_bd {wd : Int} (h4 : 4 ≤ wd) (h : wd ≤ 128) {W : List (Nat × Bool)} {x : Int} {P : List Int} (hl : P.length = W.length) (hs : ∀ y ∈ W, y.1 ≤ 1000) (hb : ∀ y ∈ P, Bd y) (hx : Bd x) : (limbs (topN wd W x P).2).length ≤ 99000 := by
  have hm : topN wd W x P ∈ tellN wd W x P := mem_getD (by rw [tellN_len]; omega) _
  unfold tellN at hm
  rcases List.mem_cons.mp hm with e | hm
  · rw [e]; exact limbs_bd (by show 1 ≤ 120; decide) (by intro y hy; simp at hy; rw [hy]; exact hx)
  · unfold upN at hm
    obtain ⟨i, hi, e⟩ := List.mem_map.mp hm
    have hi' := List.mem_range.mp hi
    rw [← e]
    exact nums_bd (hs _ (List.mem_reverse.mp (mem_getD (by rw [List.length_reverse]; exact hi') _))) (bot_bd h4 h (bd_dgst h4 h _ _) i) (hb _ (mem_getD (by omega) _))

def sp_list_check (K : PySem.W.Frag) : Sp := spG K (fun x : Int × Int × Int × Int × Int × Bool × List Int => [Hs K x.1, .int x.2.1, .int x.2.2.1, .int x.2.2.2.1, .int x.2.2.2.2.1, sqD x.2.2.2.2.2.1 x.2.2.2.2.2.2]) (fun x => 4 ≤ x.1 ∧ x.1 ≤ 128 ∧ x.2.2.1 ≤ 999 ∧ x.2.2.2.2.2.2.length ≤ 999 ∧ Bd x.2.2.2.2.1)
  fun x => .bl (listedN x.1 x.2.1 x.2.2.1 x.2.2.2.1 x.2.2.2.2.1 x.2.2.2.2.2.2)
theorem ok_list_check (T : Txt K mg) : FnOk P w K mg base CX0 (5) (He.fAd K ("list_check", none)) T.fd_list_check ["hasher", "root", "count", "k", "item", "proof"] (sp_list_check K) := by
  refine T.list_check.F.ok sc_list_check (fun vs H Q E h => len_g h fun _ => rfl) (fun cdv A outer s H vs Q E hr h => ⟨_, PSs.nox (pss_cons (ps_if (PW.pt (pw_or (pt_cmpR (op_lt) (pv 4) pe_int (nomark _)) (pw_or1 (pt_not (pt_chain (op_le) (op_lt) pe_int (pv 3) (pv 2)))))) (pss_one (ps_ret pe_bl)) pss_nil)
  (pss_cons (ps_set (i := 6) sc_list_check.nd rfl (Or.inl rfl) (pe_call (ok_item_way T) (hr.mono (by omega)) (by rfl) T.item_way.g T.item_way.F.kp T.item_way.b .nil pass0 (pa_cons (pv 2) (pa_cons (pv 3) (pa_cons (pe_callB (kq_len (K := K)) (by rfl) T.z_len (by decide +kernel) (pa_cons (pv 5) pa_nil)) pa_nil)))))
  (pss_cons (ps_if (PW.pt (pw_or (pt_cmpR (op_ne) (pe_callB (kq_len (K := K)) (by rfl) T.z_len (by decide +kernel) (pa_cons (pv 6) pa_nil)) (pe_callB (kq_len (K := K)) (by rfl) T.z_len (by decide +kernel) (pa_cons (pv 5) pa_nil)) (nomark _)) (pw_or1 (pt_not (pt_val (pe_call (ok_are_digests T) (hr.mono (by omega)) (by rfl) T.are_digests.g T.are_digests.F.kp T.are_digests.b .nil pass0 (pa_cons (pv 0) (pa_cons (pv 5) pa_nil)))))))) (pss_one (ps_ret pe_bl)) pss_nil)
  (pss_cons (ps_asg (pe_ix (kx_list (K := K)) (pe_call (ok_item_inputs T) (hr.mono (by omega)) (by rfl) T.item_inputs.g T.item_inputs.F.kp T.item_inputs.b .nil pass0 (pa_cons (pv 0) (pa_cons (pv 6) (pa_cons (pv 4) (pa_cons (pv 5) pa_nil))))) pe_int (fun _ _ => rfl)) (kg_tup (K := K) (n := 2) rfl (pgs_cons (pg_name (i := 7) sc_list_check.nd rfl (Or.inl rfl)) (pgs_cons (pg_name (i := 8) sc_list_check.nd rfl (Or.inl rfl)) pgs_nil))))
  (pss_one (ps_ret (pe_cmpR (op_eq) (pe_meth (pv 0) T.cl_Hasher T.me_Hasher_digest (ok_Hasher_digest T) (hr.mono (by omega)) T.Hasher_digest.b .nil pass0 (pa_cons (pv 7) (pa_cons (pv 8) pa_nil))) (pv 1) (nomark _)))))))), fn_g h fun x p => ?_⟩)
  change DS K _ (Wp.E.d _ :: (Wp.E.d _ :: (Wp.E.d _ :: (Wp.E.d _ :: (Wp.E.d _ :: (Wp.E.d _ :: (Wp.E.any :: (Wp.E.any :: (Wp.E.any :: []))))))))) _ _ _ _
  obtain ⟨wd, root, c, k, x, b, P'⟩ := x
  obtain ⟨w4, w128, hc, hl, hx⟩ := p
  dsimp only at w4 w128 hc hl hx ⊢
  have no : ∀ h, _ := fun h => listedN_no (wd := wd) (root := root) (count := c) (k := k) (item := x) (P := P') h
  walk_at "d"
  refine ifd (fun h => ?_) (fun h => ?_)
  · walk_at "d"
    rw [no (by omega)]
  walk_at "d"
  refine ifd (fun hk => ?_) (fun hk => ?_)
  case refine_2 =>
    walk_at "d"
    rw [no (by omega)]
  walk_at "d"
  cases hkc : decide (k < c)
  · walk_at "d"
    have := of_decide_eq_false hkc
    rw [no (by omega)]
  have hkc' := of_decide_eq_true hkc
  walk_at "d"
  obtain ⟨c, rfl⟩ := Int.eq_ofNat_of_zero_le (show 0 ≤ c by omega)
  obtain ⟨k, rfl⟩ := Int.eq_ofNat_of_zero_le (show 0 ≤ k by omega)
  simp only [Int.toNat_natCast] at no
  have hW1 := stepsN_le 999 c k (by omega)
  have hW2 := stepsN_len 999 c k (by omega)
  have hcond : ∀ {W : List (Nat × Bool)}, W = (stepsN c k).take (P'.length + 1) → (W.length = P'.length ↔ (stepsN c k).length = P'.length) := fun {W} e => by rw [e, List.length_take]; omega
  have htake : (stepsN c k).length = P'.length → (stepsN c k).take (P'.length + 1) = stepsN c k := fun e => List.take_of_length_le (by omega)
  have hpre : (stepsN c k).length = P'.length → P'.all (isD wd) = true → 4 ≤ wd ∧ wd ≤ 128 ∧ (stepsN c k).length ≤ 1000 ∧ P'.length = (stepsN c k).length ∧ (∀ y ∈ stepsN c k, y.1 ≤ 1000) ∧ (∀ y ∈ P', Bd y) ∧ Bd x := fun e2 e3 =>
    ⟨w4, w128, by omega, e2.symm, fun y hy => Nat.le_trans (hW1 y hy) (by decide), fun y hy => bd_isD w128 (List.all_eq_true.mp e3 y hy), hx⟩
  refine db_lenSq ?_
  walk_at "d"
  refine dc_g (c, k, P'.length) rfl ⟨by show c ≤ 1000; omega, by show P'.length ≤ 1000; omega⟩ ?_
  walk_at "d"
  refine db_lenSq ?_
  walk_at "d"
  refine ifn (fun hne => ?_) (fun heq => ?_)
  · walk_at "d"
    rw [no (fun z => hne (by have := (hcond rfl).mpr z.2.2.2.1; omega))]
  have e2 := (hcond rfl).mp (by omega)
  rw [htake e2]
  walk_at "d"
  refine dc_g (wd, b, P') rfl ⟨w4, w128, by show P'.length ≤ 10000; omega⟩ ?_
  walk_at "d"
  cases ha : P'.all (isD wd)
  · walk_at "d"
    rw [no (fun z => by rw [ha] at z; exact absurd z.2.2.2.2 (by decide))]
  walk_at "d"
  refine dc_g (wd, stepsN c k, x, b, P') rfl (hpre e2 ha) ?_
  walk_at "d"
  refine ⟨_, atI_map (k := 0) (topN_at wd (stepsN c k) x P'), ?_⟩
  walk_at "d"
  refine dc_digest (topN wd (stepsN c k) x P').2 (.inr rfl) (by omega) w128 (topN_bd w4 w128 (hpre e2 ha).2.2.2.1 (hpre e2 ha).2.2.2.2.1 (hpre e2 ha).2.2.2.2.2.1 hx) ?_
  walk_at "d"
  unfold listedN
  rw [Int.toNat_natCast, Int.toNat_natCast, if_pos ⟨by omega, hk, hkc', e2, ha⟩]

/-! ### the law's lists -/
def sp__law_part (K : PySem.W.Frag) : Sp := spG K (fun n : Nat => [.int (n : Int)]) (fun n => 2 ≤ n ∧ n ≤ 1000) fun n => .int (lft n)
theorem ok__law_part (T : Txt K mg) : FnOk P w K mg base CX0 (1) (He.fAd K ("_law_part", none)) T.fd__law_part ["size"] (sp__law_part K) := by
  refine T._law_part.F.ok sc__law_part (fun vs H Q E h => len_g h fun _ => rfl) (fun cdv A outer s H vs Q E hr h => ⟨_, PSs.nox (pss_cons (ps_set (i := 1) sc__law_part.nd rfl (Or.inl rfl) pe_int)
  (pss_cons (ps_while PassesOwn.never (pt_cmpR (op_lt) (pe_op op_mul pe_int (pv 1)) (pv 0) (nomark _)) (pss_one (ps_set (i := 1) sc__law_part.nd rfl (Or.inl rfl) (pe_op op_mul pe_int (pv 1)))))
  (pss_one (ps_ret (pv 1))))), fn_g h fun x p => ?_⟩)
  change DS K _ (Wp.E.d _ :: (Wp.E.any :: [])) _ _ _ _
  obtain ⟨h1, h2⟩ := p
  walk_at "d"
  refine ds_while (fun v ρ => ∃ j : Nat, v = x - 2 ^ j ∧ 2 ^ j < x ∧ ρ = [.d (.int (x : Int)), .d (.int ((2 ^ j : Nat) : Int))]) (x - 1) ⟨_, by walk_at "le", 0, rfl, by omega, rfl⟩ ?_
  rintro v ρ ⟨j, rfl, hj, rfl⟩
  walk_at "d"
  refine ifd (fun h => ?_) (fun h => ?_)
  · walk_at "d"
    have hp := Nat.pow_pos (a := 2) (n := j) (by decide)
    rw [show (2 : Int) * ((2 ^ j : Nat) : Int) = ((2 ^ (j + 1) : Nat) : Int) by rw [Nat.pow_succ]; omega]
    exact ⟨_, by walk_at "le", x - 2 ^ (j + 1), by rw [Nat.pow_succ]; omega, j + 1, rfl, by rw [Nat.pow_succ]; omega, rfl⟩
  · walk_at "d"
    rw [lft_uniq hj (by omega)]
def sp_wr (K : PySem.W.Frag) (n : Nat) : Sp := spG K (fun x : Int × List Int => [.int x.1, lI x.2]) (fun x => 4 ≤ x.1 ∧ x.1 ≤ 128 ∧ x.2.length < n ∧ x.2.length ≤ 100 ∧ ∀ y ∈ x.2, Itm y) fun x => .int (rootN x.1 x.2)
theorem ok_wr_step (T : Txt K mg) (n : Nat) (IH : FnOk P w K mg base CX0 (6 + n) (He.fAd K ("_law_root", none)) T.fd__law_root ["width", "items"] (sp_wr K n)) : FnOk P w K mg base CX0 (6 + n + 1) (He.fAd K ("_law_root", none)) T.fd__law_root ["width", "items"] (sp_wr K (n + 1)) := by
  refine T._law_root.F.ok sc__law_root (fun vs H Q E h => len_g h fun _ => rfl) (fun cdv A outer s H vs Q E hr h => ⟨_, PSs.nox (pss_cons (ps_if (pt_cmpR (op_lt) (pe_callB (kq_len (K := K)) (by rfl) T.z_len (by decide +kernel) (pa_cons (pv 1) pa_nil)) pe_int (nomark _)) (pss_one (ps_ret (pe_call (ok__law_digest T) (hr.mono (by omega)) (by rfl) T._law_digest.g T._law_digest.F.kp T._law_digest.b .nil pass0 (pa_cons (pv 0) (pa_cons pe_int (pa_cons (pv 1) pa_nil)))))) pss_nil)
  (pss_cons (ps_set (i := 2) sc__law_root.nd rfl (Or.inl rfl) (pe_call (ok__law_part T) (hr.mono (by omega)) (by rfl) T._law_part.g T._law_part.F.kp T._law_part.b .nil pass0 (pa_cons (pe_callB (kq_len (K := K)) (by rfl) T.z_len (by decide +kernel) (pa_cons (pv 1) pa_nil)) pa_nil)))
  (pss_one (ps_ret (pe_call (ok__law_digest T) (hr.mono (by omega)) (by rfl) T._law_digest.g T._law_digest.F.kp T._law_digest.b .nil pass0 (pa_cons (pv 0) (pa_cons pe_int (pa_cons (pe_lst (pa_cons (pe_callB (kq_len (K := K)) (by rfl) T.z_len (by decide +kernel) (pa_cons (pv 1) pa_nil)) (pa_cons (pe_call IH (hr.mono (by omega)) (by rfl) T._law_root.g T._law_root.F.kp T._law_root.b .nil pass0 (pa_cons (pv 0) (pa_cons (pe_slice (kl_list (K := K)) (pv 1) po_none (po_some (pv 2))) pa_nil))) (pa_cons (pe_call IH (hr.mono (by omega)) (by rfl) T._law_root.g T._law_root.F.kp T._law_root.b .nil pass0 (pa_cons (pv 0) (pa_cons (pe_slice (kl_list (K := K)) (pv 1) (po_some (pv 2)) po_none) pa_nil))) pa_nil)))) pa_nil)))))))), fn_g h fun x p => ?_⟩)
  change DS K _ (Wp.E.d _ :: (Wp.E.d _ :: (Wp.E.any :: []))) _ _ _ _
  obtain ⟨wd, xs⟩ := x
  obtain ⟨w4, w128, hn, hl, hi⟩ := p
  dsimp only at w4 w128 hn hl hi ⊢
  walk_at "d"
  refine ifd (fun h => ?_) (fun h => ?_)
  · walk_at "d"
    refine dc_lawdig xs (.inl rfl) w4 w128 (fun n hn => (hi n hn).1) (itms_bd (by omega) hi) ?_
    walk_at "d"
    rw [rootN_lt (by omega)]
  · walk_at "d"
    have h2 : 2 ≤ xs.length := by omega
    have hlt := lft_lt h2
    have hlp := lft_pos xs.length
    have h3 := itms3 (itm_nat (n := xs.length) (by omega)) (itm_root w4 w128 (xs.take (lft xs.length))) (itm_root w4 w128 (xs.drop (lft xs.length)))
    refine dc_g xs.length rfl ⟨h2, by omega⟩ ?_
    walk_at "d"
    rw [cut_to (by omega)]
    refine dc_g (wd, xs.take (lft xs.length)) rfl ⟨w4, w128, by rw [List.length_take]; omega, by rw [List.length_take]; omega, itms_take hi⟩ ?_
    walk_at "d"
    rw [cut_from (by omega)]
    refine dc_g (wd, xs.drop (lft xs.length)) rfl ⟨w4, w128, by rw [List.length_drop]; omega, by rw [List.length_drop]; omega, itms_drop hi⟩ ?_
    walk_at "d"
    refine dc_lawdig [(xs.length : Int), rootN wd (xs.take (lft xs.length)), rootN wd (xs.drop (lft xs.length))] (.inl rfl) w4 w128 (fun n hn => (h3 n hn).1) (itms_bd (by show 3 ≤ 120; decide) h3) ?_
    walk_at "d"
    rw [← rootN_ge (by omega)]
theorem ok_wr (T : Txt K mg) : ∀ n : Nat, FnOk P w K mg base CX0 (6 + n) (He.fAd K ("_law_root", none)) T.fd__law_root ["width", "items"] (sp_wr K n)
  | 0 => ok_void fun x p => absurd p.2.2.1 (Nat.not_lt_zero _)
  | n + 1 => ok_wr_step T n (ok_wr T n)
def sp__law_root (K : PySem.W.Frag) : Sp := sp_wr K 34
theorem ok__law_root (T : Txt K mg) : FnOk P w K mg base CX0 (40) (He.fAd K ("_law_root", none)) T.fd__law_root ["width", "items"] (sp__law_root K) := ok_wr T 34
def sp_wp (K : PySem.W.Frag) (n : Nat) : Sp := spG K (fun x : Int × List Int × Nat => [.int x.1, lI x.2.1, .int (x.2.2 : Int)]) (fun x => 4 ≤ x.1 ∧ x.1 ≤ 128 ∧ x.2.1.length < n ∧ x.2.1.length ≤ 33 ∧ ∀ y ∈ x.2.1, Itm y) fun x => lI (wayN x.1 x.2.1 x.2.2)
theorem ok_wp_step (T : Txt K mg) (n : Nat) (IH : FnOk P w K mg base CX0 (41 + n) (He.fAd K ("_law_way", none)) T.fd__law_way ["width", "items", "k"] (sp_wp K n)) : FnOk P w K mg base CX0 (41 + n + 1) (He.fAd K ("_law_way", none)) T.fd__law_way ["width", "items", "k"] (sp_wp K (n + 1)) := by
  refine T._law_way.F.ok sc__law_way (fun vs H Q E h => len_g h fun _ => rfl) (fun cdv A outer s H vs Q E hr h => ⟨_, PSs.nox (pss_cons (ps_if (pt_cmpR (op_lt) (pe_callB (kq_len (K := K)) (by rfl) T.z_len (by decide +kernel) (pa_cons (pv 1) pa_nil)) pe_int (nomark _)) (pss_one (ps_ret (pe_lst pa_nil))) pss_nil)
  (pss_cons (ps_set (i := 3) sc__law_way.nd rfl (Or.inl rfl) (pe_call (ok__law_part T) (hr.mono (by omega)) (by rfl) T._law_part.g T._law_part.F.kp T._law_part.b .nil pass0 (pa_cons (pe_callB (kq_len (K := K)) (by rfl) T.z_len (by decide +kernel) (pa_cons (pv 1) pa_nil)) pa_nil)))
  (pss_cons (ps_if (pt_cmpR (op_lt) (pv 2) (pv 3) (nomark _)) (pss_one (ps_ret (pe_op op_cat (pe_call IH (hr.mono (by omega)) (by rfl) T._law_way.g T._law_way.F.kp T._law_way.b .nil pass0 (pa_cons (pv 0) (pa_cons (pe_slice (kl_list (K := K)) (pv 1) po_none (po_some (pv 3))) (pa_cons (pv 2) pa_nil)))) (pe_lst (pa_cons (pe_call (ok__law_root T) (hr.mono (by omega)) (by rfl) T._law_root.g T._law_root.F.kp T._law_root.b .nil pass0 (pa_cons (pv 0) (pa_cons (pe_slice (kl_list (K := K)) (pv 1) (po_some (pv 3)) po_none) pa_nil))) pa_nil))))) pss_nil)
  (pss_one (ps_ret (pe_op op_cat (pe_call IH (hr.mono (by omega)) (by rfl) T._law_way.g T._law_way.F.kp T._law_way.b .nil pass0 (pa_cons (pv 0) (pa_cons (pe_slice (kl_list (K := K)) (pv 1) (po_some (pv 3)) po_none) (pa_cons (pe_op op_sub (pv 2) (pv 3)) pa_nil)))) (pe_lst (pa_cons (pe_call (ok__law_root T) (hr.mono (by omega)) (by rfl) T._law_root.g T._law_root.F.kp T._law_root.b .nil pass0 (pa_cons (pv 0) (pa_cons (pe_slice (kl_list (K := K)) (pv 1) po_none (po_some (pv 3))) pa_nil))) pa_nil)))))))), fn_g h fun x p => ?_⟩)
  change DS K _ (Wp.E.d _ :: (Wp.E.d _ :: (Wp.E.d _ :: (Wp.E.any :: [])))) _ _ _ _
  obtain ⟨wd, xs, k⟩ := x
  obtain ⟨w4, w128, hn, hl, hi⟩ := p
  dsimp only at w4 w128 hn hl hi ⊢
  walk_at "d"
  refine ifd (fun h => ?_) (fun h => ?_)
  · walk_at "d"
    rw [wayN_lt (by omega)]
    rfl
  · walk_at "d"
    have h2 : 2 ≤ xs.length := by omega
    have hlt := lft_lt h2
    have hlp := lft_pos xs.length
    refine dc_g xs.length rfl ⟨h2, by omega⟩ ?_
    walk_at "d"
    have wl := wayN_len (wd := wd) 33
    refine ifd (fun hk => ?_) (fun hk => ?_)
    · walk_at "d"
      rw [cut_to (by omega)]
      refine dc_g (wd, xs.take (lft xs.length), k) rfl ⟨w4, w128, by rw [List.length_take]; omega, by rw [List.length_take]; omega, itms_take hi⟩ ?_
      walk_at "d"
      rw [cut_from (by omega)]
      refine dc_g (wd, xs.drop (lft xs.length)) rfl ⟨w4, w128, by rw [List.length_drop]; omega, by rw [List.length_drop]; omega, itms_drop hi⟩ ?_
      walk_at "d"
      have := wl (xs.take (lft xs.length)) k (by rw [List.length_take]; omega)
      refine dr_cat (by rw [List.length_map]; exact sz6 (by simp; omega)) ?_
      walk_at "d"
      rw [wayN_ge (xs := xs) (k := k) (by omega), if_pos (by omega)]
      simp
    · walk_at "d"
      rw [cut_from (by omega), show (k : Int) - (lft xs.length : Int) = ((k - lft xs.length : Nat) : Int) by omega]
      refine dc_g (wd, xs.drop (lft xs.length), k - lft xs.length) rfl ⟨w4, w128, by rw [List.length_drop]; omega, by rw [List.length_drop]; omega, itms_drop hi⟩ ?_
      walk_at "d"
      rw [cut_to (by omega)]
      refine dc_g (wd, xs.take (lft xs.length)) rfl ⟨w4, w128, by rw [List.length_take]; omega, by rw [List.length_take]; omega, itms_take hi⟩ ?_
      walk_at "d"
      have := wl (xs.drop (lft xs.length)) (k - lft xs.length) (by rw [List.length_drop]; omega)
      refine dr_cat (by rw [List.length_map]; exact sz6 (by simp; omega)) ?_
      walk_at "d"
      rw [wayN_ge (xs := xs) (k := k) (by omega), if_neg (by omega)]
      simp
theorem ok_wp (T : Txt K mg) : ∀ n : Nat, FnOk P w K mg base CX0 (41 + n) (He.fAd K ("_law_way", none)) T.fd__law_way ["width", "items", "k"] (sp_wp K n)
  | 0 => ok_void fun x p => absurd p.2.2.1 (Nat.not_lt_zero _)
  | n + 1 => ok_wp_step T n (ok_wp T n)
def sp__law_way (K : PySem.W.Frag) : Sp := sp_wp K 34
theorem ok__law_way (T : Txt K mg) : FnOk P w K mg base CX0 (80) (He.fAd K ("_law_way", none)) T.fd__law_way ["width", "items", "k"] (sp__law_way K) := (ok_wp T 34).mono (by omega)
def sp__law_steps (K : PySem.W.Frag) : Sp := spG K (fun x : Nat × Nat => [.int (x.1 : Int), .int (x.2 : Int)]) (fun x => x.1 ≤ 1000) fun x => .lst ((stepsN x.1 x.2).map stD)
theorem ok__law_steps (T : Txt K mg) : FnOk P w K mg base CX0 (2) (He.fAd K ("_law_steps", none)) T.fd__law_steps ["count", "k"] (sp__law_steps K) := by
  refine T._law_steps.F.ok sc__law_steps (fun vs H Q E h => len_g h fun _ => rfl) (fun cdv A outer s H vs Q E hr h => ⟨_, PSs.nox (pss_cons (ps_set (i := 2) sc__law_steps.nd rfl (Or.inl rfl) (pe_lst pa_nil))
  (pss_cons (ps_while PassesOwn.never (pt_cmpR (op_gt) (pv 0) pe_int (nomark _)) (pss_cons (ps_set (i := 3) sc__law_steps.nd rfl (Or.inl rfl) (pe_call (ok__law_part T) (hr.mono (by omega)) (by rfl) T._law_part.g T._law_part.F.kp T._law_part.b .nil pass0 (pa_cons (pv 0) pa_nil)))
  (pss_cons (ps_expr (pe_bm PySem.F.plainAttrs_list PySem.F.slot_list_append PySem.F.type_list_append mt_append (pv 2) (pa_cons (pe_tup (pa_cons (pv 0) (pa_cons (pe_cmpR (op_lt) (pv 1) (pv 3) (nomark _)) pa_nil))) pa_nil)))
  (pss_one (ps_if (pt_cmpR (op_lt) (pv 1) (pv 3) (nomark _)) (pss_one (ps_set (i := 0) sc__law_steps.nd rfl (Or.inl rfl) (pv 3))) (pss_cons (ps_set (i := 1) sc__law_steps.nd rfl (Or.inl rfl) (pe_op op_sub (pv 1) (pv 3)))
  (pss_one (ps_set (i := 0) sc__law_steps.nd rfl (Or.inl rfl) (pe_op op_sub (pv 0) (pv 3))))))))))
  (pss_one (ps_ret (pv 2))))), fn_g h fun x p => ?_⟩)
  change DS K _ (Wp.E.d _ :: (Wp.E.d _ :: (Wp.E.any :: (Wp.E.any :: [])))) _ _ _ _
  obtain ⟨c, k⟩ := x
  replace p : c ≤ 1000 := p
  dsimp only
  walk_at "d"
  refine ds_while (fun v ρ => ∃ (way : List (Nat × Bool)) (k' : Nat), v ≤ c ∧ way.length + v ≤ c ∧ way ++ stepsN v k' = stepsN c k ∧ ρ = [.d (.int (v : Int)), .d (.int (k' : Int)), .own (way.map stD), .any]) c ⟨_, by walk_at "le", [], k, Nat.le_refl _, by simp, rfl, rfl⟩ ?_
  rintro s ρ ⟨way, k', hs, hw, he, rfl⟩
  walk_at "d"
  refine ifd (fun h => ?_) (fun h => ?_)
  · walk_at "d"
    have h2 : 2 ≤ s := by omega
    have hlt := lft_lt h2
    have hlp := lft_pos s
    have e2 := stepsN_ge (s := s) (k := k') (by omega)
    refine dc_g s rfl ⟨h2, by omega⟩ ?_
    walk_at "d"
    refine ⟨by rw [List.length_map]; exact sz6' (by omega), ?_⟩
    walk_at "d"
    refine ifd (fun z => ?_) (fun z => ?_)
    · rw [decide_eq_true (show (k' : Int) < (lft s : Int) from z)]
      rw [if_pos (by omega)] at e2
      walk_at "d"
      refine ⟨_, by walk_at "le", lft s, by omega, way ++ [(s, true)], k', by omega, by rw [List.length_append]; simp; omega, by rw [← he, e2]; simp, rfl⟩
    · rw [decide_eq_false (show ¬ (k' : Int) < (lft s : Int) from z)]
      rw [if_neg (by omega)] at e2
      walk_at "d"
      rw [show (k' : Int) - (lft s : Int) = ((k' - lft s : Nat) : Int) by omega, show (s : Int) - (lft s : Int) = ((s - lft s : Nat) : Int) by omega]
      refine ⟨_, by walk_at "le", s - lft s, by omega, way ++ [(s, false)], k' - lft s, by omega, by rw [List.length_append]; simp; omega, by rw [← he, e2]; simp, rfl⟩
  · refine ds_freeze 2 rfl rfl ?_
    walk_at "d"
    rw [← he, stepsN_lt (by omega), List.append_nil]

/-! ### what a proof tells, by the law -/
theorem found_at {wd x : Int} {V : List (Nat × Bool)} {P : List Int} : ∀ j : Nat, ∃ f : Int × List Int, ((0, [x]) :: upN wd V P (dgst wd 0 [x]) j)[j]? = some f ∧ dgst wd f.1 f.2 = botN wd V P (dgst wd 0 [x]) j ∧ (f = (0, [x]) ∨ ∃ i, i < j ∧ f = (1, numsN (botN wd V P (dgst wd 0 [x]) i) (P.getD i 0) (V.getD i (0, true))))
  | 0 => ⟨(0, [x]), rfl, (by rw [botN]), .inl rfl⟩
  | j + 1 => ⟨(1, numsN (botN wd V P (dgst wd 0 [x]) j) (P.getD j 0) (V.getD j (0, true))), by rw [List.getElem?_cons_succ, upN_succ, List.getElem?_append_right (by rw [upN_len]; exact Nat.le_refl _), upN_len, Nat.sub_self]; rfl, (by rw [botN]), .inr ⟨j, Nat.lt_succ_self _, rfl⟩⟩
theorem bot_itm {wd : Int} (h4 : 4 ≤ wd) (h : wd ≤ 128) {W : List (Nat × Bool)} {P : List Int} {e : Int} (he : Itm e) : ∀ i, Itm (botN wd W P e i)
  | 0 => he
  | i + 1 => ⟨(dgst_rng h4 h _ _).1, bd_dgst h4 h _ _⟩
theorem nums_itm {s : Nat} {b p : Int} {l : Bool} (hs : s ≤ 1000) (hb : Itm b) (hp : Itm p) : ∀ n ∈ numsN b p (s, l), Itm n := by
  have h3 : Itm (s : Int) := itm_nat (by omega)
  unfold numsN
  cases l
  all_goals
    intro n hn
    simp at hn
    rcases hn with rfl | rfl | rfl <;> assumption
def sp__law_inputs (K : PySem.W.Frag) : Sp := spG K (fun x : Int × Nat × Nat × Int × List Int => [.int x.1, .int (x.2.1 : Int), .int (x.2.2.1 : Int), .int x.2.2.2.1, lI x.2.2.2.2]) (fun x => 4 ≤ x.1 ∧ x.1 ≤ 128 ∧ x.2.1 ≤ 999 ∧ (stepsN x.2.1 x.2.2.1).length = x.2.2.2.2.length ∧ (∀ y ∈ x.2.2.2.2, Itm y) ∧ Itm x.2.2.2.1)
  fun x => .lst ((tellN x.1 (stepsN x.2.1 x.2.2.1) x.2.2.2.1 x.2.2.2.2).map inD)
theorem ok__law_inputs (T : Txt K mg) : FnOk P w K mg base CX0 (3) (He.fAd K ("_law_inputs", none)) T.fd__law_inputs ["width", "count", "k", "item", "proof"] (sp__law_inputs K) := by
  refine T._law_inputs.F.ok sc__law_inputs (fun vs H Q E h => len_g h fun _ => rfl) (fun cdv A outer s H vs Q E hr h => ⟨_, PSs.nox (pss_cons (ps_set (i := 5) sc__law_inputs.nd rfl (Or.inl rfl) (pe_lst (pa_cons (pe_tup (pa_cons pe_int (pa_cons (pe_tup (pa_cons (pv 3) pa_nil)) pa_nil))) pa_nil)))
  (pss_cons (ps_set (i := 6) sc__law_inputs.nd rfl (Or.inl rfl) (pe_call (ok__law_steps T) (hr.mono (by omega)) (by rfl) T._law_steps.g T._law_steps.F.kp T._law_steps.b .nil pass0 (pa_cons (pv 1) (pa_cons (pv 2) pa_nil))))
  (pss_cons (ps_for PassesOwn.never rfl (pi_range1 rfl T.z_range (pa_cons (pe_callB (kq_len (K := K)) (by rfl) T.z_len (by decide +kernel) (pa_cons (pv 6) pa_nil)) pa_nil)) (pg_name (i := 7) sc__law_inputs.nd rfl (Or.inl rfl)) (pss_cons (ps_asg (pe_ix (kx_list (K := K)) (pv 6) (pe_op op_sub (pe_op op_sub (pe_callB (kq_len (K := K)) (by rfl) T.z_len (by decide +kernel) (pa_cons (pv 6) pa_nil)) pe_int) (pv 7)) (fun _ _ => rfl)) (kg_tup (K := K) (n := 2) rfl (pgs_cons (pg_name (i := 8) sc__law_inputs.nd rfl (Or.inl rfl)) (pgs_cons (pg_name (i := 9) sc__law_inputs.nd rfl (Or.inl rfl)) pgs_nil))))
  (pss_cons (ps_set (i := 10) sc__law_inputs.nd rfl (Or.inl rfl) (pe_call (ok__law_digest T) (hr.mono (by omega)) (by rfl) T._law_digest.g T._law_digest.F.kp T._law_digest.b .nil pass0 (pa_cons (pv 0) (pa_cons (pe_ix (kx_tup (K := K)) (pe_ix (kx_list (K := K)) (pv 5) (pv 7) (fun _ _ => rfl)) pe_int (fun _ _ => rfl)) (pa_cons (pe_ix (kx_tup (K := K)) (pe_ix (kx_list (K := K)) (pv 5) (pv 7) (fun _ _ => rfl)) pe_int (fun _ _ => rfl)) pa_nil)))))
  (pss_one (ps_expr (pe_bm PySem.F.plainAttrs_list PySem.F.slot_list_append PySem.F.type_list_append mt_append (pv 5) (pa_cons (pe_tup (pa_cons pe_int (pa_cons (pe_ix (kx_list (K := K)) (pe_lst (pa_cons (pe_tup (pa_cons (pv 8) (pa_cons (pe_ix (kx_list (K := K)) (pv 4) (pv 7) (fun _ _ => rfl)) (pa_cons (pv 10) pa_nil)))) (pa_cons (pe_tup (pa_cons (pv 8) (pa_cons (pv 10) (pa_cons (pe_ix (kx_list (K := K)) (pv 4) (pv 7) (fun _ _ => rfl)) pa_nil)))) pa_nil))) (pe_callTy cq_int (by rfl) T.z_int (by decide +kernel) (pa_cons (pv 9) pa_nil)) (fun _ _ => rfl)) pa_nil))) pa_nil)))))))
  (pss_one (ps_ret (pv 5)))))), fn_g h fun x p => ?_⟩)
  change DS K _ (Wp.E.d _ :: (Wp.E.d _ :: (Wp.E.d _ :: (Wp.E.d _ :: (Wp.E.d _ :: (Wp.E.any :: (Wp.E.any :: (Wp.E.any :: (Wp.E.any :: (Wp.E.any :: (Wp.E.any :: []))))))))))) _ _ _ _
  obtain ⟨wd, c, k, x, P'⟩ := x
  obtain ⟨w4, w128, hc, hl, hb, hx⟩ := p
  dsimp only at w4 w128 hc hl hb hx ⊢
  have hW1 := stepsN_le 999 c k (by omega)
  have hW2 := stepsN_len 999 c k (by omega)
  walk_at "d"
  refine dc_g (c, k) rfl (by show c ≤ 1000; omega) ?_
  walk_at "d"
  generalize stepsN c k = W at *
  refine ds_forR1 ?_
  walk_at "d"
  refine ⟨_, rfl, by omega, by omega, fun j ρ => ρ = [.d (.int wd), .d (.int (c : Int)), .d (.int (k : Int)), .d (.int x), .d (lI P'), .own (((0, [x]) :: upN wd W.reverse P' (dgst wd 0 [x]) j).map inD), .d (.lst (W.map stD)), .any, .any, .any, .any], ⟨_, by walk_at "le", rfl⟩, ?_, ?_⟩
  · rintro j ρ hj rfl
    have hj' : j < W.length := by omega
    walk_at "d"
    have ej : ((W.length : Int) - 1 - (j : Int)) = ((W.length - 1 - j : Nat) : Int) := by omega
    rw [ej]
    have hst : W[W.length - 1 - j]? = some (W.reverse.getD j (0, true)) := by
      have := rev_at (xs := W.reverse) (i := j) (by rw [List.length_reverse]; exact hj') (0, true)
      rw [List.reverse_reverse, List.length_reverse] at this
      exact this
    have hm := hW1 _ (List.mem_of_getElem? hst)
    obtain ⟨f, hf1, hf2, hf3⟩ := found_at (wd := wd) (x := x) (V := W.reverse) (P := P') j
    have he : Itm (dgst wd 0 [x]) := ⟨(dgst_rng w4 w128 _ _).1, bd_dgst w4 w128 _ _⟩
    have hbt := bot_itm w4 w128 (W := W.reverse) (P := P') he
    have hfi : (∀ n ∈ f.2, Itm n) ∧ f.2.length ≤ 120 := by
      rcases hf3 with rfl | ⟨i, hi, rfl⟩
      · exact ⟨by intro n hn; simp at hn; rw [hn]; exact hx, by simp⟩
      · have hmi := hW1 _ (List.mem_reverse.mp (mem_getD (xs := W.reverse) (i := i) (by rw [List.length_reverse]; omega) (0, true)))
        exact ⟨nums_itm (by exact Nat.le_trans hmi (by decide)) (hbt i) (hb _ (mem_getD (by omega) 0)), by unfold numsN; split <;> simp⟩
    refine ⟨_, atI_map hst, ?_⟩
    have eu := upN_succ wd W.reverse P' (dgst wd 0 [x]) j
    generalize W.reverse.getD j (0, true) = st at hst hm eu ⊢
    obtain ⟨s, l⟩ := st
    walk_at "d"
    refine ⟨_, atI_map hf1, ?_⟩
    walk_at "d"
    refine ⟨_, rfl, ?_⟩
    walk_at "d"
    refine ⟨_, atI_map hf1, ?_⟩
    walk_at "d"
    refine ⟨_, rfl, ?_⟩
    walk_at "d"
    refine dc_lawdig f.2 (.inr rfl) w4 w128 (fun n hn => (hfi.1 n hn).1) (itms_bd hfi.2 hfi.1) ?_
    rw [hf2]
    have hpj : P'[j]? = some (P'.getD j 0) := by rw [List.getD_eq_getElem?_getD, List.getElem?_eq_getElem (show j < P'.length by omega)]; rfl
    generalize P'.getD j 0 = q at hpj eu ⊢
    walk_at "d"
    refine ⟨_, atI_map hpj, ?_⟩
    walk_at "d"
    refine ⟨_, atI_map hpj, ?_⟩
    walk_at "d"
    have hz : (((0, [x]) :: upN wd W.reverse P' (dgst wd 0 [x]) j).map inD).length < sizeLine := by rw [List.length_map, List.length_cons, upN_len]; exact sz6' (by omega)
    have fin : Wk (fun ρ => ρ = [.d (.int wd), .d (.int (c : Int)), .d (.int (k : Int)), .d (.int x), .d (lI P'), .own (((0, [x]) :: upN wd W.reverse P' (dgst wd 0 [x]) (j + 1)).map inD), .d (.lst (W.map stD)), .any, .any, .any, .any]) [.d (.int wd), .d (.int (c : Int)), .d (.int (k : Int)), .d (.int x), .d (lI P'), .own (((0, [x]) :: upN wd W.reverse P' (dgst wd 0 [x]) j).map inD ++ [inD (1, numsN (botN wd W.reverse P' (dgst wd 0 [x]) j) q (s, l))]), .d (.lst (W.map stD)), .d (.int (j : Int)), .d (.int (s : Int)), .d (.bl l), .d (.int (botN wd W.reverse P' (dgst wd 0 [x]) j))] := by
      refine ⟨_, ?_, rfl⟩
      rw [eu]
      walk_at "le"
    cases l
    · refine ⟨_, rfl, ?_⟩
      walk_at "d"
      refine ⟨hz, ?_⟩
      walk_at "d"
      exact fin
    · refine ⟨_, rfl, ?_⟩
      walk_at "d"
      refine ⟨hz, ?_⟩
      walk_at "d"
      exact fin
  · rintro ρ rfl
    rw [Int.toNat_natCast]
    refine ds_freeze 5 rfl rfl ?_
    walk_at "d"
    rfl
theorem topN_itm {wd : Int} (h4 : 4 ≤ wd) (h : wd ≤ 128) {W : List (Nat × Bool)} {x : Int} {P : List Int} (hl : P.length = W.length) (hs : ∀ y ∈ W, y.1 ≤ 1000) (hb : ∀ y ∈ P, Itm y) (hx : Itm x) : ∀ n ∈ (topN wd W x P).2, Itm n := by
  have hm : topN wd W x P ∈ tellN wd W x P := mem_getD (by rw [tellN_len]; omega) _
  unfold tellN at hm
  rcases List.mem_cons.mp hm with e | hm
  · rw [e]; intro n hn; simp at hn; rw [hn]; exact hx
  · unfold upN at hm
    obtain ⟨i, hi, e⟩ := List.mem_map.mp hm
    have hi' := List.mem_range.mp hi
    rw [← e]
    exact nums_itm (hs _ (List.mem_reverse.mp (mem_getD (by rw [List.length_reverse]; exact hi') _))) (bot_itm h4 h ⟨(dgst_rng h4 h _ _).1, bd_dgst h4 h _ _⟩ i) (hb _ (mem_getD (by omega) _))
def sp__law_listed (K : PySem.W.Frag) : Sp := spG K (fun x : Int × Int × Int × Int × Int × List Int => [.int x.1, .int x.2.1, .int x.2.2.1, .int x.2.2.2.1, .int x.2.2.2.2.1, lI x.2.2.2.2.2]) (fun x => 4 ≤ x.1 ∧ x.1 ≤ 128 ∧ x.2.2.1 ≤ 999 ∧ x.2.2.2.2.2.length ≤ 999 ∧ Bd x.2.2.2.2.1)
  fun x => .bl (listedN x.1 x.2.1 x.2.2.1 x.2.2.2.1 x.2.2.2.2.1 x.2.2.2.2.2)
theorem ok__law_listed (T : Txt K mg) : FnOk P w K mg base CX0 (4) (He.fAd K ("_law_listed", none)) T.fd__law_listed ["width", "root", "count", "k", "item", "proof"] (sp__law_listed K) := by
  refine T._law_listed.F.ok sc__law_listed (fun vs H Q E h => len_g h fun _ => rfl) (fun cdv A outer s H vs Q E hr h => ⟨_, PSs.nox (pss_cons (ps_if (PW.pt (pw_or (pt_not (pt_chain (op_le) (op_lt) pe_int (pv 3) (pv 2))) (pw_or (pt_cmpR (op_lt) (pv 4) pe_int (nomark _)) (pw_or1 (pt_val (pe_callB (kr_any (K := K)) (by rfl) T.z_any (by decide +kernel) (pa_cons (pe_lc (own := [("one", 8)]) rfl sc__law_listed.nd (ki_list (K := K) (pv 5)) (blkOk_by (own := [("one", 8)]) (N := ["width", "root", "count", "k", "item", "proof", "tag", "numbers", "one"]) (sc := defScope s__law_listed) (by decide +kernel)) (fun _ _ _ _ _ => pg_name (i := 8) sc__law_listed.nd rfl (Or.inl rfl)) (fun _ _ _ _ _ => pts_nil) (fun _ _ _ _ _ => (pe_not (pe_chain (op_le) (op_lt) pe_int (pv 8) (pe_op op_shl pe_int (pv 0)))))) pa_nil))))))) (pss_one (ps_ret pe_bl)) pss_nil)
  (pss_cons (ps_if (pt_cmpR (op_ne) (pe_callB (kq_len (K := K)) (by rfl) T.z_len (by decide +kernel) (pa_cons (pv 5) pa_nil)) (pe_callB (kq_len (K := K)) (by rfl) T.z_len (by decide +kernel) (pa_cons (pe_call (ok__law_steps T) (hr.mono (by omega)) (by rfl) T._law_steps.g T._law_steps.F.kp T._law_steps.b .nil pass0 (pa_cons (pv 2) (pa_cons (pv 3) pa_nil))) pa_nil)) (nomark _)) (pss_one (ps_ret pe_bl)) pss_nil)
  (pss_cons (ps_asg (pe_ix (kx_list (K := K)) (pe_call (ok__law_inputs T) (hr.mono (by omega)) (by rfl) T._law_inputs.g T._law_inputs.F.kp T._law_inputs.b .nil pass0 (pa_cons (pv 0) (pa_cons (pv 2) (pa_cons (pv 3) (pa_cons (pv 4) (pa_cons (pv 5) pa_nil)))))) (pe_callB (kq_len (K := K)) (by rfl) T.z_len (by decide +kernel) (pa_cons (pv 5) pa_nil)) (fun _ _ => rfl)) (kg_tup (K := K) (n := 2) rfl (pgs_cons (pg_name (i := 6) sc__law_listed.nd rfl (Or.inl rfl)) (pgs_cons (pg_name (i := 7) sc__law_listed.nd rfl (Or.inl rfl)) pgs_nil))))
  (pss_one (ps_ret (pe_cmpR (op_eq) (pe_call (ok__law_digest T) (hr.mono (by omega)) (by rfl) T._law_digest.g T._law_digest.F.kp T._law_digest.b .nil pass0 (pa_cons (pv 0) (pa_cons (pv 6) (pa_cons (pv 7) pa_nil)))) (pv 1) (nomark _))))))), fn_g h fun x p => ?_⟩)
  change DS K _ (Wp.E.d _ :: (Wp.E.d _ :: (Wp.E.d _ :: (Wp.E.d _ :: (Wp.E.d _ :: (Wp.E.d _ :: (Wp.E.any :: (Wp.E.any :: (Wp.E.any :: []))))))))) _ _ _ _
  obtain ⟨wd, root, c, k, x, P'⟩ := x
  obtain ⟨w4, w128, hc, hl, hx⟩ := p
  dsimp only at w4 w128 hc hl hx ⊢
  have no : ∀ h, _ := fun h => listedN_no (wd := wd) (root := root) (count := c) (k := k) (item := x) (P := P') h
  walk_at "d"
  refine ifd (fun hk => ?_) (fun hk => ?_)
  case refine_2 =>
    walk_at "d"
    rw [no (by omega)]
  walk_at "d"
  cases hkc : decide (k < c)
  · walk_at "d"
    have := of_decide_eq_false hkc
    rw [no (by omega)]
  have hkc' := of_decide_eq_true hkc
  walk_at "d"
  refine ifd (fun h => ?_) (fun h => ?_)
  · walk_at "d"
    rw [no (by omega)]
  walk_at "d"
  refine de_new (dn_mapL P' D.int (fun n => .bl (!isD wd n)) ?_)
  walk_at "d"
  refine ⟨rfl, by omega, fun i n hn => dgw_name rfl (by decide) rfl ?_, ?_⟩
  · walk_at "d"
    refine ifd (fun h0 => ?_) (fun h0 => ?_)
    · walk_at "d"
      rw [Int.one_mul]
      have : isD wd n = decide (n < 2 ^ wd.toNat) := decide_eq_decide.mpr ⟨fun z => z.2, fun z => ⟨h0, z⟩⟩
      rw [this]
    · walk_at "d"
      have : isD wd n = false := decide_eq_false fun z => h0 z.1
      rw [this]
  have em : P'.map (fun n => D.bl (!isD wd n)) = (P'.map (fun n => !isD wd n)).map D.bl := by rw [List.map_map]; rfl
  have el : (P'.map (fun n => !isD wd n)).any id = !P'.all (isD wd) := by rw [List.any_map, List.not_all_eq_any_not]; rfl
  rw [em]
  walk_at "d"
  rw [el]
  cases ha : P'.all (isD wd)
  · walk_at "d"
    rw [no (fun z => by rw [ha] at z; exact absurd z.2.2.2.2 (by decide))]
  walk_at "d"
  obtain ⟨c, rfl⟩ := Int.eq_ofNat_of_zero_le (show 0 ≤ c by omega)
  obtain ⟨k, rfl⟩ := Int.eq_ofNat_of_zero_le (show 0 ≤ k by omega)
  simp only [Int.toNat_natCast] at no
  have hb : ∀ y ∈ P', Itm y := fun y hy => ⟨(of_decide_eq_true (List.all_eq_true.mp ha y hy)).1, bd_isD w128 (List.all_eq_true.mp ha y hy)⟩
  refine dc_g (c, k) rfl (by show c ≤ 1000; omega) ?_
  walk_at "D"
  refine ifn (fun hne => ?_) (fun heq => ?_)
  · walk_at "d"
    rw [no (fun z => hne (by have := z.2.2.2.1; omega))]
  have e2 : (stepsN c k).length = P'.length := by omega
  have hW1 := stepsN_le 999 c k (by omega)
  walk_at "d"
  refine dc_g (wd, c, k, x, P') rfl ⟨w4, w128, by show c ≤ 999; omega, e2, hb, by show 0 ≤ x; omega, hx⟩ ?_
  walk_at "D"
  have htop : (tellN wd (stepsN c k) x P')[P'.length]? = some (topN wd (stepsN c k) x P') := by
    rw [← e2]
    unfold topN
    rw [List.getD_eq_getElem?_getD, List.getElem?_eq_getElem (by rw [tellN_len]; omega)]
    rfl
  refine ⟨_, atI_map htop, ?_⟩
  walk_at "d"
  have hti : ∀ n ∈ (topN wd (stepsN c k) x P').2, 0 ≤ n := fun n hn => (topN_itm w4 w128 e2.symm (fun y hy => Nat.le_trans (hW1 y hy) (by decide)) hb ⟨by omega, hx⟩ n hn).1
  refine dc_lawdig (topN wd (stepsN c k) x P').2 (.inr rfl) w4 w128 hti (topN_bd w4 w128 e2.symm (fun y hy => Nat.le_trans (hW1 y hy) (by decide)) (fun y hy => (hb y hy).2) hx) ?_
  walk_at "d"
  unfold listedN
  rw [Int.toNat_natCast, Int.toNat_natCast, if_pos ⟨by omega, hk, hkc', e2, ha⟩]

/-! ### what the law draws -/
theorem itm_pow {n : Int} {k : Nat} (h0 : 0 ≤ n) (h : n < 2 ^ k) (hk : k ≤ 200) : Itm n := ⟨h0, bd_rng h0 h hk⟩
theorem itm_small {n : Int} (h0 : 0 ≤ n) (h : n ≤ 1000000) : Itm n := ⟨h0, bd_small (by omega) h⟩
theorem two_of {a b : D} {R : D → Prop} (ha : R a) (hb : R b) : ∀ d ∈ [a, b], R d := by intro d hd; simp at hd; rcases hd with rfl | rfl <;> assumption
theorem three_of {a b c : D} {R : D → Prop} (ha : R a) (hb : R b) (hc : R c) : ∀ d ∈ [a, b, c], R d := by intro d hd; simp at hd; rcases hd with rfl | rfl | rfl <;> assumption
theorem four_of {a b c e : D} {R : D → Prop} (ha : R a) (hb : R b) (hc : R c) (he : R e) : ∀ d ∈ [a, b, c, e], R d := by intro d hd; simp at hd; rcases hd with rfl | rfl | rfl | rfl <;> assumption
def sp__law_items (K : PySem.W.Frag) : Sp := spS' K (fun m : Nat => [.int (m : Int)]) (fun m => m ≤ 30) fun m d => ∃ ns : List Int, d = lI ns ∧ ns.length ≤ max m 3 ∧ ∀ n ∈ ns, Itm n
theorem ok__law_items (T : Txt K mg) : FnOk P w K mg base CX0 (2) (He.fAd K ("_law_items", none)) T.fd__law_items ["state", "script", "most"] (sp__law_items K) := by
  refine T._law_items.F.ok sc__law_items (fun vs H Q E h => len_s h fun _ => rfl) (fun cdv A outer s H vs Q E hr h => ⟨_, PSs.nox (pss_cons (ps_set (i := 3) sc__law_items.nd rfl (Or.inl rfl) (pe_lst pa_nil))
  (pss_cons (ps_for PassesOwn.never rfl (pi_range1 rfl T.z_range (pa_cons (pe_ix (kx_list (K := K)) (pe_lst (pa_cons (pe_call (ok__law_draw T) (hr.mono (by omega)) (by rfl) T._law_draw.g T._law_draw.F.kp T._law_draw.b .nil pass0 (pa_cons (pv 0) (pa_cons (pv 1) (pa_cons (pe_op op_add (pv 2) pe_int) pa_nil)))) (pa_cons (pe_call (ok__law_draw T) (hr.mono (by omega)) (by rfl) T._law_draw.g T._law_draw.F.kp T._law_draw.b .nil pass0 (pa_cons (pv 0) (pa_cons (pv 1) (pa_cons pe_int pa_nil)))) pa_nil))) (pe_call (ok__law_draw T) (hr.mono (by omega)) (by rfl) T._law_draw.g T._law_draw.F.kp T._law_draw.b .nil pass0 (pa_cons (pv 0) (pa_cons (pv 1) (pa_cons pe_int pa_nil)))) (fun _ _ => rfl)) pa_nil)) (pg_name (i := 4) sc__law_items.nd rfl (Or.inl rfl)) (pss_one (ps_expr (pe_bm PySem.F.plainAttrs_list PySem.F.slot_list_append PySem.F.type_list_append mt_append (pv 3) (pa_cons (pe_ix (kx_list (K := K)) (pe_lst (pa_cons (pe_call (ok__law_draw T) (hr.mono (by omega)) (by rfl) T._law_draw.g T._law_draw.F.kp T._law_draw.b .nil pass0 (pa_cons (pv 0) (pa_cons (pv 1) (pa_cons pe_int pa_nil)))) (pa_cons (pe_call (ok__law_draw T) (hr.mono (by omega)) (by rfl) T._law_draw.g T._law_draw.F.kp T._law_draw.b .nil pass0 (pa_cons (pv 0) (pa_cons (pv 1) (pa_cons (pe_op op_shl pe_int pe_int) pa_nil)))) pa_nil))) (pe_call (ok__law_draw T) (hr.mono (by omega)) (by rfl) T._law_draw.g T._law_draw.F.kp T._law_draw.b .nil pass0 (pa_cons (pv 0) (pa_cons (pv 1) (pa_cons pe_int pa_nil)))) (fun _ _ => rfl)) pa_nil)))))
  (pss_one (ps_ret (pv 3))))), fn_s h fun x p => ?_⟩)
  change DS K _ (Wp.E.st :: (Wp.E.sc :: (Wp.E.d _ :: (Wp.E.any :: (Wp.E.any :: []))))) _ _ _ _
  walk_at "d"
  refine ds_forR1 ?_
  walk_at "d"
  refine dcs_draw (by omega) (sz_small (by omega) (Int.lt_trans (show (x : Int) + 1 < 2 ^ 8 by omega) (by rw [← PySem.W.kbt_cast, ← PySem.W.kbt_cast]; exact Int.ofNat_lt.mpr (Nat.pow_lt_pow_right (by decide) (by decide))))) fun n1 a1 b1 => ?_
  walk_at "d"
  refine dcs_draw (by decide) (by decide) fun n2 a2 b2 => ?_
  walk_at "d"
  refine dcs_draw (by decide) (by decide) fun n3 a3 b3 => ?_
  walk_at "d"
  refine atI_ints (fun m => 0 ≤ m ∧ m ≤ max x 3) a3 b3 (two_of ⟨_, rfl, by omega⟩ ⟨_, rfl, by omega⟩) fun m ⟨m0, m1⟩ => ?_
  walk_at "d"
  refine ⟨m, rfl, by omega, by omega, fun i ρ => ∃ ns : List Int, ns.length = i ∧ (∀ n ∈ ns, Itm n) ∧ ρ = [.st, .sc, .d (.int (x : Int)), .own (ns.map D.int), .any], ⟨_, by walk_at "le", [], rfl, by simp, rfl⟩, ?_, ?_⟩
  · rintro i ρ hi ⟨ns, hl, hns, rfl⟩
    walk_at "d"
    refine dcs_draw (by decide) (by decide) fun n4 a4 b4 => ?_
    walk_at "d"
    obtain ⟨p0, p1⟩ := sz_pow (w := 70) (by omega) (by omega)
    refine dcs_draw p0 p1 fun n5 a5 b5 => ?_
    walk_at "d"
    refine dcs_draw (by decide) (by decide) fun n6 a6 b6 => ?_
    walk_at "d"
    refine atI_ints Itm a6 b6 (two_of ⟨_, rfl, itm_small a4 (by omega)⟩ ⟨_, rfl, itm_pow (k := 70) a5 (by rw [Int.one_mul] at b5; exact b5) (by decide)⟩) fun q hq => ?_
    walk_at "d"
    refine ⟨by rw [List.length_map]; exact sz6' (by omega), ?_⟩
    walk_at "d"
    exact ⟨_, by walk_at "le", ns ++ [q], by simp [hl], by intro n hn; rcases List.mem_append.mp hn with hn | hn; exact hns n hn; simp at hn; rw [hn]; exact hq, rfl⟩
  · rintro ρ ⟨ns, hl, hns, rfl⟩
    refine ds_freeze 3 rfl rfl ?_
    walk_at "d"
    exact ⟨ns, rfl, by omega, hns⟩

/-! ### the true proof is accepted -/
theorem getD_app {α : Type} {xs ys : List α} {i : Nat} (h : i < xs.length) (d : α) : (xs ++ ys).getD i d = xs.getD i d := by
  rw [List.getD_eq_getElem?_getD, List.getD_eq_getElem?_getD, List.getElem?_append_left h]
theorem getD_last {α : Type} {xs : List α} {y d : α} : (xs ++ [y]).getD xs.length d = y := by
  rw [List.getD_eq_getElem?_getD, List.getElem?_append_right (Nat.le_refl _), Nat.sub_self]
  rfl
theorem bot_pre {wd e : Int} {V V2 : List (Nat × Bool)} {P P2 : List Int} : ∀ i, i ≤ V.length → i ≤ P.length → botN wd (V ++ V2) (P ++ P2) e i = botN wd V P e i
  | 0, _, _ => by rw [botN, botN]
  | i + 1, h1, h2 => by rw [botN, botN, bot_pre i (by omega) (by omega), getD_app (by omega), getD_app (by omega)]
theorem bot_snoc {wd e : Int} {V : List (Nat × Bool)} {P : List Int} {st : Nat × Bool} {r : Int} (h : P.length = V.length) : botN wd (V ++ [st]) (P ++ [r]) e (V.length + 1) = dgst wd 1 (numsN (botN wd V P e V.length) r st) := by
  have e1 : (P ++ [r]).getD V.length 0 = r := by rw [← h]; exact getD_last
  rw [botN, bot_pre V.length (Nat.le_refl _) (by omega), getD_last, e1]
theorem bot_snoc' {wd e : Int} {V : List (Nat × Bool)} {P : List Int} {st : Nat × Bool} {r : Int} (h : P.length = V.length) : botN wd (V.reverse ++ [st]) (P ++ [r]) e (V.length + 1) = dgst wd 1 (numsN (botN wd V.reverse P e V.length) r st) := by
  have := bot_snoc (wd := wd) (e := e) (V := V.reverse) (P := P) (st := st) (r := r) (by rw [List.length_reverse]; exact h)
  rw [List.length_reverse] at this
  exact this

/-! ### the true way -/
theorem way_root {wd : Int} : ∀ (n : Nat) (xs : List Int) (k : Nat) (x : Int), xs.length ≤ n → xs[k]? = some x →
    (wayN wd xs k).length = (stepsN xs.length k).length ∧ botN wd (stepsN xs.length k).reverse (wayN wd xs k) (dgst wd 0 [x]) (stepsN xs.length k).length = rootN wd xs
  | 0, xs, k, x, h, hk => by have := (List.getElem?_eq_some_iff.mp hk).1; omega
  | n + 1, xs, k, x, h, hk => by
    have hkl := (List.getElem?_eq_some_iff.mp hk).1
    by_cases z : xs.length < 2
    · rw [wayN_lt z, stepsN_lt z, rootN_lt z]
      refine ⟨rfl, ?_⟩
      have : xs = [x] := by
        match xs, z, hk, hkl with
        | [y], _, hk, hkl => 
          have : k = 0 := by simp at hkl; exact hkl
          subst this
          simp at hk
          rw [hk]
      rw [this]
      show botN wd [] [] (dgst wd 0 [x]) 0 = _
      rw [botN]
    · have hlt := lft_lt (n := xs.length) (by omega)
      have hlp := lft_pos xs.length
      rw [wayN_ge z, stepsN_ge z, rootN_ge z]
      by_cases zk : k < lft xs.length
      · rw [if_pos zk, if_pos zk]
        have hl : (xs.take (lft xs.length)).length = lft xs.length := by rw [List.length_take]; omega
        obtain ⟨i1, i2⟩ := way_root n (xs.take (lft xs.length)) k x (by omega) (by rw [List.getElem?_take_of_lt zk]; exact hk)
        rw [hl] at i1 i2
        refine ⟨by rw [List.length_append, List.length_cons, i1]; rfl, ?_⟩
        rw [List.reverse_cons, List.length_cons, bot_snoc' i1, i2]
        rfl
      · rw [if_neg zk, if_neg zk]
        have hl : (xs.drop (lft xs.length)).length = xs.length - lft xs.length := by rw [List.length_drop]
        obtain ⟨i1, i2⟩ := way_root n (xs.drop (lft xs.length)) (k - lft xs.length) x (by omega) (by rw [List.getElem?_drop, show lft xs.length + (k - lft xs.length) = k by omega]; exact hk)
        rw [hl] at i1 i2
        refine ⟨by rw [List.length_append, List.length_cons, i1]; rfl, ?_⟩
        rw [List.reverse_cons, List.length_cons, bot_snoc' i1, i2]
        rfl
theorem top_dgst {wd x : Int} {W : List (Nat × Bool)} {P : List Int} : dgst wd (topN wd W x P).1 (topN wd W x P).2 = botN wd W.reverse P (dgst wd 0 [x]) W.length := by
  obtain ⟨f, h1, h2, _⟩ := found_at (wd := wd) (x := x) (V := W.reverse) (P := P) W.length
  have : topN wd W x P = f := by
    unfold topN tellN
    rw [List.getD_eq_getElem?_getD, h1]
    rfl
  rw [this, h2]
theorem listed_true {wd : Int} (h4 : 4 ≤ wd) (h : wd ≤ 128) {xs : List Int} {k : Nat} {x : Int} (hk : xs[k]? = some x) (hx : 0 ≤ x) : listedN wd (rootN wd xs) (xs.length : Int) (k : Int) x (wayN wd xs k) = true := by
  have hkl := (List.getElem?_eq_some_iff.mp hk).1
  obtain ⟨e1, e2⟩ := way_root (wd := wd) xs.length xs k x (Nat.le_refl _) hk
  unfold listedN
  rw [Int.toNat_natCast, Int.toNat_natCast, if_pos ⟨hx, by omega, by omega, e1.symm, List.all_eq_true.mpr fun y hy => decide_eq_true (wayN_itm h4 h _ xs k (Nat.le_refl _) y hy)⟩, top_dgst, e2]
  exact decide_eq_true rfl

/-! ### growths: what they are -/
def growN (wd : Int) (xs : List Int) (o : Int) : List Int := if h : 0 < o ∧ o < (xs.length : Int) then growN wd (xs.take (lft xs.length)) o ++ growN wd (xs.drop (lft xs.length)) (o - (lft xs.length : Int)) else if xs.length = 0 then [] else [rootN wd xs]
termination_by xs.length
decreasing_by
  · rw [List.length_take]; have := lft_lt (n := xs.length) (by omega); omega
  · rw [List.length_drop]; have := lft_pos xs.length; omega
theorem growN_in {wd : Int} {xs : List Int} {o : Int} (h : 0 < o ∧ o < (xs.length : Int)) : growN wd xs o = growN wd (xs.take (lft xs.length)) o ++ growN wd (xs.drop (lft xs.length)) (o - (lft xs.length : Int)) := by rw [growN, dif_pos h]
theorem growN_0 {wd : Int} {xs : List Int} {o : Int} (h : xs.length = 0) : growN wd xs o = [] := by rw [growN, dif_neg (by omega), if_pos h]
theorem growN_1 {wd : Int} {xs : List Int} {o : Int} (h : ¬ (0 < o ∧ o < (xs.length : Int))) (h0 : xs.length ≠ 0) : growN wd xs o = [rootN wd xs] := by rw [growN, dif_neg h, if_neg h0]
theorem growN_len {wd : Int} : ∀ (n : Nat) (xs : List Int) (o : Int), xs.length ≤ n → (growN wd xs o).length ≤ n
  | 0, xs, o, h => by rw [growN_0 (by omega)]; simp
  | n + 1, xs, o, h => by
    by_cases z : 0 < o ∧ o < (xs.length : Int)
    · rw [growN_in z, List.length_append]
      have hlt := lft_lt (n := xs.length) (by omega)
      have hlp := lft_pos xs.length
      have e1 := growN_len1 n (xs.take (lft xs.length)) o (by rw [List.length_take]; omega)
      have e2 := growN_len1 n (xs.drop (lft xs.length)) (o - (lft xs.length : Int)) (by rw [List.length_drop]; omega)
      rw [List.length_take] at e1
      rw [List.length_drop] at e2
      omega
    · by_cases z0 : xs.length = 0
      · rw [growN_0 z0]; simp
      · rw [growN_1 z z0]; simp
where
  growN_len1 : ∀ (n : Nat) (xs : List Int) (o : Int), xs.length ≤ n → (growN wd xs o).length ≤ xs.length
  | 0, xs, o, h => by rw [growN_0 (by omega)]; simp
  | n + 1, xs, o, h => by
    by_cases z : 0 < o ∧ o < (xs.length : Int)
    · rw [growN_in z, List.length_append]
      have hlt := lft_lt (n := xs.length) (by omega)
      have hlp := lft_pos xs.length
      have e1 := growN_len1 n (xs.take (lft xs.length)) o (by rw [List.length_take]; omega)
      have e2 := growN_len1 n (xs.drop (lft xs.length)) (o - (lft xs.length : Int)) (by rw [List.length_drop]; omega)
      rw [List.length_take] at e1
      rw [List.length_drop] at e2
      omega
    · by_cases z0 : xs.length = 0
      · rw [growN_0 z0]; simp
      · rw [growN_1 z z0]; simp; omega
theorem growN_itm {wd : Int} (h4 : 4 ≤ wd) (h : wd ≤ 128) : ∀ (n : Nat) (xs : List Int) (o : Int), xs.length ≤ n → ∀ y ∈ growN wd xs o, 0 ≤ y ∧ y < 2 ^ wd.toNat
  | 0, xs, o, hn => by rw [growN_0 (by omega)]; simp
  | n + 1, xs, o, hn => by
    by_cases z : 0 < o ∧ o < (xs.length : Int)
    · rw [growN_in z]
      have hlt := lft_lt (n := xs.length) (by omega)
      have hlp := lft_pos xs.length
      intro y hy
      rcases List.mem_append.mp hy with hy | hy
      · exact growN_itm h4 h n _ _ (by rw [List.length_take]; omega) y hy
      · exact growN_itm h4 h n _ _ (by rw [List.length_drop]; omega) y hy
    · by_cases z0 : xs.length = 0
      · rw [growN_0 z0]; simp
      · rw [growN_1 z z0]
        intro y hy
        simp at hy; rw [hy]; exact rootN_rng h4 h _
def stepsG (s o : Nat) : List (Nat × Bool) := if h : 0 < o ∧ o < s then if o < lft s then (s, true) :: stepsG (lft s) o else (s, false) :: stepsG (s - lft s) (o - lft s) else []
termination_by s
decreasing_by
  · exact lft_lt (by omega)
  · have := lft_pos s; omega
theorem stepsG_in {s o : Nat} (h : 0 < o ∧ o < s) : stepsG s o = if o < lft s then (s, true) :: stepsG (lft s) o else (s, false) :: stepsG (s - lft s) (o - lft s) := by rw [stepsG, dif_pos h]
theorem stepsG_no {s o : Nat} (h : ¬ (0 < o ∧ o < s)) : stepsG s o = [] := by rw [stepsG, dif_neg h]
theorem stepsG_le : ∀ (n s o : Nat), s ≤ n → ∀ y ∈ stepsG s o, 2 ≤ y.1 ∧ y.1 ≤ n
  | 0, s, o, h => by rw [stepsG_no (by omega)]; simp
  | n + 1, s, o, h => by
    by_cases z : 0 < o ∧ o < s
    · rw [stepsG_in z]
      have hlt := lft_lt (n := s) (by omega)
      have hlp := lft_pos s
      intro y hy
      split at hy
      · rcases List.mem_cons.mp hy with rfl | hy
        · exact ⟨by show 2 ≤ s; omega, h⟩
        · have := stepsG_le n (lft s) o (by omega) y hy; omega
      · rcases List.mem_cons.mp hy with rfl | hy
        · exact ⟨by show 2 ≤ s; omega, h⟩
        · have := stepsG_le n (s - lft s) (o - lft s) (by omega) y hy; omega
    · rw [stepsG_no z]; simp
theorem stepsG_len : ∀ (n s o : Nat), s ≤ n → (stepsG s o).length ≤ n
  | 0, s, o, h => by rw [stepsG_no (by omega)]; simp
  | n + 1, s, o, h => by
    by_cases z : 0 < o ∧ o < s
    · rw [stepsG_in z]
      have hlt := lft_lt (n := s) (by omega)
      have hlp := lft_pos s
      split
      · have := stepsG_len n (lft s) o (by omega); simp; omega
      · have := stepsG_len n (s - lft s) (o - lft s) (by omega); simp; omega
    · rw [stepsG_no z]; simp
def besN : List (Nat × Bool) → List Int → List Int
  | [], _ => []
  | (_, true) :: W, P => P.getLastD 0 :: besN W P.dropLast
  | (_, false) :: W, P => P.headD 0 :: besN W P.tail
def endN : List (Nat × Bool) → List Int → Int
  | [], P => P.headD 0
  | (_, true) :: W, P => endN W P.dropLast
  | (_, false) :: W, P => endN W P.tail
theorem besN_len : ∀ (W : List (Nat × Bool)) (P : List Int), (besN W P).length = W.length
  | [], _ => rfl
  | (_, true) :: W, P => by rw [besN, List.length_cons, List.length_cons, besN_len W]
  | (_, false) :: W, P => by rw [besN, List.length_cons, List.length_cons, besN_len W]
theorem headD_mem {P : List Int} (h : P ≠ []) : P.headD 0 ∈ P := by
  cases P with
  | nil => exact absurd rfl h
  | cons a P => simp
theorem lastD_mem {P : List Int} (h : P ≠ []) : P.getLastD 0 ∈ P := by
  rw [List.getLastD_eq_getLast?, List.getLast?_eq_some_getLast h]
  exact List.getLast_mem h
theorem bes_mem : ∀ (W : List (Nat × Bool)) (P : List Int), P.length = W.length + 1 → (∀ y ∈ besN W P, y ∈ P) ∧ endN W P ∈ P
  | [], P, h => ⟨by simp [besN], headD_mem (fun z => by rw [z] at h; simp at h)⟩
  | (_, true) :: W, P, h => by
    have hp : P ≠ [] := fun z => by rw [z] at h; simp at h
    obtain ⟨i1, i2⟩ := bes_mem W P.dropLast (by rw [List.length_dropLast, h]; simp)
    refine ⟨fun y hy => ?_, (List.dropLast_sublist P).subset i2⟩
    rw [besN] at hy
    rcases List.mem_cons.mp hy with rfl | hy
    · exact lastD_mem hp
    · exact (List.dropLast_sublist P).subset (i1 y hy)
  | (_, false) :: W, P, h => by
    have hp : P ≠ [] := fun z => by rw [z] at h; simp at h
    obtain ⟨i1, i2⟩ := bes_mem W P.tail (by rw [List.length_tail, h]; simp)
    refine ⟨fun y hy => ?_, List.mem_of_mem_tail i2⟩
    rw [besN] at hy
    rcases List.mem_cons.mp hy with rfl | hy
    · exact headD_mem hp
    · exact List.mem_of_mem_tail (i1 y hy)
/-! ### growths: the program -/
def sp_gp (K : PySem.W.Frag) (n : Nat) : Sp := spG K (fun x : Int × List Int × Int => [Hs K x.1, lI x.2.1, .int x.2.2]) (fun x => 4 ≤ x.1 ∧ x.1 ≤ 128 ∧ x.2.1.length < n ∧ x.2.1.length ≤ 33 ∧ ∀ y ∈ x.2.1, Itm y) fun x => tI (growN x.1 x.2.1 x.2.2)
theorem ok_gp_step (T : Txt K mg) (n : Nat) (IH : FnOk P w K mg base CX0 (41 + n) (He.fAd K ("growth_proof", none)) T.fd_growth_proof ["hasher", "items", "old"] (sp_gp K n)) : FnOk P w K mg base CX0 (41 + n + 1) (He.fAd K ("growth_proof", none)) T.fd_growth_proof ["hasher", "items", "old"] (sp_gp K (n + 1)) := by
  refine T.growth_proof.F.ok sc_growth_proof (fun vs H Q E h => len_g h fun _ => rfl) (fun cdv A outer s H vs Q E hr h => ⟨_, PSs.nox (pss_cons (ps_set (i := 3) sc_growth_proof.nd rfl (Or.inl rfl) (pe_callB (kq_len (K := K)) (by rfl) T.z_len (by decide +kernel) (pa_cons (pv 1) pa_nil)))
  (pss_cons (ps_if (pt_cmpR (op_eq) (pv 3) pe_int (nomark _)) (pss_one (ps_ret (pe_tup pa_nil))) pss_nil)
  (pss_cons (ps_if (pt_not (pt_chain (op_lt) (op_lt) pe_int (pv 2) (pv 3))) (pss_one (ps_ret (pe_tup (pa_cons (pe_call (ok_list_root T) (hr.mono (by omega)) (by rfl) T.list_root.g T.list_root.F.kp T.list_root.b .nil pass0 (pa_cons (pv 0) (pa_cons (pv 1) pa_nil))) pa_nil)))) pss_nil)
  (pss_cons (ps_set (i := 4) sc_growth_proof.nd rfl (Or.inl rfl) (pe_call (ok_left_size T) (hr.mono (by omega)) (by rfl) T.left_size.g T.left_size.F.kp T.left_size.b .nil pass0 (pa_cons (pv 3) pa_nil)))
  (pss_one (ps_ret (pe_tup (ka_star (K := K) (pe_call IH (hr.mono (by omega)) (by rfl) T.growth_proof.g T.growth_proof.F.kp T.growth_proof.b .nil pass0 (pa_cons (pv 0) (pa_cons (pe_slice (kl_list (K := K)) (pv 1) po_none (po_some (pv 4))) (pa_cons (pv 2) pa_nil)))) (ka_star (K := K) (pe_call IH (hr.mono (by omega)) (by rfl) T.growth_proof.g T.growth_proof.F.kp T.growth_proof.b .nil pass0 (pa_cons (pv 0) (pa_cons (pe_slice (kl_list (K := K)) (pv 1) (po_some (pv 4)) po_none) (pa_cons (pe_op op_sub (pv 2) (pv 4)) pa_nil)))) pa_nil))))))))), fn_g h fun x p => ?_⟩)
  change DS K _ (Wp.E.d _ :: (Wp.E.d _ :: (Wp.E.d _ :: (Wp.E.any :: (Wp.E.any :: []))))) _ _ _ _
  obtain ⟨wd, xs, o⟩ := x
  obtain ⟨w4, w128, hn, hl, hi⟩ := p
  dsimp only at w4 w128 hn hl hi ⊢
  walk_at "d"
  refine ifd (fun h => ?_) (fun h => ?_)
  · walk_at "d"
    rw [growN_0 (by omega)]
    rfl
  walk_at "d"
  have one : ¬ (0 < o ∧ o < (xs.length : Int)) → D.tup [.int (rootN wd xs)] = tI (growN wd xs o) := fun z => by rw [growN_1 z (by omega)]; rfl
  refine ifd (fun ho => ?_) (fun ho => ?_)
  case refine_2 =>
    walk_at "d"
    refine dc_g (wd, xs) rfl ⟨w4, w128, by show xs.length < 34; omega, by show xs.length ≤ 100; omega, hi⟩ ?_
    walk_at "D"
    rw [one (by omega)]
  walk_at "d"
  cases hos : decide (o < (xs.length : Int))
  · have := of_decide_eq_false hos
    walk_at "d"
    refine dc_g (wd, xs) rfl ⟨w4, w128, by show xs.length < 34; omega, by show xs.length ≤ 100; omega, hi⟩ ?_
    walk_at "D"
    rw [one (by omega)]
  have hos' := of_decide_eq_true hos
  walk_at "d"
  have h2 : 2 ≤ xs.length := by omega
  have hlt := lft_lt h2
  have hlp := lft_pos xs.length
  refine dc_g xs.length rfl ⟨h2, by omega⟩ ?_
  walk_at "D"
  rw [cut_to (by omega)]
  refine dc_g (wd, xs.take (lft xs.length), o) rfl ⟨w4, w128, by rw [List.length_take]; omega, by rw [List.length_take]; omega, itms_take hi⟩ ?_
  walk_at "D"
  rw [cut_from (by omega)]
  refine dc_g (wd, xs.drop (lft xs.length), o - (lft xs.length : Int)) rfl ⟨w4, w128, by rw [List.length_drop]; omega, by rw [List.length_drop]; omega, itms_drop hi⟩ ?_
  walk_at "D"
  have g1 := growN_len (wd := wd) 33 (xs.take (lft xs.length)) o (by rw [List.length_take]; omega)
  have g2 := growN_len (wd := wd) 33 (xs.drop (lft xs.length)) (o - (lft xs.length : Int)) (by rw [List.length_drop]; omega)
  refine sz_ (by rw [List.length_append, List.length_append, List.length_map, List.length_map]; exact sz6 (by simp; omega)) ?_
  walk_at "d"
  rw [growN_in (xs := xs) (o := o) ⟨ho, hos'⟩]
  simp
theorem ok_gp (T : Txt K mg) : ∀ n : Nat, FnOk P w K mg base CX0 (41 + n) (He.fAd K ("growth_proof", none)) T.fd_growth_proof ["hasher", "items", "old"] (sp_gp K n)
  | 0 => ok_void fun x p => absurd p.2.2.1 (Nat.not_lt_zero _)
  | n + 1 => ok_gp_step T n (ok_gp T n)
def sp_growth_proof (K : PySem.W.Frag) : Sp := sp_gp K 34
theorem ok_growth_proof (T : Txt K mg) : FnOk P w K mg base CX0 (80) (He.fAd K ("growth_proof", none)) T.fd_growth_proof ["hasher", "items", "old"] (sp_growth_proof K) := (ok_gp T 34).mono (by omega)
def sp_growth_way (K : PySem.W.Frag) : Sp := spG K (fun x : Nat × Nat × Nat => [.int (x.1 : Int), .int (x.2.1 : Int), .int (x.2.2 : Int)]) (fun x => x.1 ≤ 1000 ∧ x.2.2 ≤ 1000) fun x => .lst (((stepsG x.1 x.2.1).take x.2.2).map stD)
theorem ok_growth_way (T : Txt K mg) : FnOk P w K mg base CX0 (3) (He.fAd K ("growth_way", none)) T.fd_growth_way ["count", "old", "most"] (sp_growth_way K) := by
  refine T.growth_way.F.ok sc_growth_way (fun vs H Q E h => len_g h fun _ => rfl) (fun cdv A outer s H vs Q E hr h => ⟨_, PSs.nox (pss_cons (ps_set (i := 3) sc_growth_way.nd rfl (Or.inl rfl) (pe_lst pa_nil))
  (pss_cons (ps_set (i := 4) sc_growth_way.nd rfl (Or.inl rfl) (pv 0))
  (pss_cons (ps_while PassesOwn.never (PW.pt (pw_and (pt_chain (op_lt) (op_lt) pe_int (pv 1) (pv 4)) (pw_and1 (pt_cmpR (op_lt) (pe_callB (kq_len (K := K)) (by rfl) T.z_len (by decide +kernel) (pa_cons (pv 3) pa_nil)) (pv 2) (nomark _))))) (pss_cons (ps_asg (pe_call (ok_part_with T) (hr.mono (by omega)) (by rfl) T.part_with.g T.part_with.F.kp T.part_with.b .nil pass0 (pa_cons (pv 4) (pa_cons (pv 1) pa_nil))) (kg_tup (K := K) (n := 3) rfl (pgs_cons (pg_name (i := 5) sc_growth_way.nd rfl (Or.inl rfl)) (pgs_cons (pg_name (i := 6) sc_growth_way.nd rfl (Or.inl rfl)) (pgs_cons (pg_name (i := 1) sc_growth_way.nd rfl (Or.inl rfl)) pgs_nil)))))
  (pss_cons (ps_expr (pe_bm PySem.F.plainAttrs_list PySem.F.slot_list_append PySem.F.type_list_append mt_append (pv 3) (pa_cons (pe_tup (pa_cons (pv 4) (pa_cons (pv 5) pa_nil))) pa_nil)))
  (pss_one (ps_set (i := 4) sc_growth_way.nd rfl (Or.inl rfl) (pv 6))))))
  (pss_one (ps_ret (pv 3)))))), fn_g h fun x p => ?_⟩)
  change DS K _ (Wp.E.d _ :: (Wp.E.d _ :: (Wp.E.d _ :: (Wp.E.any :: (Wp.E.any :: (Wp.E.any :: (Wp.E.any :: []))))))) _ _ _ _
  obtain ⟨c, k, m⟩ := x
  obtain ⟨hc, hm⟩ := p
  dsimp only at hc hm ⊢
  walk_at "d"
  refine ds_while (fun v ρ => ∃ (way : List (Nat × Bool)) (s k' : Nat), v = s ∧ s ≤ 1000 ∧ way.length ≤ m ∧ way ++ stepsG s k' = stepsG c k ∧ ρ = [.d (.int (c : Int)), .d (.int (k' : Int)), .d (.int (m : Int)), .own (way.map stD), .d (.int (s : Int)), .any, .any]) c ⟨_, by walk_at "le", [], c, k, rfl, hc, by simp, rfl, rfl⟩ ?_
  rintro s ρ ⟨way, _, k', rfl, hs, hw, he, rfl⟩
  have fin : ∀ h : (¬ (0 < k' ∧ k' < s)) ∨ m ≤ way.length, way.map stD = ((stepsG c k).take m).map stD := fun h => by
    rcases h with h | h
    · rw [← he, stepsG_no h, List.append_nil, List.take_of_length_le hw]
    · rw [← he, List.take_append_of_le_length (by omega), List.take_of_length_le (by omega)]
  walk_at "d"
  refine ifd (fun h1 => ?_) (fun h1 => ?_)
  case refine_2 =>
    walk_at "d"
    exact congrArg D.lst (fin (.inl (by omega)))
  walk_at "d"
  cases h2 : decide ((k' : Int) < (s : Int))
  · have := of_decide_eq_false h2
    walk_at "d"
    exact congrArg D.lst (fin (.inl (by omega)))
  have h2' := of_decide_eq_true h2
  walk_at "d"
  rw [List.length_map]
  refine ifd (fun h' => ?_) (fun h' => ?_)
  · walk_at "d"
    have h3 : 2 ≤ s := by omega
    refine dc_g (s, k') rfl ⟨h3, hs⟩ ?_
    dsimp only
    unfold partD
    walk_at "d"
    refine ⟨by rw [List.length_map]; exact sz6' (by omega), ?_⟩
    walk_at "d"
    have hlt := lft_lt h3
    have hlp := lft_pos s
    have e2 := stepsG_in (s := s) (o := k') (by omega)
    by_cases z : k' < lft s
    · simp only [if_pos z, decide_eq_true z]
      rw [if_pos z] at e2
      refine ⟨_, by walk_at "le", lft s, by omega, way ++ [(s, true)], _, k', rfl, by omega, by rw [List.length_append]; simp; omega, by rw [← he, e2]; simp, rfl⟩
    · simp only [if_neg z, decide_eq_false z]
      rw [if_neg z] at e2
      refine ⟨_, by walk_at "le", s - lft s, by omega, way ++ [(s, false)], _, k' - lft s, rfl, by omega, by rw [List.length_append]; simp; omega, by rw [← he, e2]; simp, rfl⟩
  · refine ds_freeze 3 rfl rfl ?_
    walk_at "d"
    exact congrArg D.lst (fin (.inr (by omega)))
theorem dr_ixSq {Q : E → Prop} {b : Bool} {ns : List Int} {k : Nat} {n : Int} (h : ns[k]? = some n) (q : Q (.d (.int n))) : DR K (Wp.rIxS K) (.d (sqD b ns)) (.d (.int (k : Int))) Q := by
  cases b
  · exact dr_ixSL ⟨_, atI_map h, q⟩
  · exact dr_ixST ⟨_, atI_map h, q⟩
theorem win_head {P : List Int} {lo n : Nat} (h : lo < P.length) : ((P.drop lo).take (n + 1)).headD 0 = P.getD lo 0 := by
  rw [List.drop_eq_getElem_cons h, List.getD_eq_getElem?_getD, List.getElem?_eq_getElem h]
  rfl
theorem win_tail {P : List Int} {lo n : Nat} (h : lo < P.length) : ((P.drop lo).take (n + 1)).tail = (P.drop (lo + 1)).take n := by
  rw [List.drop_eq_getElem_cons h]
  rfl
theorem win_last {P : List Int} {lo n : Nat} (h : lo + n < P.length) : ((P.drop lo).take (n + 1)).getLastD 0 = P.getD (lo + n) 0 := by
  rw [List.getLastD_eq_getLast?, List.getLast?_eq_getElem?, List.length_take, List.length_drop, Nat.min_eq_left (by omega), Nat.add_sub_cancel, List.getElem?_take_of_lt (by omega), List.getElem?_drop, List.getD_eq_getElem?_getD]
theorem win_init {P : List Int} {lo n : Nat} (h : lo + n < P.length) : ((P.drop lo).take (n + 1)).dropLast = (P.drop lo).take n := by
  rw [List.dropLast_eq_take, List.length_take, List.length_drop, Nat.min_eq_left (by omega), Nat.add_sub_cancel, List.take_take, Nat.min_eq_left (by omega)]
def sp_growth_beside (K : PySem.W.Frag) : Sp := spG K (fun x : List (Nat × Bool) × Bool × List Int => [.lst (x.1.map stD), sqD x.2.1 x.2.2]) (fun x => x.1.length ≤ 1000 ∧ x.2.2.length = x.1.length + 1) fun x => .tup [lI (besN x.1 x.2.2), .int (endN x.1 x.2.2)]
theorem ok_growth_beside (T : Txt K mg) : FnOk P w K mg base CX0 (1) (He.fAd K ("growth_beside", none)) T.fd_growth_beside ["way", "proof"] (sp_growth_beside K) := by
  refine T.growth_beside.F.ok sc_growth_beside (fun vs H Q E h => len_g h fun _ => rfl) (fun cdv A outer s H vs Q E hr h => ⟨_, PSs.nox (pss_cons (ps_set (i := 2) sc_growth_beside.nd rfl (Or.inl rfl) (pe_lst pa_nil))
  (pss_cons (ps_set (i := 3) sc_growth_beside.nd rfl (Or.inl rfl) pe_int)
  (pss_cons (ps_set (i := 4) sc_growth_beside.nd rfl (Or.inl rfl) (pe_op op_sub (pe_callB (kq_len (K := K)) (by rfl) T.z_len (by decide +kernel) (pa_cons (pv 1) pa_nil)) pe_int))
  (pss_cons (ps_for PassesOwn.never rfl (ki_list (K := K) (pv 0)) (kg_tup (K := K) (n := 2) rfl (pgs_cons (pg_name (i := 5) sc_growth_beside.nd rfl (Or.inl rfl)) (pgs_cons (pg_name (i := 6) sc_growth_beside.nd rfl (Or.inl rfl)) pgs_nil))) (pss_one (ps_if (pt_val (pv 6)) (pss_cons (ps_expr (pe_bm PySem.F.plainAttrs_list PySem.F.slot_list_append PySem.F.type_list_append mt_append (pv 2) (pa_cons (pe_ix (kx_seq (K := K)) (pv 1) (pv 4) (fun _ _ => rfl)) pa_nil)))
  (pss_one (ps_aug (i := 4) sc_growth_beside.nd rfl (Or.inl rfl) pe_int ip_sub))) (pss_cons (ps_expr (pe_bm PySem.F.plainAttrs_list PySem.F.slot_list_append PySem.F.type_list_append mt_append (pv 2) (pa_cons (pe_ix (kx_seq (K := K)) (pv 1) (pv 3) (fun _ _ => rfl)) pa_nil)))
  (pss_one (ps_aug (i := 3) sc_growth_beside.nd rfl (Or.inl rfl) pe_int ip_add))))))
  (pss_one (ps_ret (pe_tup (pa_cons (pv 2) (pa_cons (pe_ix (kx_seq (K := K)) (pv 1) (pv 3) (fun _ _ => rfl)) pa_nil))))))))), fn_g h fun x p => ?_⟩)
  change DS K _ (Wp.E.d _ :: (Wp.E.d _ :: (Wp.E.any :: (Wp.E.any :: (Wp.E.any :: (Wp.E.any :: (Wp.E.any :: []))))))) _ _ _ _
  obtain ⟨W, b, P'⟩ := x
  obtain ⟨hW, hP⟩ := p
  dsimp only at hW hP ⊢
  walk_at "d"
  refine db_lenSq ?_
  walk_at "d"
  rw [hP, show (((W.length + 1 : Nat) : Int) - 1) = (W.length : Int) by omega]
  refine ds_forL ?_
  walk_at "d"
  refine ⟨_, rfl, fun i ρ => ∃ (bs : List Int) (lo hi : Nat), i ≤ W.length ∧ bs.length = i ∧ hi ≤ W.length ∧ lo + (W.length - hi) = i ∧ besN W P' = bs ++ besN (W.drop i) ((P'.drop lo).take (W.length + 1 - i)) ∧ endN W P' = endN (W.drop i) ((P'.drop lo).take (W.length + 1 - i)) ∧ ρ = [.d (.lst (W.map stD)), .d (sqD b P'), .own (bs.map D.int), .d (.int (lo : Int)), .d (.int (hi : Int)), .any, .any], ⟨_, by walk_at "le", [], 0, W.length, by omega, rfl, Nat.le_refl _, by omega, ?_, ?_, rfl⟩, ?_, ?_⟩
  · rw [List.drop_zero, List.drop_zero, List.take_of_length_le (by omega)]; rfl
  · rw [List.drop_zero, List.drop_zero, List.take_of_length_le (by omega)]
  · rintro i d ρ hd ⟨bs, lo, hi, hi0, hbl, hi1, hi2, e1, e2, rfl⟩
    rw [List.getElem?_map] at hd
    obtain ⟨⟨s, l⟩, hst, rfl⟩ := Option.map_eq_some_iff.mp hd
    have hiW := (List.getElem?_eq_some_iff.mp hst).1
    have ed : W.drop i = (s, l) :: W.drop (i + 1) := by
      rw [List.drop_eq_getElem_cons hiW]
      have := (List.getElem?_eq_some_iff.mp hst).2
      rw [this]
    rw [ed] at e1 e2
    have hz : (bs.map D.int).length < sizeLine := by rw [List.length_map]; exact sz6' (by omega)
    have en : W.length + 1 - i = (W.length - i) + 1 := by omega
    have en2 : W.length + 1 - (i + 1) = W.length - i := by omega
    rw [en] at e1 e2
    cases l
    · walk_at "d"
      refine dr_ixSq (k := lo) (n := P'.getD lo 0) (by rw [List.getD_eq_getElem?_getD, List.getElem?_eq_getElem (by omega)]; rfl) ?_
      walk_at "d"
      refine ⟨hz, ?_⟩
      walk_at "d"
      rw [besN, win_head (by omega), win_tail (by omega)] at e1
      rw [endN, win_tail (by omega)] at e2
      refine ⟨_, by walk_at "le", bs ++ [P'.getD lo 0], lo + 1, hi, by omega, by simp [hbl], hi1, by omega, by rw [e1, en2]; simp, by rw [e2, en2], rfl⟩
    · walk_at "d"
      refine dr_ixSq (k := hi) (n := P'.getD hi 0) (by rw [List.getD_eq_getElem?_getD, List.getElem?_eq_getElem (by omega)]; rfl) ?_
      walk_at "d"
      refine ⟨hz, ?_⟩
      walk_at "d"
      have eh : lo + (W.length - i) = hi := by omega
      rw [besN, win_last (by omega), win_init (by omega), eh] at e1
      rw [endN, win_init (by omega)] at e2
      rw [show ((hi : Int) - 1) = ((hi - 1 : Nat) : Int) by omega]
      refine ⟨_, by walk_at "le", bs ++ [P'.getD hi 0], lo, hi - 1, by omega, by simp [hbl], by omega, by omega, by rw [e1, en2]; simp, by rw [e2, en2], rfl⟩
  · rintro ρ ⟨bs, lo, hi, hi0, hbl, hi1, hi2, e1, e2, rfl⟩
    rw [List.length_map, List.drop_length, show W.length + 1 - W.length = 0 + 1 by omega] at e1 e2
    rw [endN, win_head (by omega)] at e2
    rw [besN, List.append_nil] at e1
    refine ds_freeze 2 rfl rfl ?_
    walk_at "d"
    refine dr_ixSq (k := lo) (n := P'.getD lo 0) (by rw [List.getD_eq_getElem?_getD, List.getElem?_eq_getElem (by omega)]; rfl) ?_
    walk_at "d"
    rw [e1, e2]
def sp_growth_inputs (K : PySem.W.Frag) : Sp := spG K (fun x : Int × List (Nat × Bool) × Bool × List Int => [Hs K x.1, .lst (x.2.1.map stD), sqD x.2.2.1 x.2.2.2]) (fun x => 4 ≤ x.1 ∧ x.1 ≤ 128 ∧ x.2.1.length ≤ 1000 ∧ x.2.2.2.length = x.2.1.length + 1 ∧ (∀ y ∈ x.2.1, y.1 ≤ 1000) ∧ (∀ y ∈ x.2.2.2, Bd y))
  fun x => .lst ((upN x.1 x.2.1.reverse (besN x.2.1 x.2.2.2).reverse (endN x.2.1 x.2.2.2) x.2.1.length).reverse.map inD)
theorem ok_growth_inputs (T : Txt K mg) : FnOk P w K mg base CX0 (4) (He.fAd K ("growth_inputs", none)) T.fd_growth_inputs ["hasher", "way", "proof"] (sp_growth_inputs K) := by
  refine T.growth_inputs.F.ok sc_growth_inputs (fun vs H Q E h => len_g h fun _ => rfl) (fun cdv A outer s H vs Q E hr h => ⟨_, PSs.nox (pss_cons (ps_if (pt_cmpR (op_eq) (pe_callB (kq_len (K := K)) (by rfl) T.z_len (by decide +kernel) (pa_cons (pv 1) pa_nil)) pe_int (nomark _)) (pss_one (ps_ret (pe_lst pa_nil))) pss_nil)
  (pss_cons (ps_asg (pe_call (ok_growth_beside T) (hr.mono (by omega)) (by rfl) T.growth_beside.g T.growth_beside.F.kp T.growth_beside.b .nil pass0 (pa_cons (pv 1) (pa_cons (pv 2) pa_nil))) (kg_tup (K := K) (n := 2) rfl (pgs_cons (pg_name (i := 3) sc_growth_inputs.nd rfl (Or.inl rfl)) (pgs_cons (pg_name (i := 4) sc_growth_inputs.nd rfl (Or.inl rfl)) pgs_nil))))
  (pss_one (ps_ret (pe_call (ok_way_inputs T) (hr.mono (by omega)) (by rfl) T.way_inputs.g T.way_inputs.F.kp T.way_inputs.b .nil pass0 (pa_cons (pv 0) (pa_cons (pv 1) (pa_cons (pv 3) (pa_cons (pv 4) pa_nil))))))))), fn_g h fun x p => ?_⟩)
  change DS K _ (Wp.E.d _ :: (Wp.E.d _ :: (Wp.E.d _ :: (Wp.E.any :: (Wp.E.any :: []))))) _ _ _ _
  obtain ⟨wd, W, b, P'⟩ := x
  obtain ⟨w4, w128, hW, hP, hs, hb⟩ := p
  dsimp only at w4 w128 hW hP hs hb ⊢
  obtain ⟨m1, m2⟩ := bes_mem W P' hP
  walk_at "d"
  refine ifd (fun hw0 => ?_) (fun hw0 => ?_)
  · walk_at "d"
    have : W = [] := List.length_eq_zero_iff.mp (by omega)
    subst this
    rfl
  walk_at "d"
  refine dc_g (W, b, P') rfl ⟨hW, hP⟩ ?_
  walk_at "D"
  refine dc_g (wd, W.reverse, false, (besN W P').reverse, endN W P') (by simp [sqD]) ⟨w4, w128, by rw [List.length_reverse]; exact hW, by rw [List.length_reverse, List.length_reverse, besN_len], fun y hy => hs y (List.mem_reverse.mp hy), fun y hy => hb y (m1 y (List.mem_reverse.mp hy)), hb _ m2⟩ ?_
  walk_at "D"
  rw [List.length_reverse]
/-- the root that a growth's proof tells -/
def treeP (wd : Int) (W : List (Nat × Bool)) (P : List Int) : Int := if W = [] then P.headD 0 else botN wd W.reverse (besN W P).reverse (endN W P) W.length
theorem upN_last {wd e : Int} {V : List (Nat × Bool)} {Q : List Int} {n : Nat} (h : 0 < n) : ∃ f : Int × List Int, (upN wd V Q e n).reverse[0]? = some f ∧ dgst wd f.1 f.2 = botN wd V Q e n ∧ ∃ i, i < n ∧ f = (1, numsN (botN wd V Q e i) (Q.getD i 0) (V.getD i (0, true))) := by
  obtain ⟨m, rfl⟩ : ∃ m, n = m + 1 := ⟨n - 1, by omega⟩
  refine ⟨(1, numsN (botN wd V Q e m) (Q.getD m 0) (V.getD m (0, true))), ?_, (by rw [botN]), m, by omega, rfl⟩
  rw [upN_succ, List.reverse_append]
  rfl
theorem sq_len {b : Bool} {ns : List Int} {k : Nat} {Q : E → Prop} (hk : k < ns.length) (q : Q (.d (.int (ns.getD k 0)))) : DR K (Wp.rIxS K) (.d (sqD b ns)) (.d (.int (k : Int))) Q :=
  dr_ixSq (n := ns.getD k 0) (by rw [List.getD_eq_getElem?_getD, List.getElem?_eq_getElem hk]; rfl) q
theorem headD_get {P : List Int} : P.headD 0 = P.getD 0 0 := by cases P <;> rfl
def sp_told_root (K : PySem.W.Frag) : Sp := spG K (fun x : Int × List (Nat × Bool) × Bool × List Int => [Hs K x.1, .lst (x.2.1.map stD), sqD x.2.2.1 x.2.2.2]) (fun x => 4 ≤ x.1 ∧ x.1 ≤ 128 ∧ x.2.1.length ≤ 1000 ∧ x.2.2.2.length = x.2.1.length + 1 ∧ (∀ y ∈ x.2.1, y.1 ≤ 1000) ∧ (∀ y ∈ x.2.2.2, Bd y)) fun x => .int (treeP x.1 x.2.1 x.2.2.2)
theorem ok_told_root (T : Txt K mg) : FnOk P w K mg base CX0 (5) (He.fAd K ("told_root", none)) T.fd_told_root ["hasher", "way", "proof"] (sp_told_root K) := by
  refine T.told_root.F.ok sc_told_root (fun vs H Q E h => len_g h fun _ => rfl) (fun cdv A outer s H vs Q E hr h => ⟨_, PSs.nox (pss_cons (ps_if (pt_cmpR (op_eq) (pe_callB (kq_len (K := K)) (by rfl) T.z_len (by decide +kernel) (pa_cons (pv 1) pa_nil)) pe_int (nomark _)) (pss_one (ps_ret (pe_ix (kx_seq (K := K)) (pv 2) pe_int (fun _ _ => rfl)))) pss_nil)
  (pss_cons (ps_asg (pe_ix (kx_list (K := K)) (pe_call (ok_growth_inputs T) (hr.mono (by omega)) (by rfl) T.growth_inputs.g T.growth_inputs.F.kp T.growth_inputs.b .nil pass0 (pa_cons (pv 0) (pa_cons (pv 1) (pa_cons (pv 2) pa_nil)))) pe_int (fun _ _ => rfl)) (kg_tup (K := K) (n := 2) rfl (pgs_cons (pg_name (i := 3) sc_told_root.nd rfl (Or.inl rfl)) (pgs_cons (pg_name (i := 4) sc_told_root.nd rfl (Or.inl rfl)) pgs_nil))))
  (pss_one (ps_ret (pe_meth (pv 0) T.cl_Hasher T.me_Hasher_digest (ok_Hasher_digest T) (hr.mono (by omega)) T.Hasher_digest.b .nil pass0 (pa_cons (pv 3) (pa_cons (pv 4) pa_nil))))))), fn_g h fun x p => ?_⟩)
  change DS K _ (Wp.E.d _ :: (Wp.E.d _ :: (Wp.E.d _ :: (Wp.E.any :: (Wp.E.any :: []))))) _ _ _ _
  obtain ⟨wd, W, b, P'⟩ := x
  obtain ⟨w4, w128, hW, hP, hs, hb⟩ := p
  dsimp only at w4 w128 hW hP hs hb ⊢
  walk_at "d"
  refine ifd (fun h => ?_) (fun h => ?_)
  · walk_at "d"
    refine sq_len (k := 0) (by omega) ?_
    walk_at "d"
    unfold treeP
    rw [if_pos (List.length_eq_zero_iff.mp (by omega)), headD_get]
  · have hne : W ≠ [] := fun z => h (by rw [z]; rfl)
    have hpos : 0 < W.length := by omega
    walk_at "d"
    refine dc_g (wd, W, b, P') rfl ⟨w4, w128, hW, hP, hs, hb⟩ ?_
    walk_at "D"
    obtain ⟨m1, m2⟩ := bes_mem W P' hP
    obtain ⟨f, f1, f2, i, hi, f3⟩ := upN_last (wd := wd) (e := endN W P') (V := W.reverse) (Q := (besN W P').reverse) hpos
    refine ⟨_, atI_map (k := 0) f1, ?_⟩
    walk_at "d"
    have hl : (limbs f.2).length ≤ 99000 := by
      rw [f3]
      exact nums_bd (hs _ (List.mem_reverse.mp (mem_getD (by rw [List.length_reverse]; exact hi) _))) (bot_bd w4 w128 (hb _ m2) i) (hb _ (m1 _ (List.mem_reverse.mp (mem_getD (by rw [List.length_reverse, besN_len]; exact hi) _))))
    refine dc_digest f.2 (.inr rfl) (by omega) w128 hl ?_
    walk_at "d"
    unfold treeP
    rw [if_neg hne, f2]
/-- the old root that a growth's proof tells: sizes and digests of the parts from the left, from the last one on -/
def accN (wd : Int) (S P : List Int) : Nat → Int × Int
  | 0 => (S.getD (S.length - 1) 0, P.getD (S.length - 1) 0)
  | i + 1 => ((accN wd S P i).1 + S.getD (S.length - 2 - i) 0, dgst wd 1 [(accN wd S P i).1 + S.getD (S.length - 2 - i) 0, P.getD (S.length - 2 - i) 0, (accN wd S P i).2])
def sizG (W : List (Nat × Bool)) : List Int := (W.filter fun s => !s.2).map fun s => (lft s.1 : Int)
def oldP (wd : Int) (W : List (Nat × Bool)) (o : Nat) (P : List Int) : Int := if o = 0 then rootN wd [] else if W = [] then P.headD 0 else (accN wd (sizG W) P ((sizG W).length - 1)).2
theorem sizG_mem {W : List (Nat × Bool)} (hs : ∀ y ∈ W, 2 ≤ y.1 ∧ y.1 ≤ 1000) : ∀ z ∈ sizG W, 0 ≤ z ∧ z ≤ 1000 := by
  intro z hz
  unfold sizG at hz
  obtain ⟨s, h1, rfl⟩ := List.mem_map.mp hz
  have h2 := hs s (List.mem_filter.mp h1).1
  have := lft_lt h2.1
  omega
theorem sizG_len (W : List (Nat × Bool)) : (sizG W).length ≤ W.length := by unfold sizG; rw [List.length_map]; exact List.length_filter_le _ _
theorem getD_rng {S : List Int} (hs : ∀ z ∈ S, 0 ≤ z ∧ z ≤ 1000) (i : Nat) : 0 ≤ S.getD i 0 ∧ S.getD i 0 ≤ 1000 := by
  by_cases h : i < S.length
  · exact hs _ (mem_getD h 0)
  · rw [List.getD_eq_getElem?_getD, List.getElem?_eq_none (by omega)]; exact ⟨by decide, by decide⟩
theorem acc_rng {wd : Int} {S P : List Int} (hs : ∀ z ∈ S, 0 ≤ z ∧ z ≤ 1000) : ∀ i : Nat, 0 ≤ (accN wd S P i).1 ∧ (accN wd S P i).1 ≤ 1000 * ((i : Int) + 1)
  | 0 => by rw [accN]; have := getD_rng hs (S.length - 1); dsimp only; omega
  | i + 1 => by
    have h1 := acc_rng (wd := wd) (P := P) hs i
    have h2 := getD_rng hs (S.length - 2 - i)
    rw [accN]; dsimp only; omega
theorem acc_bd {wd : Int} (h4 : 4 ≤ wd) (h : wd ≤ 128) {S P : List Int} (hp : ∀ y ∈ P, Itm y) (hl : S.length ≤ P.length) (h0 : 0 < S.length) : ∀ i : Nat, Itm (accN wd S P i).2
  | 0 => by rw [accN]; exact hp _ (mem_getD (by omega) 0)
  | i + 1 => by rw [accN]; exact ⟨(dgst_rng h4 h _ _).1, bd_dgst h4 h _ _⟩
theorem atI_neg1 {S : List Int} (h : 0 < S.length) : atI (S.map D.int) (-1) = some (.int (S.getD (S.length - 1) 0)) := by
  unfold L2.atI ixN
  rw [if_neg (by decide), if_pos (by rw [List.length_map]; omega), List.length_map]
  have e : ((-1 : Int) + (S.length : Int)).toNat = S.length - 1 := by omega
  show (S.map D.int)[((-1 : Int) + (S.length : Int)).toNat]? = _
  rw [e, List.getElem?_map, List.getD_eq_getElem?_getD, List.getElem?_eq_getElem (show S.length - 1 < S.length by omega)]
  rfl
def sp_told_old_root (K : PySem.W.Frag) : Sp := spG K (fun x : Int × List (Nat × Bool) × Nat × Bool × List Int => [Hs K x.1, .lst (x.2.1.map stD), .int (x.2.2.1 : Int), sqD x.2.2.2.1 x.2.2.2.2]) (fun x => 4 ≤ x.1 ∧ x.1 ≤ 128 ∧ x.2.1.length ≤ 1000 ∧ x.2.2.2.2.length = x.2.1.length + 1 ∧ (∀ y ∈ x.2.1, 2 ≤ y.1 ∧ y.1 ≤ 1000) ∧ (∀ y ∈ x.2.2.2.2, Itm y) ∧ (x.2.1 ≠ [] → sizG x.2.1 ≠ [])) fun x => .int (oldP x.1 x.2.1 x.2.2.1 x.2.2.2.2)
theorem ok_told_old_root (T : Txt K mg) : FnOk P w K mg base CX0 (41) (He.fAd K ("told_old_root", none)) T.fd_told_old_root ["hasher", "way", "old", "proof"] (sp_told_old_root K) := by
  refine T.told_old_root.F.ok sc_told_old_root (fun vs H Q E h => len_g h fun _ => rfl) (fun cdv A outer s H vs Q E hr h => ⟨_, PSs.nox (pss_cons (ps_if (pt_cmpR (op_eq) (pv 2) pe_int (nomark _)) (pss_one (ps_ret (pe_call (ok_list_root T) (hr.mono (by omega)) (by rfl) T.list_root.g T.list_root.F.kp T.list_root.b .nil pass0 (pa_cons (pv 0) (pa_cons (pe_lst pa_nil) pa_nil))))) pss_nil)
  (pss_cons (ps_if (pt_cmpR (op_eq) (pe_callB (kq_len (K := K)) (by rfl) T.z_len (by decide +kernel) (pa_cons (pv 1) pa_nil)) pe_int (nomark _)) (pss_one (ps_ret (pe_ix (kx_seq (K := K)) (pv 3) pe_int (fun _ _ => rfl)))) pss_nil)
  (pss_cons (ps_setLc (i := 4) (own := [("size", 5), ("goes_left", 8)]) rfl sc_told_old_root.nd rfl rfl (sw_true rfl rfl rfl (by decide +kernel)) (ki_list (K := K) (pv 1)) (blkOk_by (own := [("size", 5), ("goes_left", 8)]) (N := ["hasher", "way", "old", "proof", "sizes", "size", "root", "at", "goes_left"]) (sc := defScope s_told_old_root) (by decide +kernel)) (fun _ _ _ _ _ => kg_tup (K := K) (n := 2) rfl (pgs_cons (pg_name (i := 5) sc_told_old_root.nd rfl (Or.inl rfl)) (pgs_cons (pg_name (i := 8) sc_told_old_root.nd rfl (Or.inl rfl)) pgs_nil))) (fun _ _ _ _ _ => (pts_one (pt_not (pt_val (pv 8))))) (fun _ _ _ _ _ => (pe_call (ok_left_size T) (hr.mono (by omega)) (by rfl) T.left_size.g T.left_size.F.kp T.left_size.b .nil pass0 (pa_cons (pv 5) pa_nil))))
  (pss_cons (ps_set (i := 5) sc_told_old_root.nd rfl (Or.inl rfl) (pe_ix (kx_list (K := K)) (pv 4) (pe_un un_neg pe_int) (fun _ _ => rfl)))
  (pss_cons (ps_set (i := 6) sc_told_old_root.nd rfl (Or.inl rfl) (pe_ix (kx_seq (K := K)) (pv 3) (pe_op op_sub (pe_callB (kq_len (K := K)) (by rfl) T.z_len (by decide +kernel) (pa_cons (pv 4) pa_nil)) pe_int) (fun _ _ => rfl)))
  (pss_cons (ps_for PassesOwn.never rfl (pi_revR (by rfl) T.z_reversed (prg_1 (by rfl) T.z_range (pe_op op_sub (pe_callB (kq_len (K := K)) (by rfl) T.z_len (by decide +kernel) (pa_cons (pv 4) pa_nil)) pe_int))) (pg_name (i := 7) sc_told_old_root.nd rfl (Or.inl rfl)) (pss_cons (ps_aug (i := 5) sc_told_old_root.nd rfl (Or.inl rfl) (pe_ix (kx_list (K := K)) (pv 4) (pv 7) (fun _ _ => rfl)) ip_add)
  (pss_one (ps_set (i := 6) sc_told_old_root.nd rfl (Or.inl rfl) (pe_meth (pv 0) T.cl_Hasher T.me_Hasher_digest (ok_Hasher_digest T) (hr.mono (by omega)) T.Hasher_digest.b .nil pass0 (pa_cons (pe_glob (v := .int 1) rfl T.c_NODE_TAG.choose_spec ⟨_, rfl⟩) (pa_cons (pe_lst (pa_cons (pv 5) (pa_cons (pe_ix (kx_seq (K := K)) (pv 3) (pv 7) (fun _ _ => rfl)) (pa_cons (pv 6) pa_nil)))) pa_nil)))))))
  (pss_one (ps_ret (pv 6))))))))), fn_g h fun x p => ?_⟩)
  change DS K _ (Wp.E.d _ :: (Wp.E.d _ :: (Wp.E.d _ :: (Wp.E.d _ :: (Wp.E.any :: (Wp.E.any :: (Wp.E.any :: (Wp.E.any :: (Wp.E.any :: []))))))))) _ _ _ _
  obtain ⟨wd, W, o, b, P'⟩ := x
  obtain ⟨w4, w128, hW, hP, hs, hb, hS⟩ := p
  dsimp only at w4 w128 hW hP hs hb hS ⊢
  walk_at "d"
  refine ifd (fun h0 => ?_) (fun h0 => ?_)
  · walk_at "d"
    refine dc_g (wd, []) rfl ⟨w4, w128, by show 0 < 34; decide, by show 0 ≤ 100; decide, by intro y hy; simp at hy⟩ ?_
    walk_at "D"
    unfold oldP
    rw [if_pos (by omega)]
  walk_at "d"
  refine ifd (fun h1 => ?_) (fun h1 => ?_)
  · walk_at "d"
    refine sq_len (k := 0) (by omega) ?_
    walk_at "d"
    unfold oldP
    rw [if_neg (by omega), if_pos (List.length_eq_zero_iff.mp (by omega)), headD_get]
  have hne : W ≠ [] := fun z => h1 (by rw [z]; rfl)
  have hS1 := List.length_pos_iff.mpr (hS hne)
  have hS2 := sizG_len W
  have hS3 := sizG_mem hs
  have hac := acc_rng (wd := wd) (P := P') hS3
  have hab := acc_bd w4 w128 (S := sizG W) hb (by omega) hS1
  walk_at "d"
  refine de_new (dn_lcL ?_)
  walk_at "d"
  refine ⟨_, rfl, by rw [List.length_map]; omega, fun i acc => acc = ((W.take i).filter fun s => !s.2).map fun s => D.int (lft s.1 : Int), by simp, fun i acc p => by rw [p, List.length_map]; exact Nat.le_trans (List.length_filter_le _ _) (by rw [List.length_take]; omega), ?_, ?_⟩
  · rintro i d acc hd rfl
    rw [List.getElem?_map] at hd
    obtain ⟨⟨s, l⟩, hst, rfl⟩ := Option.map_eq_some_iff.mp hd
    have hsm := hs _ (List.mem_of_getElem? hst)
    refine dgw_pair (by decide) (by decide) rfl ?_
    cases l
    · walk_at "d"
      refine dc_g s rfl hsm ?_
      walk_at "D"
      rw [List.take_add_one, hst]
      simp
    · walk_at "d"
      show _ = ((W.take (i + 1)).filter _).map _
      rw [List.take_add_one, hst]
      simp
  · rintro acc rfl
    rw [List.length_map, List.take_length]
    have eS : (W.filter fun s => !s.2).map (fun s => D.int (lft s.1 : Int)) = (sizG W).map D.int := by unfold sizG; rw [List.map_map]; rfl
    have eO : oldP wd W o P' = (accN wd (sizG W) P' ((sizG W).length - 1)).2 := by unfold oldP; rw [if_neg (by omega), if_neg hne]
    rw [eS, eO]
    generalize sizG W = S at *
    walk_at "d"
    refine ⟨_, atI_neg1 hS1, ?_⟩
    walk_at "d"
    rw [show ((S.length : Int) - 1) = ((S.length - 1 : Nat) : Int) by omega]
    refine sq_len (k := S.length - 1) (by omega) ?_
    walk_at "d"
    refine ds_forRev1 ?_
    walk_at "d"
    rw [show ((S.length : Int) - 1) = ((S.length - 1 : Nat) : Int) by omega, Int.toNat_natCast]
    refine ⟨by omega, by omega, fun i ρ => ρ = [.d (Hs K wd), .d (.lst (W.map stD)), .d (.int (o : Int)), .d (sqD b P'), .d (lI S), .d (.int (accN wd S P' i).1), .d (.int (accN wd S P' i).2), .any, .any], ⟨_, by walk_at "le", rfl⟩, ?_, ?_⟩
    · rintro i ρ hi rfl
      have ei : (((S.length - 1 : Nat) : Int) - 1 - (i : Int)) = ((S.length - 2 - i : Nat) : Int) := by omega
      rw [ei]
      have hat : S.length - 2 - i < S.length := by omega
      have eat : S[S.length - 2 - i]? = some (S.getD (S.length - 2 - i) 0) := by rw [List.getD_eq_getElem?_getD, List.getElem?_eq_getElem hat]; rfl
      have e3 := hac (i + 1)
      have e4 := hac i
      have e5 : accN wd S P' (i + 1) = ((accN wd S P' i).1 + S.getD (S.length - 2 - i) 0, dgst wd 1 [(accN wd S P' i).1 + S.getD (S.length - 2 - i) 0, P'.getD (S.length - 2 - i) 0, (accN wd S P' i).2]) := by rw [accN]
      rw [e5] at e3
      dsimp only at e3
      walk_at "d"
      refine ⟨_, atI_map eat, ?_⟩
      walk_at "d"
      refine sq_len (k := S.length - 2 - i) (by omega) ?_
      walk_at "d"
      refine dc_digest [(accN wd S P' i).1 + S.getD (S.length - 2 - i) 0, P'.getD (S.length - 2 - i) 0, (accN wd S P' i).2] (.inl rfl) (by omega) w128 (itms_bd (by show 3 ≤ 120; decide) (itms3 (itm_small e3.1 (by omega)) (hb _ (mem_getD (by omega) 0)) (hab i))) ?_
      walk_at "d"
      refine ⟨_, ?_, rfl⟩
      rw [e5]
      walk_at "le"
    · rintro ρ rfl
      walk_at "d"
      rfl
def grownN (wd olr o root c : Int) (P : List Int) : Bool :=
  if 0 ≤ o ∧ o ≤ c then
    if c = 0 then decide (P.length = 0 ∧ olr = root ∧ root = rootN wd [])
    else if (stepsG c.toNat o.toNat).length + 1 = P.length ∧ P.all (isD wd) = true then
      decide (olr = oldP wd (stepsG c.toNat o.toNat) o.toNat P ∧ root = treeP wd (stepsG c.toNat o.toNat) P) else false
  else false
theorem sizG_ne : ∀ (n s o : Nat), s ≤ n → 0 < o → o < s → sizG (stepsG s o) ≠ []
  | 0, s, o, h, h0, h1 => by omega
  | n + 1, s, o, h, h0, h1 => by
    rw [stepsG_in ⟨h0, h1⟩]
    have hlt := lft_lt (n := s) (by omega)
    by_cases z : o < lft s
    · rw [if_pos z]
      have := sizG_ne n (lft s) o (by omega) h0 z
      unfold sizG at this ⊢
      simpa using this
    · rw [if_neg z]
      unfold sizG
      simp
def sp_growth_check (K : PySem.W.Frag) : Sp := spG K (fun x : Int × Int × Int × Int × Int × Bool × List Int => [Hs K x.1, .int x.2.1, .int x.2.2.1, .int x.2.2.2.1, .int x.2.2.2.2.1, sqD x.2.2.2.2.2.1 x.2.2.2.2.2.2]) (fun x => 4 ≤ x.1 ∧ x.1 ≤ 128 ∧ x.2.2.2.2.1 ≤ 999 ∧ x.2.2.2.2.2.2.length ≤ 999)
  fun x => .bl (grownN x.1 x.2.1 x.2.2.1 x.2.2.2.1 x.2.2.2.2.1 x.2.2.2.2.2.2)
theorem ok_growth_check (T : Txt K mg) : FnOk P w K mg base CX0 (42) (He.fAd K ("growth_check", none)) T.fd_growth_check ["hasher", "old_root", "old", "root", "count", "proof"] (sp_growth_check K) := by
  refine T.growth_check.F.ok sc_growth_check (fun vs H Q E h => len_g h fun _ => rfl) (fun cdv A outer s H vs Q E hr h => ⟨_, PSs.nox (pss_cons (ps_if (pt_not (pt_chain (op_le) (op_le) pe_int (pv 2) (pv 4))) (pss_one (ps_ret pe_bl)) pss_nil)
  (pss_cons (ps_if (pt_cmpR (op_eq) (pv 4) pe_int (nomark _)) (pss_one (ps_ret (pe_and (pe_cmpR (op_eq) (pe_callB (kq_len (K := K)) (by rfl) T.z_len (by decide +kernel) (pa_cons (pv 5) pa_nil)) pe_int (nomark _)) (pe_and (pe_cmpR (op_eq) (pv 1) (pv 3) (nomark _)) (pe_one (pe_cmpR (op_eq) (pv 3) (pe_call (ok_list_root T) (hr.mono (by omega)) (by rfl) T.list_root.g T.list_root.F.kp T.list_root.b .nil pass0 (pa_cons (pv 0) (pa_cons (pe_lst pa_nil) pa_nil))) (nomark _))))))) pss_nil)
  (pss_cons (ps_set (i := 6) sc_growth_check.nd rfl (Or.inl rfl) (pe_call (ok_growth_way T) (hr.mono (by omega)) (by rfl) T.growth_way.g T.growth_way.F.kp T.growth_way.b .nil pass0 (pa_cons (pv 4) (pa_cons (pv 2) (pa_cons (pe_callB (kq_len (K := K)) (by rfl) T.z_len (by decide +kernel) (pa_cons (pv 5) pa_nil)) pa_nil)))))
  (pss_cons (ps_if (PW.pt (pw_or (pt_cmpR (op_ne) (pe_op op_add (pe_callB (kq_len (K := K)) (by rfl) T.z_len (by decide +kernel) (pa_cons (pv 6) pa_nil)) pe_int) (pe_callB (kq_len (K := K)) (by rfl) T.z_len (by decide +kernel) (pa_cons (pv 5) pa_nil)) (nomark _)) (pw_or1 (pt_not (pt_val (pe_call (ok_are_digests T) (hr.mono (by omega)) (by rfl) T.are_digests.g T.are_digests.F.kp T.are_digests.b .nil pass0 (pa_cons (pv 0) (pa_cons (pv 5) pa_nil)))))))) (pss_one (ps_ret pe_bl)) pss_nil)
  (pss_cons (ps_if (pt_cmpR (op_ne) (pv 1) (pe_call (ok_told_old_root T) (hr.mono (by omega)) (by rfl) T.told_old_root.g T.told_old_root.F.kp T.told_old_root.b .nil pass0 (pa_cons (pv 0) (pa_cons (pv 6) (pa_cons (pv 2) (pa_cons (pv 5) pa_nil))))) (nomark _)) (pss_one (ps_ret pe_bl)) pss_nil)
  (pss_one (ps_ret (pe_cmpR (op_eq) (pv 3) (pe_call (ok_told_root T) (hr.mono (by omega)) (by rfl) T.told_root.g T.told_root.F.kp T.told_root.b .nil pass0 (pa_cons (pv 0) (pa_cons (pv 6) (pa_cons (pv 5) pa_nil)))) (nomark _))))))))), fn_g h fun x p => ?_⟩)
  change DS K _ (Wp.E.d _ :: (Wp.E.d _ :: (Wp.E.d _ :: (Wp.E.d _ :: (Wp.E.d _ :: (Wp.E.d _ :: (Wp.E.any :: []))))))) _ _ _ _
  obtain ⟨wd, olr, o, root, c, b, P'⟩ := x
  obtain ⟨w4, w128, hc, hP⟩ := p
  dsimp only at w4 w128 hc hP ⊢
  have no : ∀ h : ¬ (0 ≤ o ∧ o ≤ c), grownN wd olr o root c P' = false := fun h => by unfold grownN; rw [if_neg h]
  walk_at "d"
  refine ifd (fun ho => ?_) (fun ho => ?_)
  case refine_2 =>
    walk_at "d"
    rw [no (by omega)]
  walk_at "d"
  cases hoc : decide (o ≤ c)
  · have := of_decide_eq_false hoc
    walk_at "d"
    rw [no (by omega)]
  have hoc' := of_decide_eq_true hoc
  walk_at "d"
  refine ifd (fun hc0 => ?_) (fun hc0 => ?_)
  · walk_at "d"
    refine db_lenSq ?_
    walk_at "d"
    have e0 : grownN wd olr o root c P' = decide (P'.length = 0 ∧ olr = root ∧ root = rootN wd []) := by unfold grownN; rw [if_pos ⟨ho, hoc'⟩, if_pos hc0]
    rw [e0]
    refine ifd (fun h1 => ?_) (fun h1 => ?_)
    · walk_at "d"
      refine ifd (fun h2 => ?_) (fun h2 => ?_)
      · walk_at "d"
        refine dc_g (wd, []) rfl ⟨w4, w128, by show 0 < 34; decide, by show 0 ≤ 100; decide, by intro y hy; simp at hy⟩ ?_
        walk_at "D"
        congr 1
        exact decide_eq_decide.mpr ⟨fun z => ⟨by omega, h2, z⟩, fun z => z.2.2⟩
      · walk_at "d"
        rw [decide_eq_false (fun z => h2 z.2.1)]
    · walk_at "d"
      rw [decide_eq_false (fun z => h1 (by omega))]
  walk_at "d"
  refine db_lenSq ?_
  walk_at "d"
  obtain ⟨c, rfl⟩ := Int.eq_ofNat_of_zero_le (show 0 ≤ c by omega)
  obtain ⟨o, rfl⟩ := Int.eq_ofNat_of_zero_le (show 0 ≤ o by omega)
  have hW1 := stepsG_le 999 c o (by omega)
  have hW2 := stepsG_len 999 c o (by omega)
  have no2 : ∀ h : ¬ ((stepsG c o).length + 1 = P'.length ∧ P'.all (isD wd) = true), grownN wd olr (o : Int) root (c : Int) P' = false := fun h => by unfold grownN; rw [if_pos ⟨ho, hoc'⟩, if_neg hc0, Int.toNat_natCast, Int.toNat_natCast, if_neg h]
  have hcond : ∀ {W : List (Nat × Bool)}, W = (stepsG c o).take P'.length → (W.length + 1 = P'.length ↔ (stepsG c o).length + 1 = P'.length) := fun {W} e => by rw [e, List.length_take]; omega
  refine dc_g (c, o, P'.length) rfl ⟨by show c ≤ 1000; omega, by show P'.length ≤ 1000; omega⟩ ?_
  walk_at "D"
  refine db_lenSq ?_
  walk_at "d"
  refine ifn (fun hne => ?_) (fun heq => ?_)
  · walk_at "d"
    rw [no2 (fun z => hne (by have := (hcond rfl).mpr z.1; omega))]
  have e2 := (hcond rfl).mp (by omega)
  rw [List.take_of_length_le (by omega)]
  walk_at "d"
  refine dc_g (wd, b, P') rfl ⟨w4, w128, by show P'.length ≤ 10000; omega⟩ ?_
  walk_at "D"
  cases ha : P'.all (isD wd)
  · walk_at "d"
    rw [no2 (fun z => by rw [ha] at z; exact absurd z.2 (by decide))]
  have hb : ∀ y ∈ P', Itm y := fun y hy => ⟨(of_decide_eq_true (List.all_eq_true.mp ha y hy)).1, bd_isD w128 (List.all_eq_true.mp ha y hy)⟩
  have hSne : stepsG c o ≠ [] → sizG (stepsG c o) ≠ [] := fun z => by
    by_cases q : 0 < o ∧ o < c
    · exact sizG_ne 999 c o (by omega) q.1 q.2
    · exact absurd (stepsG_no q) z
  have e0 : grownN wd olr (o : Int) root (c : Int) P' = decide (olr = oldP wd (stepsG c o) o P' ∧ root = treeP wd (stepsG c o) P') := by unfold grownN; rw [if_pos ⟨ho, hoc'⟩, if_neg hc0, Int.toNat_natCast, Int.toNat_natCast, if_pos ⟨e2, ha⟩]
  rw [e0]
  walk_at "d"
  refine dc_g (wd, stepsG c o, o, b, P') rfl ⟨w4, w128, by show (stepsG c o).length ≤ 1000; omega, e2.symm, fun y hy => ⟨(hW1 y hy).1, by have := (hW1 y hy).2; omega⟩, hb, hSne⟩ ?_
  walk_at "D"
  refine ifn (fun h1 => ?_) (fun h1 => ?_)
  · walk_at "d"
    rw [decide_eq_false (fun z => h1 z.1)]
  walk_at "d"
  refine dc_g (wd, stepsG c o, b, P') rfl ⟨w4, w128, by show (stepsG c o).length ≤ 1000; omega, e2.symm, fun y hy => by have := (hW1 y hy).2; omega, fun y hy => (hb y hy).2⟩ ?_
  walk_at "D"
  congr 1
  exact decide_eq_decide.mpr ⟨fun z => ⟨h1, z⟩, fun z => z.2⟩

/-! ### growths: both ways of telling are one -/
def treeR (wd : Int) : List (Nat × Bool) → List Int → Int
  | [], P => P.headD 0
  | (s, true) :: W, P => dgst wd 1 [(s : Int), treeR wd W P.dropLast, P.getLastD 0]
  | (s, false) :: W, P => dgst wd 1 [(s : Int), P.headD 0, treeR wd W P.tail]
theorem bot_tree {wd : Int} : ∀ (W : List (Nat × Bool)) (P : List Int), botN wd W.reverse (besN W P).reverse (endN W P) W.length = treeR wd W P
  | [], P => by rw [treeR]; show botN wd [] [] (endN [] P) 0 = _; rw [botN, endN]
  | (s, true) :: W, P => by
    rw [besN, endN, List.reverse_cons, List.reverse_cons, List.length_cons, bot_snoc' (by rw [List.length_reverse, besN_len]), bot_tree W, treeR]
    rfl
  | (s, false) :: W, P => by
    rw [besN, endN, List.reverse_cons, List.reverse_cons, List.length_cons, bot_snoc' (by rw [List.length_reverse, besN_len]), bot_tree W, treeR]
    rfl
theorem treeP_eq (wd : Int) (W : List (Nat × Bool)) (P : List Int) : treeP wd W P = treeR wd W P := by
  unfold treeP
  split
  · rename_i h; rw [h, treeR]
  · exact bot_tree W P
def piecesN (c : Nat) (o : Int) : List (Nat × Bool) := if c = 0 then [] else if h : o ≤ 0 ∨ o ≥ (c : Int) then [(c, decide (o ≥ (c : Int)))] else piecesN (lft c) o ++ piecesN (c - lft c) (o - (lft c : Int))
termination_by c
decreasing_by
  · exact lft_lt (by omega)
  · have := lft_pos c; omega
theorem pieces_0 (o : Int) : piecesN 0 o = [] := by rw [piecesN, if_pos rfl]
theorem pieces_1 {c : Nat} {o : Int} (hc : c ≠ 0) (h : o ≤ 0 ∨ o ≥ (c : Int)) : piecesN c o = [(c, decide (o ≥ (c : Int)))] := by rw [piecesN, if_neg hc, dif_pos h]
theorem pieces_in {c : Nat} {o : Int} (h : ¬ (o ≤ 0 ∨ o ≥ (c : Int))) : piecesN c o = piecesN (lft c) o ++ piecesN (c - lft c) (o - (lft c : Int)) := by rw [piecesN, if_neg (by omega), dif_neg h]
def sizN (W : List (Nat × Bool)) : List Nat := (W.filter fun s => !s.2).map fun s => lft s.1
theorem siz_N (W : List (Nat × Bool)) : sizG W = (sizN W).map (fun n : Nat => (n : Int)) := by unfold sizG sizN; rw [List.map_map]; rfl
theorem sizN_t (s : Nat) (W : List (Nat × Bool)) : sizN ((s, true) :: W) = sizN W := by unfold sizN; simp
theorem sizN_f (s : Nat) (W : List (Nat × Bool)) : sizN ((s, false) :: W) = lft s :: sizN W := by unfold sizN; simp
theorem pieces_eq : ∀ (n c o : Nat), c ≤ n → 0 < o → o < c → ∃ R : List (Nat × Bool), piecesN c o = (sizN (stepsG c o)).map (fun z => (z, true)) ++ R ∧ ∀ y ∈ R, y.2 = false
  | 0, c, o, h, h0, h1 => by omega
  | n + 1, c, o, h, h0, h1 => by
    have hlt := lft_lt (n := c) (by omega)
    have hlp := lft_pos c
    rw [pieces_in (by omega), stepsG_in ⟨h0, h1⟩]
    by_cases z : o < lft c
    · obtain ⟨R, e, hr⟩ := pieces_eq n (lft c) o (by omega) h0 z
      rw [if_pos z, sizN_t, e, pieces_1 (by omega) (.inl (by omega))]
      refine ⟨R ++ [(c - lft c, decide ((o : Int) - (lft c : Int) ≥ ((c - lft c : Nat) : Int)))], by rw [List.append_assoc], fun y hy => ?_⟩
      rcases List.mem_append.mp hy with hy | hy
      · exact hr y hy
      · simp at hy; rw [hy]; exact decide_eq_false (by omega)
    · rw [if_neg z, sizN_f, pieces_1 (c := lft c) (by omega) (.inr (by omega)), show decide ((o : Int) ≥ (lft c : Int)) = true from decide_eq_true (by omega)]
      by_cases q : o = lft c
      · rw [pieces_1 (by omega) (.inl (by omega)), stepsG_no (by omega)]
        refine ⟨[(c - lft c, decide ((o : Int) - (lft c : Int) ≥ ((c - lft c : Nat) : Int)))], rfl, fun y hy => ?_⟩
        simp at hy; rw [hy]; exact decide_eq_false (by omega)
      · obtain ⟨R, e, hr⟩ := pieces_eq n (c - lft c) (o - lft c) (by omega) (by omega) (by omega)
        rw [show (o : Int) - (lft c : Int) = ((o - lft c : Nat) : Int) by omega, e]
        exact ⟨R, rfl, hr⟩
theorem pieces_len : ∀ (n c o : Nat), c ≤ n → 1 ≤ c → (piecesN c o).length = (stepsG c o).length + 1
  | 0, c, o, h, h1 => by omega
  | n + 1, c, o, h, h1 => by
    by_cases q : 0 < o ∧ o < c
    · have hlt := lft_lt (n := c) (by omega)
      have hlp := lft_pos c
      rw [pieces_in (by omega), stepsG_in q, List.length_append]
      by_cases z : o < lft c
      · rw [if_pos z, pieces_len n (lft c) o (by omega) (by omega), pieces_1 (by omega) (.inl (by omega))]
        simp
      · rw [if_neg z, pieces_1 (c := lft c) (by omega) (.inr (by omega)), show (o : Int) - (lft c : Int) = ((o - lft c : Nat) : Int) by omega, pieces_len n (c - lft c) (o - lft c) (by omega) (by omega)]
        simp; omega
    · rw [pieces_1 (by omega) (by omega), stepsG_no q]
      rfl
def whlN (wd : Int) (c : Nat) (o : Int) (P : List Int) : Int × List Int × List (Int × List Int) :=
  if h : o ≤ 0 ∨ o ≥ (c : Int) then (P.headD 0, P.tail, [])
  else
    (dgst wd 1 [(c : Int), (whlN wd (lft c) o P).1, (whlN wd (c - lft c) (o - (lft c : Int)) (whlN wd (lft c) o P).2.1).1], (whlN wd (c - lft c) (o - (lft c : Int)) (whlN wd (lft c) o P).2.1).2.1,
      (1, [(c : Int), (whlN wd (lft c) o P).1, (whlN wd (c - lft c) (o - (lft c : Int)) (whlN wd (lft c) o P).2.1).1]) :: ((whlN wd (lft c) o P).2.2 ++ (whlN wd (c - lft c) (o - (lft c : Int)) (whlN wd (lft c) o P).2.1).2.2))
termination_by c
decreasing_by
  all_goals first | exact lft_lt (by omega) | (have := lft_pos c; omega)
theorem whl_1 {wd : Int} {c : Nat} {o : Int} {P : List Int} (h : o ≤ 0 ∨ o ≥ (c : Int)) : whlN wd c o P = (P.headD 0, P.tail, []) := by rw [whlN, dif_pos h]
theorem whl_in {wd : Int} {c : Nat} {o : Int} {P : List Int} (h : ¬ (o ≤ 0 ∨ o ≥ (c : Int))) : whlN wd c o P = (dgst wd 1 [(c : Int), (whlN wd (lft c) o P).1, (whlN wd (c - lft c) (o - (lft c : Int)) (whlN wd (lft c) o P).2.1).1], (whlN wd (c - lft c) (o - (lft c : Int)) (whlN wd (lft c) o P).2.1).2.1,
      (1, [(c : Int), (whlN wd (lft c) o P).1, (whlN wd (c - lft c) (o - (lft c : Int)) (whlN wd (lft c) o P).2.1).1]) :: ((whlN wd (lft c) o P).2.2 ++ (whlN wd (c - lft c) (o - (lft c : Int)) (whlN wd (lft c) o P).2.1).2.2)) := by rw [whlN, dif_neg h]
theorem headD_take1 {P : List Int} : (P.take 1).headD 0 = P.headD 0 := by cases P <;> rfl
theorem headD_drop {P : List Int} {k : Nat} (h : k < P.length) : (P.drop k).headD 0 = P.getD k 0 := by
  rw [List.drop_eq_getElem_cons h, List.getD_eq_getElem?_getD, List.getElem?_eq_getElem h]; rfl
theorem whl_tree {wd : Int} : ∀ (n c o : Nat) (P : List Int), c ≤ n → 1 ≤ c → (stepsG c o).length + 1 ≤ P.length →
    (whlN wd c o P).1 = treeR wd (stepsG c o) (P.take ((stepsG c o).length + 1)) ∧ (whlN wd c o P).2.1 = P.drop ((stepsG c o).length + 1)
  | 0, c, o, P, h, h1, hP => by omega
  | n + 1, c, o, P, h, h1, hP => by
    by_cases q : 0 < o ∧ o < c
    · have hlt := lft_lt (n := c) (by omega)
      have hlp := lft_pos c
      rw [whl_in (by omega)]
      rw [stepsG_in q] at hP ⊢
      by_cases z : o < lft c
      · rw [if_pos z, List.length_cons] at hP
        rw [if_pos z, List.length_cons]
        obtain ⟨i1, i2⟩ := whl_tree (wd := wd) n (lft c) o P (by omega) (by omega) (by omega)
        generalize stepsG (lft c) o = W at *
        rw [i1, i2, whl_1 (.inl (by omega)), treeR]
        have w1 := win_init (P := P) (lo := 0) (n := W.length + 1) (by omega)
        have w2 := win_last (P := P) (lo := 0) (n := W.length + 1) (by omega)
        rw [List.drop_zero] at w1 w2
        rw [w1, w2, Nat.zero_add, headD_drop (by omega)]
        refine ⟨rfl, ?_⟩
        show (P.drop (W.length + 1)).tail = _
        rw [List.tail_drop]
      · rw [if_neg z, List.length_cons] at hP
        rw [if_neg z, List.length_cons]
        rw [whl_1 (c := lft c) (.inr (by omega)), show (o : Int) - (lft c : Int) = ((o - lft c : Nat) : Int) by omega]
        obtain ⟨i1, i2⟩ := whl_tree (wd := wd) n (c - lft c) (o - lft c) P.tail (by omega) (by omega) (by rw [List.length_tail]; omega)
        generalize stepsG (c - lft c) (o - lft c) = W at *
        dsimp only
        rw [i1, i2, treeR]
        cases P with
        | nil => simp at hP
        | cons a P => exact ⟨rfl, rfl⟩
    · rw [whl_1 (by omega), stepsG_no q, treeR]
      refine ⟨headD_take1.symm, ?_⟩
      cases P <;> rfl
theorem grow_tree {wd : Int} : ∀ (n : Nat) (xs : List Int) (o : Nat), xs.length ≤ n → 1 ≤ xs.length →
    (growN wd xs o).length = (stepsG xs.length o).length + 1 ∧ treeR wd (stepsG xs.length o) (growN wd xs o) = rootN wd xs
  | 0, xs, o, h, h1 => by omega
  | n + 1, xs, o, h, h1 => by
    by_cases q : 0 < o ∧ o < xs.length
    · have hlt := lft_lt (n := xs.length) (by omega)
      have hlp := lft_pos xs.length
      have l1 : (xs.take (lft xs.length)).length = lft xs.length := by rw [List.length_take]; omega
      have l2 : (xs.drop (lft xs.length)).length = xs.length - lft xs.length := List.length_drop
      rw [growN_in (by omega), stepsG_in q, rootN_ge (by omega)]
      by_cases z : o < lft xs.length
      · obtain ⟨i1, i2⟩ := grow_tree (wd := wd) n (xs.take (lft xs.length)) o (by omega) (by omega)
        rw [l1] at i1 i2
        rw [if_pos z, growN_1 (xs := xs.drop (lft xs.length)) (by omega) (by omega), treeR, List.dropLast_concat, i2]
        refine ⟨by rw [List.length_append, i1]; rfl, ?_⟩
        rw [List.getLastD_concat]
      · rw [if_neg z, growN_1 (xs := xs.take (lft xs.length)) (by omega) (by omega), show (o : Int) - (lft xs.length : Int) = ((o - lft xs.length : Nat) : Int) by omega]
        obtain ⟨i1, i2⟩ := grow_tree (wd := wd) n (xs.drop (lft xs.length)) (o - lft xs.length) (by omega) (by omega)
        rw [l2] at i1 i2
        refine ⟨by rw [List.length_append, i1, List.length_cons, List.length_cons]; simp; omega, ?_⟩
        rw [treeR]
        show dgst wd 1 [_, rootN wd _, treeR wd _ (growN wd _ _)] = _
        rw [i2]
    · rw [growN_1 (by omega) (by omega), stepsG_no q, treeR]
      exact ⟨rfl, rfl⟩
def oldR (wd : Int) : List Int → List Int → Int
  | [], _ => 0
  | [_], P => P.headD 0
  | s :: S, P => dgst wd 1 [(s :: S).sum, P.headD 0, oldR wd S P.tail]
theorem oldR_cons {wd s : Int} {S P : List Int} (h : S ≠ []) : oldR wd (s :: S) P = dgst wd 1 [(s :: S).sum, P.headD 0, oldR wd S P.tail] := by
  cases S with
  | nil => exact absurd rfl h
  | cons t S => rw [oldR]; exact fun e => nomatch e
theorem acc_old {wd : Int} {S P : List Int} (hP : S.length ≤ P.length) (h0 : 0 < S.length) : ∀ i, i < S.length → accN wd S P i = ((S.drop (S.length - 1 - i)).sum, oldR wd (S.drop (S.length - 1 - i)) (P.drop (S.length - 1 - i)))
  | 0, _ => by
    have hl : S.length - 1 < S.length := by omega
    rw [accN, Nat.sub_zero, List.drop_eq_getElem_cons hl, List.drop_of_length_le (by omega), oldR, headD_drop (by omega), List.getD_eq_getElem?_getD, List.getElem?_eq_getElem hl]
    simp
  | i + 1, hi => by
    have hj : S.length - 2 - i < S.length := by omega
    have ej : S.length - 1 - (i + 1) = S.length - 2 - i := by omega
    have ej2 : S.length - 1 - i = S.length - 2 - i + 1 := by omega
    rw [accN, acc_old hP h0 i (by omega), ej, ej2, List.drop_eq_getElem_cons hj, oldR_cons (fun z => by have := congrArg List.length z; rw [List.length_drop] at this; simp at this; omega), headD_drop (by omega), List.tail_drop, List.getD_eq_getElem?_getD, List.getElem?_eq_getElem hj]
    rw [List.sum_cons, Int.add_comm]
    rfl
theorem acc_all {wd : Int} {S P : List Int} (hP : S.length ≤ P.length) (h0 : 0 < S.length) : accN wd S P (S.length - 1) = (S.sum, oldR wd S P) := by
  rw [acc_old hP h0 _ (by omega), Nat.sub_self, List.drop_zero, List.drop_zero]
theorem oldR_app {wd : Int} : ∀ (S A B : List Int), S.length ≤ A.length → oldR wd S (A ++ B) = oldR wd S A
  | [], A, B, _ => by rw [oldR, oldR]
  | [s], A, B, h => by
    rw [oldR, oldR]
    cases A with
    | nil => simp at h
    | cons a A => rfl
  | s :: t :: S, A, B, h => by
    cases A with
    | nil => simp at h
    | cons a A =>
      rw [oldR_cons (S := t :: S) (P := a :: A ++ B) (fun z => by cases z), oldR_cons (S := t :: S) (P := a :: A) (fun z => by cases z), List.cons_append, List.headD_cons, List.headD_cons, List.tail_cons, List.tail_cons, oldR_app (t :: S) A B (by simp at h ⊢; omega)]
theorem sizG_t (s : Nat) (W : List (Nat × Bool)) : sizG ((s, true) :: W) = sizG W := by unfold sizG; simp
theorem sizG_f (s : Nat) (W : List (Nat × Bool)) : sizG ((s, false) :: W) = (lft s : Int) :: sizG W := by unfold sizG; simp
theorem grow_old {wd : Int} : ∀ (n : Nat) (xs : List Int) (o : Nat), xs.length ≤ n → 0 < o → o < xs.length →
    oldR wd (sizG (stepsG xs.length o)) (growN wd xs o) = rootN wd (xs.take o) ∧ (sizG (stepsG xs.length o)).sum = (o : Int)
  | 0, xs, o, h, h0, h1 => by omega
  | n + 1, xs, o, h, h0, h1 => by
    have hlt := lft_lt (n := xs.length) (by omega)
    have hlp := lft_pos xs.length
    have l1 : (xs.take (lft xs.length)).length = lft xs.length := by rw [List.length_take]; omega
    have l2 : (xs.drop (lft xs.length)).length = xs.length - lft xs.length := List.length_drop
    rw [growN_in (by omega), stepsG_in ⟨h0, h1⟩]
    by_cases z : o < lft xs.length
    · obtain ⟨i1, i2⟩ := grow_old (wd := wd) n (xs.take (lft xs.length)) o (by omega) h0 (by omega)
      obtain ⟨g1, _⟩ := grow_tree (wd := wd) n (xs.take (lft xs.length)) o (by omega) (by omega)
      rw [l1] at i1 i2 g1
      have hs := sizG_len (stepsG (lft xs.length) o)
      rw [if_pos z, sizG_t, oldR_app _ _ _ (by omega), i1, List.take_take, Nat.min_eq_left (by omega)]
      exact ⟨rfl, i2⟩
    · rw [if_neg z, sizG_f, growN_1 (xs := xs.take (lft xs.length)) (by omega) (by omega), show (o : Int) - (lft xs.length : Int) = ((o - lft xs.length : Nat) : Int) by omega]
      by_cases q : o = lft xs.length
      · rw [stepsG_no (by omega)]
        show oldR wd [(lft xs.length : Int)] _ = _ ∧ [(lft xs.length : Int)].sum = _
        rw [oldR, q]
        exact ⟨rfl, by simp⟩
      · obtain ⟨i1, i2⟩ := grow_old (wd := wd) n (xs.drop (lft xs.length)) (o - lft xs.length) (by omega) (by omega) (by omega)
        rw [l2] at i1 i2
        have hne := sizG_ne n (xs.length - lft xs.length) (o - lft xs.length) (by omega) (by omega) (by omega)
        have lo : (xs.take o).length = o := by rw [List.length_take]; omega
        have el : lft o = lft xs.length := by
          have hge := lft_ge (n := xs.length) (by omega)
          unfold lft at hge z q ⊢
          exact (lft_uniq (n := o) (j := (xs.length - 1).log2) (by omega) (by omega)).symm
        rw [oldR_cons hne, List.sum_cons, i2, rootN_ge (xs := xs.take o) (by omega), lo, el, List.take_take, Nat.min_eq_left (by omega), List.drop_take]
        have es : (lft xs.length : Int) + ((o - lft xs.length : Nat) : Int) = (o : Int) := by omega
        rw [es]
        refine ⟨?_, rfl⟩
        show dgst wd 1 [_, rootN wd _, oldR wd _ (growN wd _ _)] = _
        rw [i1]
theorem grown_true {wd : Int} (h4 : 4 ≤ wd) (h : wd ≤ 128) {xs : List Int} {o : Nat} (ho : o ≤ xs.length) : grownN wd (rootN wd (xs.take o)) (o : Int) (rootN wd xs) (xs.length : Int) (growN wd xs o) = true := by
  unfold grownN
  rw [if_pos ⟨by omega, by omega⟩]
  by_cases z : xs.length = 0
  · have : xs = [] := List.length_eq_zero_iff.mp z
    subst this
    rw [if_pos (by rfl), growN_0 rfl]
    exact decide_eq_true ⟨rfl, by rw [List.take_nil], rfl⟩
  · obtain ⟨g1, g2⟩ := grow_tree (wd := wd) xs.length xs o (Nat.le_refl _) (by omega)
    rw [if_neg (by omega), Int.toNat_natCast, Int.toNat_natCast, if_pos ⟨g1.symm, List.all_eq_true.mpr fun y hy => decide_eq_true (growN_itm h4 h _ xs o (Nat.le_refl _) y hy)⟩, treeP_eq, g2]
    refine decide_eq_true ⟨?_, rfl⟩
    unfold oldP
    by_cases h0 : o = 0
    · rw [if_pos h0, h0]; rfl
    · rw [if_neg h0]
      by_cases hl : o < xs.length
      · have hne := sizG_ne xs.length xs.length o (Nat.le_refl _) (by omega) hl
        have hW : stepsG xs.length o ≠ [] := fun e => hne (by rw [e]; rfl)
        have hs := sizG_len (stepsG xs.length o)
        rw [if_neg hW, acc_all (by omega) (List.length_pos_iff.mpr hne), (grow_old xs.length xs o (Nat.le_refl _) (by omega) hl).1]
      · rw [if_pos (stepsG_no (by omega)), growN_1 (by omega) z, List.take_of_length_le (by omega)]
        rfl

/-! ### growths: the law -/
def sp_pc (K : PySem.W.Frag) (n : Nat) : Sp := spG K (fun x : Nat × Int => [.int (x.1 : Int), .int x.2]) (fun x => x.1 < n ∧ x.1 ≤ 1000) fun x => .lst ((piecesN x.1 x.2).map stD)
theorem pieces_le : ∀ (n c : Nat) (o : Int), c ≤ n → (piecesN c o).length ≤ c
  | 0, c, o, h => by
    have : c = 0 := by omega
    subst this; rw [pieces_0]; simp
  | n + 1, c, o, h => by
    by_cases z : c = 0
    · subst z; rw [pieces_0]; simp
    · by_cases q : o ≤ 0 ∨ o ≥ (c : Int)
      · rw [pieces_1 z q]; simp; omega
      · have hlt := lft_lt (n := c) (by omega)
        have hlp := lft_pos c
        rw [pieces_in q, List.length_append]
        have := pieces_le n (lft c) o (by omega)
        have := pieces_le n (c - lft c) (o - (lft c : Int)) (by omega)
        omega
theorem ok_pc_step (T : Txt K mg) (n : Nat) (IH : FnOk P w K mg base CX0 (6 + n) (He.fAd K ("_law_pieces", none)) T.fd__law_pieces ["count", "old"] (sp_pc K n)) : FnOk P w K mg base CX0 (6 + n + 1) (He.fAd K ("_law_pieces", none)) T.fd__law_pieces ["count", "old"] (sp_pc K (n + 1)) := by
  refine T._law_pieces.F.ok sc__law_pieces (fun vs H Q E h => len_g h fun _ => rfl) (fun cdv A outer s H vs Q E hr h => ⟨_, PSs.nox (pss_cons (ps_if (pt_cmpR (op_eq) (pv 0) pe_int (nomark _)) (pss_one (ps_ret (pe_lst pa_nil))) pss_nil)
  (pss_cons (ps_if (PW.pt (pw_or (pt_cmpR (op_le) (pv 1) pe_int (nomark _)) (pw_or1 (pt_cmpR (op_ge) (pv 1) (pv 0) (nomark _))))) (pss_one (ps_ret (pe_lst (pa_cons (pe_tup (pa_cons (pv 0) (pa_cons (pe_cmpR (op_ge) (pv 1) (pv 0) (nomark _)) pa_nil))) pa_nil)))) pss_nil)
  (pss_cons (ps_set (i := 2) sc__law_pieces.nd rfl (Or.inl rfl) (pe_call (ok__law_part T) (hr.mono (by omega)) (by rfl) T._law_part.g T._law_part.F.kp T._law_part.b .nil pass0 (pa_cons (pv 0) pa_nil)))
  (pss_one (ps_ret (pe_op op_cat (pe_call IH (hr.mono (by omega)) (by rfl) T._law_pieces.g T._law_pieces.F.kp T._law_pieces.b .nil pass0 (pa_cons (pv 2) (pa_cons (pv 1) pa_nil))) (pe_call IH (hr.mono (by omega)) (by rfl) T._law_pieces.g T._law_pieces.F.kp T._law_pieces.b .nil pass0 (pa_cons (pe_op op_sub (pv 0) (pv 2)) (pa_cons (pe_op op_sub (pv 1) (pv 2)) pa_nil))))))))), fn_g h fun x p => ?_⟩)
  change DS K _ (Wp.E.d _ :: (Wp.E.d _ :: (Wp.E.any :: []))) _ _ _ _
  obtain ⟨c, o⟩ := x
  obtain ⟨hn, hc⟩ := p
  dsimp only at hn hc ⊢
  walk_at "d"
  refine ifd (fun h => ?_) (fun h => ?_)
  · walk_at "d"
    have : c = 0 := by omega
    subst this
    rw [pieces_0]
    rfl
  walk_at "d"
  refine ifd (fun h1 => ?_) (fun h1 => ?_)
  · walk_at "d"
    rw [pieces_1 (by omega) (.inl h1)]
    rfl
  walk_at "d"
  refine ifd (fun h2 => ?_) (fun h2 => ?_)
  · walk_at "d"
    rw [pieces_1 (by omega) (.inr h2)]
    rfl
  walk_at "d"
  have h3 : 2 ≤ c := by omega
  have hlt := lft_lt h3
  have hlp := lft_pos c
  have p1 := pieces_le 1000 (lft c) o (by omega)
  have p2 := pieces_le 1000 (c - lft c) (o - (lft c : Int)) (by omega)
  refine dc_g c rfl ⟨h3, hc⟩ ?_
  walk_at "D"
  refine dc_g (lft c, o) rfl ⟨by show lft c < n; omega, by show lft c ≤ 1000; omega⟩ ?_
  walk_at "D"
  rw [show (c : Int) - (lft c : Int) = ((c - lft c : Nat) : Int) by omega]
  refine dc_g (c - lft c, o - (lft c : Int)) rfl ⟨by show c - lft c < n; omega, by show c - lft c ≤ 1000; omega⟩ ?_
  walk_at "D"
  refine dr_cat (by rw [List.length_map, List.length_map]; exact sz6 (by omega)) ?_
  walk_at "d"
  rw [pieces_in (c := c) (o := o) (by omega), List.map_append]
theorem ok_pc (T : Txt K mg) : ∀ n : Nat, FnOk P w K mg base CX0 (6 + n) (He.fAd K ("_law_pieces", none)) T.fd__law_pieces ["count", "old"] (sp_pc K n)
  | 0 => ok_void fun x p => absurd p.1 (Nat.not_lt_zero _)
  | n + 1 => ok_pc_step T n (ok_pc T n)
def sp__law_pieces (K : PySem.W.Frag) : Sp := sp_pc K 34
theorem ok__law_pieces (T : Txt K mg) : FnOk P w K mg base CX0 (40) (He.fAd K ("_law_pieces", none)) T.fd__law_pieces ["count", "old"] (sp__law_pieces K) := ok_pc T 34
def sp_lg (K : PySem.W.Frag) (n : Nat) : Sp := spG K (fun x : Int × List Int × Int => [.int x.1, lI x.2.1, .int x.2.2]) (fun x => 4 ≤ x.1 ∧ x.1 ≤ 128 ∧ x.2.1.length < n ∧ x.2.1.length ≤ 33 ∧ ∀ y ∈ x.2.1, Itm y) fun x => lI (growN x.1 x.2.1 x.2.2)
theorem ok_lg_step (T : Txt K mg) (n : Nat) (IH : FnOk P w K mg base CX0 (41 + n) (He.fAd K ("_law_grows", none)) T.fd__law_grows ["width", "items", "old"] (sp_lg K n)) : FnOk P w K mg base CX0 (41 + n + 1) (He.fAd K ("_law_grows", none)) T.fd__law_grows ["width", "items", "old"] (sp_lg K (n + 1)) := by
  refine T._law_grows.F.ok sc__law_grows (fun vs H Q E h => len_g h fun _ => rfl) (fun cdv A outer s H vs Q E hr h => ⟨_, PSs.nox (pss_cons (ps_if (pt_cmpR (op_eq) (pe_callB (kq_len (K := K)) (by rfl) T.z_len (by decide +kernel) (pa_cons (pv 1) pa_nil)) pe_int (nomark _)) (pss_one (ps_ret (pe_lst pa_nil))) pss_nil)
  (pss_cons (ps_if (PW.pt (pw_or (pt_cmpR (op_le) (pv 2) pe_int (nomark _)) (pw_or1 (pt_cmpR (op_ge) (pv 2) (pe_callB (kq_len (K := K)) (by rfl) T.z_len (by decide +kernel) (pa_cons (pv 1) pa_nil)) (nomark _))))) (pss_one (ps_ret (pe_lst (pa_cons (pe_call (ok__law_root T) (hr.mono (by omega)) (by rfl) T._law_root.g T._law_root.F.kp T._law_root.b .nil pass0 (pa_cons (pv 0) (pa_cons (pv 1) pa_nil))) pa_nil)))) pss_nil)
  (pss_cons (ps_set (i := 3) sc__law_grows.nd rfl (Or.inl rfl) (pe_call (ok__law_part T) (hr.mono (by omega)) (by rfl) T._law_part.g T._law_part.F.kp T._law_part.b .nil pass0 (pa_cons (pe_callB (kq_len (K := K)) (by rfl) T.z_len (by decide +kernel) (pa_cons (pv 1) pa_nil)) pa_nil)))
  (pss_one (ps_ret (pe_op op_cat (pe_call IH (hr.mono (by omega)) (by rfl) T._law_grows.g T._law_grows.F.kp T._law_grows.b .nil pass0 (pa_cons (pv 0) (pa_cons (pe_slice (kl_list (K := K)) (pv 1) po_none (po_some (pv 3))) (pa_cons (pv 2) pa_nil)))) (pe_call IH (hr.mono (by omega)) (by rfl) T._law_grows.g T._law_grows.F.kp T._law_grows.b .nil pass0 (pa_cons (pv 0) (pa_cons (pe_slice (kl_list (K := K)) (pv 1) (po_some (pv 3)) po_none) (pa_cons (pe_op op_sub (pv 2) (pv 3)) pa_nil)))))))))), fn_g h fun x p => ?_⟩)
  change DS K _ (Wp.E.d _ :: (Wp.E.d _ :: (Wp.E.d _ :: (Wp.E.any :: [])))) _ _ _ _
  obtain ⟨wd, xs, o⟩ := x
  obtain ⟨w4, w128, hn, hl, hi⟩ := p
  dsimp only at w4 w128 hn hl hi ⊢
  walk_at "d"
  refine ifd (fun h => ?_) (fun h => ?_)
  · walk_at "d"
    rw [growN_0 (by omega)]
    rfl
  walk_at "d"
  have one : ¬ (0 < o ∧ o < (xs.length : Int)) → D.lst [.int (rootN wd xs)] = lI (growN wd xs o) := fun z => by rw [growN_1 z (by omega)]; rfl
  refine ifd (fun ho => ?_) (fun ho => ?_)
  · walk_at "d"
    refine dc_g (wd, xs) rfl ⟨w4, w128, by show xs.length < 34; omega, by show xs.length ≤ 100; omega, hi⟩ ?_
    walk_at "D"
    rw [one (by omega)]
  walk_at "d"
  refine ifd (fun ho2 => ?_) (fun ho2 => ?_)
  · walk_at "d"
    refine dc_g (wd, xs) rfl ⟨w4, w128, by show xs.length < 34; omega, by show xs.length ≤ 100; omega, hi⟩ ?_
    walk_at "D"
    rw [one (by omega)]
  walk_at "d"
  have h2 : 2 ≤ xs.length := by omega
  have hlt := lft_lt h2
  have hlp := lft_pos xs.length
  refine dc_g xs.length rfl ⟨h2, by omega⟩ ?_
  walk_at "D"
  rw [cut_to (by omega)]
  refine dc_g (wd, xs.take (lft xs.length), o) rfl ⟨w4, w128, by rw [List.length_take]; omega, by rw [List.length_take]; omega, itms_take hi⟩ ?_
  walk_at "D"
  rw [cut_from (by omega)]
  refine dc_g (wd, xs.drop (lft xs.length), o - (lft xs.length : Int)) rfl ⟨w4, w128, by rw [List.length_drop]; omega, by rw [List.length_drop]; omega, itms_drop hi⟩ ?_
  walk_at "D"
  have g1 := growN_len (wd := wd) 33 (xs.take (lft xs.length)) o (by rw [List.length_take]; omega)
  have g2 := growN_len (wd := wd) 33 (xs.drop (lft xs.length)) (o - (lft xs.length : Int)) (by rw [List.length_drop]; omega)
  refine dr_cat (by rw [List.length_map, List.length_map]; exact sz6 (by omega)) ?_
  walk_at "d"
  rw [growN_in (xs := xs) (o := o) (by omega)]
  show _ = D.lst (List.map D.int (_ ++ _))
  rw [List.map_append]
theorem ok_lg (T : Txt K mg) : ∀ n : Nat, FnOk P w K mg base CX0 (41 + n) (He.fAd K ("_law_grows", none)) T.fd__law_grows ["width", "items", "old"] (sp_lg K n)
  | 0 => ok_void fun x p => absurd p.2.2.1 (Nat.not_lt_zero _)
  | n + 1 => ok_lg_step T n (ok_lg T n)
def sp__law_grows (K : PySem.W.Frag) : Sp := sp_lg K 34
theorem ok__law_grows (T : Txt K mg) : FnOk P w K mg base CX0 (80) (He.fAd K ("_law_grows", none)) T.fd__law_grows ["width", "items", "old"] (sp__law_grows K) := (ok_lg T 34).mono (by omega)
def oldL (wd : Int) (S Q : List Int) : Int := if S.length = 0 then dgst wd 0 [] else (accN wd S Q (S.length - 1)).2
def sp__law_old (K : PySem.W.Frag) : Sp := spG K (fun x : Int × List Int × List Int => [.int x.1, lI x.2.1, lI x.2.2]) (fun x => 4 ≤ x.1 ∧ x.1 ≤ 128 ∧ x.2.1.length ≤ 1000 ∧ x.2.2.length = x.2.1.length ∧ (∀ z ∈ x.2.1, 0 ≤ z ∧ z ≤ 1000) ∧ ∀ y ∈ x.2.2, Itm y) fun x => .int (oldL x.1 x.2.1 x.2.2)
theorem ok__law_old (T : Txt K mg) : FnOk P w K mg base CX0 (2) (He.fAd K ("_law_old", none)) T.fd__law_old ["width", "sizes", "digests"] (sp__law_old K) := by
  refine T._law_old.F.ok sc__law_old (fun vs H Q E h => len_g h fun _ => rfl) (fun cdv A outer s H vs Q E hr h => ⟨_, PSs.nox (pss_cons (ps_if (pt_cmpR (op_eq) (pe_callB (kq_len (K := K)) (by rfl) T.z_len (by decide +kernel) (pa_cons (pv 1) pa_nil)) pe_int (nomark _)) (pss_one (ps_ret (pe_call (ok__law_digest T) (hr.mono (by omega)) (by rfl) T._law_digest.g T._law_digest.F.kp T._law_digest.b .nil pass0 (pa_cons (pv 0) (pa_cons pe_int (pa_cons (pe_lst pa_nil) pa_nil)))))) pss_nil)
  (pss_cons (ps_set (i := 3) sc__law_old.nd rfl (Or.inl rfl) (pe_ix (kx_list (K := K)) (pv 2) (pe_op op_sub (pe_callB (kq_len (K := K)) (by rfl) T.z_len (by decide +kernel) (pa_cons (pv 2) pa_nil)) pe_int) (fun _ _ => rfl)))
  (pss_cons (ps_set (i := 4) sc__law_old.nd rfl (Or.inl rfl) (pe_ix (kx_list (K := K)) (pv 1) (pe_op op_sub (pe_callB (kq_len (K := K)) (by rfl) T.z_len (by decide +kernel) (pa_cons (pv 1) pa_nil)) pe_int) (fun _ _ => rfl)))
  (pss_cons (ps_for PassesOwn.never rfl (pi_range1 rfl T.z_range (pa_cons (pe_op op_sub (pe_callB (kq_len (K := K)) (by rfl) T.z_len (by decide +kernel) (pa_cons (pv 1) pa_nil)) pe_int) pa_nil)) (pg_name (i := 5) sc__law_old.nd rfl (Or.inl rfl)) (pss_cons (ps_set (i := 4) sc__law_old.nd rfl (Or.inl rfl) (pe_op op_add (pv 4) (pe_ix (kx_list (K := K)) (pv 1) (pe_op op_sub (pe_op op_sub (pe_callB (kq_len (K := K)) (by rfl) T.z_len (by decide +kernel) (pa_cons (pv 1) pa_nil)) pe_int) (pv 5)) (fun _ _ => rfl))))
  (pss_one (ps_set (i := 3) sc__law_old.nd rfl (Or.inl rfl) (pe_call (ok__law_digest T) (hr.mono (by omega)) (by rfl) T._law_digest.g T._law_digest.F.kp T._law_digest.b .nil pass0 (pa_cons (pv 0) (pa_cons pe_int (pa_cons (pe_lst (pa_cons (pv 4) (pa_cons (pe_ix (kx_list (K := K)) (pv 2) (pe_op op_sub (pe_op op_sub (pe_callB (kq_len (K := K)) (by rfl) T.z_len (by decide +kernel) (pa_cons (pv 1) pa_nil)) pe_int) (pv 5)) (fun _ _ => rfl)) (pa_cons (pv 3) pa_nil)))) pa_nil))))))))
  (pss_one (ps_ret (pv 3))))))), fn_g h fun x p => ?_⟩)
  change DS K _ (Wp.E.d _ :: (Wp.E.d _ :: (Wp.E.d _ :: (Wp.E.any :: (Wp.E.any :: (Wp.E.any :: [])))))) _ _ _ _
  obtain ⟨wd, S, Q'⟩ := x
  obtain ⟨w4, w128, hl, hq, hS, hQ⟩ := p
  dsimp only at w4 w128 hl hq hS hQ ⊢
  walk_at "d"
  refine ifd (fun h => ?_) (fun h => ?_)
  · walk_at "d"
    refine dc_lawdig [] (.inl rfl) w4 w128 (by simp) (itms_bd (by simp) (by simp)) ?_
    walk_at "d"
    unfold oldL
    rw [if_pos (by omega)]
  have h0 : 0 < S.length := by omega
  have e0 : oldL wd S Q' = (accN wd S Q' (S.length - 1)).2 := by unfold oldL; rw [if_neg (by omega)]
  have hac := acc_rng (wd := wd) (P := Q') hS
  have hab := acc_bd w4 w128 (S := S) hQ (by omega) h0
  rw [e0]
  walk_at "d"
  have ga : ∀ (L : List Int) (k : Nat), k < L.length → L[k]? = some (L.getD k 0) := fun L k hk => by rw [List.getD_eq_getElem?_getD, List.getElem?_eq_getElem hk]; rfl
  rw [hq, show ((S.length : Int) - 1) = ((S.length - 1 : Nat) : Int) by omega]
  refine ⟨_, atI_map (ga Q' (S.length - 1) (by omega)), ?_⟩
  walk_at "d"
  rw [show ((S.length : Int) - 1) = ((S.length - 1 : Nat) : Int) by omega]
  refine ⟨_, atI_map (ga S (S.length - 1) (by omega)), ?_⟩
  walk_at "d"
  refine ds_forR1 ?_
  walk_at "d"
  refine ⟨_, rfl, by omega, by omega, fun i ρ => ρ = [.d (.int wd), .d (lI S), .d (lI Q'), .d (.int (accN wd S Q' i).2), .d (.int (accN wd S Q' i).1), .any], ⟨_, by walk_at "le", rfl⟩, ?_, ?_⟩
  · rintro i ρ hi rfl
    have hat : S.length - 2 - i < S.length := by omega
    have e3 := hac (i + 1)
    have e4 := hac i
    have e5 : accN wd S Q' (i + 1) = ((accN wd S Q' i).1 + S.getD (S.length - 2 - i) 0, dgst wd 1 [(accN wd S Q' i).1 + S.getD (S.length - 2 - i) 0, Q'.getD (S.length - 2 - i) 0, (accN wd S Q' i).2]) := by rw [accN]
    rw [e5] at e3
    dsimp only at e3
    have h3 := itms3 (itm_small e3.1 (by omega)) (hQ _ (mem_getD (show S.length - 2 - i < Q'.length by omega) 0)) (hab i)
    walk_at "d"
    rw [show ((S.length : Int) - 2 - (i : Int)) = ((S.length - 2 - i : Nat) : Int) by omega]
    refine ⟨_, atI_map (ga S (S.length - 2 - i) hat), ?_⟩
    walk_at "d"
    rw [show ((S.length : Int) - 2 - (i : Int)) = ((S.length - 2 - i : Nat) : Int) by omega]
    refine ⟨_, atI_map (ga Q' (S.length - 2 - i) (by omega)), ?_⟩
    walk_at "d"
    refine dc_lawdig [(accN wd S Q' i).1 + S.getD (S.length - 2 - i) 0, Q'.getD (S.length - 2 - i) 0, (accN wd S Q' i).2] (.inl rfl) w4 w128 (fun n hn => (h3 n hn).1) (itms_bd (by show 3 ≤ 120; decide) h3) ?_
    walk_at "d"
    refine ⟨_, ?_, rfl⟩
    rw [e5]
    walk_at "le"
  · rintro ρ rfl
    rw [show ((S.length : Int) - 1).toNat = S.length - 1 by omega]
    walk_at "d"
    rfl
def sp_wh (K : PySem.W.Frag) (n : Nat) : Sp := spG K (fun x : Int × Nat × Int × List Int => [.int x.1, .int (x.2.1 : Int), .int x.2.2.1, lI x.2.2.2]) (fun x => 4 ≤ x.1 ∧ x.1 ≤ 128 ∧ x.2.1 < n ∧ 1 ≤ x.2.1 ∧ x.2.1 ≤ 33 ∧ (piecesN x.2.1 x.2.2.1).length ≤ x.2.2.2.length ∧ ∀ y ∈ x.2.2.2, Itm y) fun x => .tup [.int (whlN x.1 x.2.1 x.2.2.1 x.2.2.2).1, lI (whlN x.1 x.2.1 x.2.2.1 x.2.2.2).2.1, .lst ((whlN x.1 x.2.1 x.2.2.1 x.2.2.2).2.2.map inD)]
theorem whl_facts {wd : Int} (h4 : 4 ≤ wd) (h : wd ≤ 128) : ∀ (n c : Nat) (o : Int) (P : List Int), c ≤ n → 1 ≤ c → (piecesN c o).length ≤ P.length → (∀ y ∈ P, Itm y) →
    (whlN wd c o P).2.1 = P.drop (piecesN c o).length ∧ Itm (whlN wd c o P).1 ∧ (whlN wd c o P).2.2.length < c
  | 0, c, o, P, hn, h1, hP, hi => by omega
  | n + 1, c, o, P, hn, h1, hP, hi => by
    by_cases q : o ≤ 0 ∨ o ≥ (c : Int)
    · rw [pieces_1 (by omega) q] at hP
      rw [whl_1 q, pieces_1 (by omega) q]
      refine ⟨by cases P <;> rfl, hi _ (headD_mem (fun z => by rw [z] at hP; simp at hP)), by simp; omega⟩
    · have hlt := lft_lt (n := c) (by omega)
      have hlp := lft_pos c
      rw [pieces_in q, List.length_append] at hP
      obtain ⟨i1, i2, i3⟩ := whl_facts h4 h n (lft c) o P (by omega) (by omega) (by omega) hi
      obtain ⟨j1, j2, j3⟩ := whl_facts h4 h n (c - lft c) (o - (lft c : Int)) (P.drop (piecesN (lft c) o).length) (by omega) (by omega) (by rw [List.length_drop]; omega) (fun y hy => hi y (List.mem_of_mem_drop hy))
      rw [whl_in q, pieces_in q, List.length_append, i1]
      dsimp only
      refine ⟨by rw [j1, List.drop_drop], ⟨(dgst_rng h4 h _ _).1, bd_dgst h4 h _ _⟩, ?_⟩
      rw [List.length_cons, List.length_append]
      omega
theorem ok_wh_step (T : Txt K mg) (n : Nat) (IH : FnOk P w K mg base CX0 (6 + n) (He.fAd K ("_law_whole", none)) T.fd__law_whole ["width", "count", "old", "proof"] (sp_wh K n)) : FnOk P w K mg base CX0 (6 + n + 1) (He.fAd K ("_law_whole", none)) T.fd__law_whole ["width", "count", "old", "proof"] (sp_wh K (n + 1)) := by
  refine T._law_whole.F.ok sc__law_whole (fun vs H Q E h => len_g h fun _ => rfl) (fun cdv A outer s H vs Q E hr h => ⟨_, PSs.nox (pss_cons (ps_if (PW.pt (pw_or (pt_cmpR (op_le) (pv 2) pe_int (nomark _)) (pw_or1 (pt_cmpR (op_ge) (pv 2) (pv 1) (nomark _))))) (pss_one (ps_ret (pe_tup (pa_cons (pe_ix (kx_list (K := K)) (pv 3) pe_int (fun _ _ => rfl)) (pa_cons (pe_slice (kl_list (K := K)) (pv 3) (po_some pe_int) po_none) (pa_cons (pe_lst pa_nil) pa_nil)))))) pss_nil)
  (pss_cons (ps_set (i := 4) sc__law_whole.nd rfl (Or.inl rfl) (pe_call (ok__law_part T) (hr.mono (by omega)) (by rfl) T._law_part.g T._law_part.F.kp T._law_part.b .nil pass0 (pa_cons (pv 1) pa_nil)))
  (pss_cons (ps_asg (pe_call IH (hr.mono (by omega)) (by rfl) T._law_whole.g T._law_whole.F.kp T._law_whole.b .nil pass0 (pa_cons (pv 0) (pa_cons (pv 4) (pa_cons (pv 2) (pa_cons (pv 3) pa_nil))))) (kg_tup (K := K) (n := 3) rfl (pgs_cons (pg_name (i := 5) sc__law_whole.nd rfl (Or.inl rfl)) (pgs_cons (pg_name (i := 6) sc__law_whole.nd rfl (Or.inl rfl)) (pgs_cons (pg_name (i := 7) sc__law_whole.nd rfl (Or.inl rfl)) pgs_nil)))))
  (pss_cons (ps_asg (pe_call IH (hr.mono (by omega)) (by rfl) T._law_whole.g T._law_whole.F.kp T._law_whole.b .nil pass0 (pa_cons (pv 0) (pa_cons (pe_op op_sub (pv 1) (pv 4)) (pa_cons (pe_op op_sub (pv 2) (pv 4)) (pa_cons (pv 6) pa_nil))))) (kg_tup (K := K) (n := 3) rfl (pgs_cons (pg_name (i := 8) sc__law_whole.nd rfl (Or.inl rfl)) (pgs_cons (pg_name (i := 6) sc__law_whole.nd rfl (Or.inl rfl)) (pgs_cons (pg_name (i := 9) sc__law_whole.nd rfl (Or.inl rfl)) pgs_nil)))))
  (pss_cons (ps_set (i := 10) sc__law_whole.nd rfl (Or.inl rfl) (pe_tup (pa_cons pe_int (pa_cons (pe_tup (pa_cons (pv 1) (pa_cons (pv 5) (pa_cons (pv 8) pa_nil)))) pa_nil))))
  (pss_one (ps_ret (pe_tup (pa_cons (pe_call (ok__law_digest T) (hr.mono (by omega)) (by rfl) T._law_digest.g T._law_digest.F.kp T._law_digest.b .nil pass0 (pa_cons (pv 0) (pa_cons pe_int (pa_cons (pe_ix (kx_tup (K := K)) (pv 10) pe_int (fun _ _ => rfl)) pa_nil)))) (pa_cons (pv 6) (pa_cons (pe_op op_cat (pe_op op_cat (pe_lst (pa_cons (pv 10) pa_nil)) (pv 7)) (pv 9)) pa_nil))))))))))), fn_g h fun x p => ?_⟩)
  change DS K _ (Wp.E.d _ :: (Wp.E.d _ :: (Wp.E.d _ :: (Wp.E.d _ :: (Wp.E.any :: (Wp.E.any :: (Wp.E.any :: (Wp.E.any :: (Wp.E.any :: (Wp.E.any :: (Wp.E.any :: []))))))))))) _ _ _ _
  obtain ⟨wd, c, o, P'⟩ := x
  obtain ⟨w4, w128, hn, h1, hc, hP, hi⟩ := p
  dsimp only at w4 w128 hn h1 hc hP hi ⊢
  have one : ∀ q : o ≤ 0 ∨ o ≥ (c : Int), 1 ≤ P'.length ∧ P'[0]? = some (P'.headD 0) ∧ D.tup [.int (P'.headD 0), .lst (cutO (P'.map D.int) (some 1) none), .lst []] = .tup [.int (whlN wd c o P').1, lI (whlN wd c o P').2.1, .lst ((whlN wd c o P').2.2.map inD)] := fun q => by
    rw [pieces_1 (by omega) q] at hP
    have hl : 1 ≤ P'.length := hP
    refine ⟨hl, by rw [headD_get, List.getD_eq_getElem?_getD, List.getElem?_eq_getElem (show 0 < P'.length by omega)]; rfl, ?_⟩
    rw [whl_1 q, show (1 : Int) = ((1 : Nat) : Int) from rfl, cut_from (by omega)]
    cases P' <;> rfl
  walk_at "d"
  refine ifd (fun h2 => ?_) (fun h2 => ?_)
  · obtain ⟨q1, q2, q3⟩ := one (.inl h2)
    walk_at "d"
    refine ⟨_, atI_map (k := 0) q2, ?_⟩
    walk_at "d"
    exact q3
  walk_at "d"
  refine ifd (fun h3 => ?_) (fun h3 => ?_)
  · obtain ⟨q1, q2, q3⟩ := one (.inr h3)
    walk_at "d"
    refine ⟨_, atI_map (k := 0) q2, ?_⟩
    walk_at "d"
    exact q3
  have h4 : 2 ≤ c := by omega
  have hlt := lft_lt h4
  have hlp := lft_pos c
  rw [pieces_in (by omega), List.length_append] at hP
  have hi2 : ∀ y ∈ P'.drop (piecesN (lft c) o).length, Itm y := fun y hy => hi y (List.mem_of_mem_drop hy)
  obtain ⟨i1, i2, i3⟩ := whl_facts w4 w128 33 (lft c) o P' (by omega) (by omega) (by omega) hi
  obtain ⟨j1, j2, j3⟩ := whl_facts w4 w128 33 (c - lft c) (o - (lft c : Int)) (P'.drop (piecesN (lft c) o).length) (by omega) (by omega) (by rw [List.length_drop]; omega) hi2
  have ew := whl_in (wd := wd) (c := c) (o := o) (P := P') (by omega)
  rw [← i1] at j1 j2 j3 hi2
  walk_at "d"
  refine dc_g c rfl ⟨h4, by omega⟩ ?_
  walk_at "D"
  refine dc_g (wd, lft c, o, P') rfl ⟨w4, w128, by show lft c < n; omega, by show 1 ≤ lft c; omega, by show lft c ≤ 33; omega, by show (piecesN (lft c) o).length ≤ P'.length; omega, hi⟩ ?_
  walk_at "D"
  rw [show (c : Int) - (lft c : Int) = ((c - lft c : Nat) : Int) by omega]
  refine dc_g (wd, c - lft c, o - (lft c : Int), (whlN wd (lft c) o P').2.1) rfl ⟨w4, w128, by show c - lft c < n; omega, by show 1 ≤ c - lft c; omega, by show c - lft c ≤ 33; omega, by show (piecesN (c - lft c) (o - (lft c : Int))).length ≤ (whlN wd (lft c) o P').2.1.length; rw [i1, List.length_drop]; omega, hi2⟩ ?_
  rw [ew]
  generalize whlN wd (lft c) o P' = L at *
  generalize whlN wd (c - lft c) (o - (lft c : Int)) L.2.1 = M at *
  walk_at "D"
  refine ⟨_, rfl, ?_⟩
  walk_at "d"
  have h3 := itms3 (itm_nat (n := c) (by omega)) i2 j2
  refine dc_lawdig [(c : Int), L.1, M.1] (.inr rfl) w4 w128 (fun n hn => (h3 n hn).1) (itms_bd (by show 3 ≤ 120; decide) h3) ?_
  walk_at "d"
  refine dr_cat (by rw [List.length_map]; exact sz6 (by simp; omega)) ?_
  walk_at "d"
  refine dr_cat (by rw [List.length_append, List.length_map, List.length_map]; exact sz6 (by simp; omega)) ?_
  walk_at "d"
  simp
theorem ok_wh (T : Txt K mg) : ∀ n : Nat, FnOk P w K mg base CX0 (6 + n) (He.fAd K ("_law_whole", none)) T.fd__law_whole ["width", "count", "old", "proof"] (sp_wh K n)
  | 0 => ok_void fun x p => absurd p.2.2.1 (Nat.not_lt_zero _)
  | n + 1 => ok_wh_step T n (ok_wh T n)
def sp__law_whole (K : PySem.W.Frag) : Sp := sp_wh K 34
theorem ok__law_whole (T : Txt K mg) : FnOk P w K mg base CX0 (40) (He.fAd K ("_law_whole", none)) T.fd__law_whole ["width", "count", "old", "proof"] (sp__law_whole K) := ok_wh T 34
theorem pieces_sz : ∀ (n c : Nat) (o : Int), c ≤ n → ∀ y ∈ piecesN c o, y.1 ≤ n
  | 0, c, o, h => by
    have : c = 0 := by omega
    subst this; rw [pieces_0]; simp
  | n + 1, c, o, h => by
    by_cases z : c = 0
    · subst z; rw [pieces_0]; simp
    · by_cases q : o ≤ 0 ∨ o ≥ (c : Int)
      · rw [pieces_1 z q]; intro y hy; simp at hy; rw [hy]; exact h
      · have hlt := lft_lt (n := c) (by omega)
        have hlp := lft_pos c
        rw [pieces_in q]
        intro y hy
        rcases List.mem_append.mp hy with hy | hy
        · have := pieces_sz n (lft c) o (by omega) y hy; omega
        · have := pieces_sz n (c - lft c) (o - (lft c : Int)) (by omega) y hy; omega
theorem filt_pre {A : List Nat} {R : List (Nat × Bool)} (hr : ∀ y ∈ R, y.2 = false) : (List.range (A.map (fun z => (z, true)) ++ R).length).filter (fun k => ((A.map (fun z => (z, true)) ++ R).getD k (0, false)).2) = List.range A.length := by
  rw [List.length_append, List.length_map, List.range_add, List.filter_append, List.filter_eq_self.mpr, List.filter_eq_nil_iff.mpr, List.append_nil]
  · intro k hk
    obtain ⟨j, hj, rfl⟩ := List.mem_map.mp hk
    have hj' := List.mem_range.mp hj
    rw [List.getD_eq_getElem?_getD, List.getElem?_append_right (by rw [List.length_map]; omega), List.length_map, show A.length + j - A.length = j by omega, List.getElem?_eq_getElem hj']
    have := hr _ (List.getElem_mem hj')
    show ¬ (R[j]).2 = true
    rw [this]; decide
  · intro k hk
    have hk' := List.mem_range.mp hk
    rw [List.getD_eq_getElem?_getD, List.getElem?_append_left (by rw [List.length_map]; exact hk'), List.getElem?_map, List.getElem?_eq_getElem hk']
    rfl
def oldBoth (wd : Int) (c o : Nat) (P : List Int) : Prop :=
  (piecesN c (o : Int)).length = P.length →
    (c = 0 → oldL wd (((List.range (piecesN c (o : Int)).length).filter (fun k => ((piecesN c (o : Int)).getD k (0, false)).2)).map (fun k => (((piecesN c (o : Int)).getD k (0, false)).1 : Int))) (((List.range (piecesN c (o : Int)).length).filter (fun k => ((piecesN c (o : Int)).getD k (0, false)).2)).map (fun k => P.getD k 0)) = dgst wd 0 []) ∧
    (0 < c → oldL wd (((List.range (piecesN c (o : Int)).length).filter (fun k => ((piecesN c (o : Int)).getD k (0, false)).2)).map (fun k => (((piecesN c (o : Int)).getD k (0, false)).1 : Int))) (((List.range (piecesN c (o : Int)).length).filter (fun k => ((piecesN c (o : Int)).getD k (0, false)).2)).map (fun k => P.getD k 0)) = oldP wd (stepsG c o) o P)
theorem range_get {P : List Int} {r : Nat} (h : r ≤ P.length) : (List.range r).map (fun k => P.getD k 0) = P.take r := by
  apply List.ext_getElem?
  intro i
  by_cases hi : i < r
  · rw [List.getElem?_map, List.getElem?_range hi, List.getElem?_take_of_lt hi, List.getElem?_eq_getElem (show i < P.length by omega)]
    show some (P.getD i 0) = _
    rw [List.getD_eq_getElem?_getD, List.getElem?_eq_getElem (show i < P.length by omega)]
    rfl
  · rw [List.getElem?_eq_none (by simp; omega), List.getElem?_eq_none (by simp; omega)]
theorem range_siz {A : List Nat} {R : List (Nat × Bool)} : (List.range A.length).map (fun k => (((A.map (fun z => (z, true)) ++ R).getD k (0, false)).1 : Int)) = A.map (fun n : Nat => (n : Int)) := by
  apply List.ext_getElem?
  intro i
  by_cases hi : i < A.length
  · rw [List.getElem?_map, List.getElem?_range hi, List.getElem?_map, List.getElem?_eq_getElem hi]
    show some (((A.map (fun z => (z, true)) ++ R).getD i (0, false)).1 : Int) = _
    rw [List.getD_eq_getElem?_getD, List.getElem?_append_left (by rw [List.length_map]; exact hi), List.getElem?_map, List.getElem?_eq_getElem hi]
    rfl
  · rw [List.getElem?_eq_none (by simp; omega), List.getElem?_eq_none (by simp; omega)]
theorem old_both {wd : Int} {c o : Nat} {P : List Int} : oldBoth wd c o P := by
  intro hl
  refine ⟨fun z => ?_, fun z => ?_⟩
  · subst z
    rw [pieces_0]
    unfold oldL
    exact if_pos rfl
  · have hlen := pieces_len c c o (Nat.le_refl _) (by omega)
    by_cases q : 0 < o ∧ o < c
    · obtain ⟨R, e, hr⟩ := pieces_eq c c o (Nat.le_refl _) q.1 q.2
      have hne := sizG_ne c c o (Nat.le_refl _) q.1 q.2
      have hW : stepsG c o ≠ [] := fun e => hne (by rw [e]; rfl)
      have hsl := sizG_len (stepsG c o)
      have hNl : (sizN (stepsG c o)).length = (sizG (stepsG c o)).length := by rw [siz_N, List.length_map]
      have hpos := List.length_pos_iff.mpr hne
      rw [e] at hl hlen ⊢
      rw [filt_pre hr, range_siz, ← siz_N, range_get (by omega), hNl]
      unfold oldL oldP
      have e1 := acc_all (wd := wd) (S := sizG (stepsG c o)) (P := P.take (sizG (stepsG c o)).length) (by rw [List.length_take]; omega) hpos
      have e2 := acc_all (wd := wd) (S := sizG (stepsG c o)) (P := P) (by omega) hpos
      rw [if_neg (by omega), if_neg (by omega), if_neg hW, e1, e2]
      show oldR wd _ _ = oldR wd _ _
      conv => rhs; rw [← List.take_append_drop (sizG (stepsG c o)).length P]
      rw [oldR_app _ _ _ (by rw [List.length_take]; omega)]
    · have q' : (o : Int) ≤ 0 ∨ (o : Int) ≥ (c : Int) := by omega
      have e := pieces_1 (c := c) (o := (o : Int)) (by omega) q'
      rw [e] at hl ⊢
      by_cases h0 : o = 0
      · have : decide ((o : Int) ≥ (c : Int)) = false := decide_eq_false (by omega)
        rw [this]
        unfold oldP
        rw [if_pos h0, rootN_lt (by decide)]
        unfold oldL
        exact if_pos rfl
      · have : decide ((o : Int) ≥ (c : Int)) = true := decide_eq_true (by omega)
        rw [this]
        unfold oldP
        rw [if_neg h0, if_pos (stepsG_no q), headD_get]
        show oldL wd [(c : Int)] [P.getD 0 0] = _
        unfold oldL
        rw [if_neg (by simp)]
        show (accN wd [(c : Int)] [P.getD 0 0] 0).2 = _
        rw [accN]
        rfl
def sp__law_grown (K : PySem.W.Frag) : Sp := spG K (fun x : Int × Int × Int × Int × Int × List Int => [.int x.1, .int x.2.1, .int x.2.2.1, .int x.2.2.2.1, .int x.2.2.2.2.1, lI x.2.2.2.2.2]) (fun x => 4 ≤ x.1 ∧ x.1 ≤ 128 ∧ x.2.2.2.2.1 ≤ 33 ∧ x.2.2.2.2.2.length ≤ 999)
  fun x => .bl (grownN x.1 x.2.1 x.2.2.1 x.2.2.2.1 x.2.2.2.2.1 x.2.2.2.2.2)
theorem ok__law_grown (T : Txt K mg) : FnOk P w K mg base CX0 (41) (He.fAd K ("_law_grown", none)) T.fd__law_grown ["width", "old_root", "old", "root", "count", "proof"] (sp__law_grown K) := by
  refine T._law_grown.F.ok sc__law_grown (fun vs H Q E h => len_g h fun _ => rfl) (fun cdv A outer s H vs Q E hr h => ⟨_, PSs.nox (pss_cons (ps_if (PW.pt (pw_or (pt_not (pt_chain (op_le) (op_le) pe_int (pv 2) (pv 4))) (pw_or1 (pt_val (pe_callB (kr_any (K := K)) (by rfl) T.z_any (by decide +kernel) (pa_cons (pe_lc (own := [("one", 8)]) rfl sc__law_grown.nd (ki_list (K := K) (pv 5)) (blkOk_by (own := [("one", 8)]) (N := ["width", "old_root", "old", "root", "count", "proof", "pieces", "places", "one", "k"]) (sc := defScope s__law_grown) (by decide +kernel)) (fun _ _ _ _ _ => pg_name (i := 8) sc__law_grown.nd rfl (Or.inl rfl)) (fun _ _ _ _ _ => pts_nil) (fun _ _ _ _ _ => (pe_not (pe_chain (op_le) (op_lt) pe_int (pv 8) (pe_op op_shl pe_int (pv 0)))))) pa_nil)))))) (pss_one (ps_ret pe_bl)) pss_nil)
  (pss_cons (ps_set (i := 6) sc__law_grown.nd rfl (Or.inr rfl) (pe_call (ok__law_pieces T) (hr.mono (by omega)) (by rfl) T._law_pieces.g T._law_pieces.F.kp T._law_pieces.b .nil pass0 (pa_cons (pv 4) (pa_cons (pv 2) pa_nil))))
  (pss_cons (ps_if (pt_cmpR (op_ne) (pe_callB (kq_len (K := K)) (by rfl) T.z_len (by decide +kernel) (pa_cons (pv 6) pa_nil)) (pe_callB (kq_len (K := K)) (by rfl) T.z_len (by decide +kernel) (pa_cons (pv 5) pa_nil)) (nomark _)) (pss_one (ps_ret pe_bl)) pss_nil)
  (pss_cons (ps_setLc (i := 7) (own := [("k", 9)]) rfl sc__law_grown.nd rfl rfl (sw_true rfl rfl rfl (by decide +kernel)) (pi_range1 rfl T.z_range (pa_cons (pe_callB (kq_len (K := K)) (by rfl) T.z_len (by decide +kernel) (pa_cons (pv 6) pa_nil)) pa_nil)) (blkOk_by (own := [("k", 9)]) (N := ["width", "old_root", "old", "root", "count", "proof", "pieces", "places", "one", "k"]) (sc := defScope s__law_grown) (by decide +kernel)) (fun _ _ _ _ _ => pg_name (i := 9) sc__law_grown.nd rfl (Or.inl rfl)) (fun _ _ _ _ _ => (pts_one (pt_val (pe_ix (kx_tup (K := K)) (pe_ix (kx_list (K := K)) (pv 6) (pv 9) (fun _ _ => rfl)) pe_int (fun _ _ => rfl))))) (fun _ _ _ _ _ => (pv 9)))
  (pss_cons (ps_if (pt_cmpR (op_ne) (pe_call (ok__law_old T) (hr.mono (by omega)) (by rfl) T._law_old.g T._law_old.F.kp T._law_old.b .nil pass0 (pa_cons (pv 0) (pa_cons (pe_lc (own := [("k", 9)]) rfl sc__law_grown.nd (ki_list (K := K) (pv 7)) (blkOk_by (own := [("k", 9)]) (N := ["width", "old_root", "old", "root", "count", "proof", "pieces", "places", "one", "k"]) (sc := defScope s__law_grown) (by decide +kernel)) (fun _ _ _ _ _ => pg_name (i := 9) sc__law_grown.nd rfl (Or.inl rfl)) (fun _ _ _ _ _ => pts_nil) (fun _ _ _ _ _ => (pe_ix (kx_tup (K := K)) (pe_ix (kx_list (K := K)) (pv 6) (pv 9) (fun _ _ => rfl)) pe_int (fun _ _ => rfl)))) (pa_cons (pe_lc (own := [("k", 9)]) rfl sc__law_grown.nd (ki_list (K := K) (pv 7)) (blkOk_by (own := [("k", 9)]) (N := ["width", "old_root", "old", "root", "count", "proof", "pieces", "places", "one", "k"]) (sc := defScope s__law_grown) (by decide +kernel)) (fun _ _ _ _ _ => pg_name (i := 9) sc__law_grown.nd rfl (Or.inl rfl)) (fun _ _ _ _ _ => pts_nil) (fun _ _ _ _ _ => (pe_ix (kx_list (K := K)) (pv 5) (pv 9) (fun _ _ => rfl)))) pa_nil)))) (pv 1) (nomark _)) (pss_one (ps_ret pe_bl)) pss_nil)
  (pss_cons (ps_if (pt_cmpR (op_eq) (pv 4) pe_int (nomark _)) (pss_one (ps_ret (pe_cmpR (op_eq) (pv 3) (pe_call (ok__law_digest T) (hr.mono (by omega)) (by rfl) T._law_digest.g T._law_digest.F.kp T._law_digest.b .nil pass0 (pa_cons (pv 0) (pa_cons pe_int (pa_cons (pe_lst pa_nil) pa_nil)))) (nomark _)))) pss_nil)
  (pss_one (ps_ret (pe_cmpR (op_eq) (pe_ix (kx_tup (K := K)) (pe_call (ok__law_whole T) (hr.mono (by omega)) (by rfl) T._law_whole.g T._law_whole.F.kp T._law_whole.b .nil pass0 (pa_cons (pv 0) (pa_cons (pv 4) (pa_cons (pv 2) (pa_cons (pe_callTy (kq_list (K := K)) (by rfl) T.z_list (by decide +kernel) (pa_cons (pv 5) pa_nil)) pa_nil))))) pe_int (fun _ _ => rfl)) (pv 3) (nomark _)))))))))), fn_g h fun x p => ?_⟩)
  change DS K _ (Wp.E.d _ :: (Wp.E.d _ :: (Wp.E.d _ :: (Wp.E.d _ :: (Wp.E.d _ :: (Wp.E.d _ :: (Wp.E.any :: (Wp.E.any :: (Wp.E.any :: (Wp.E.any :: [])))))))))) _ _ _ _
  obtain ⟨wd, olr, o, root, c, P'⟩ := x
  obtain ⟨w4, w128, hc, hP⟩ := p
  dsimp only at w4 w128 hc hP ⊢
  have no : ∀ h : ¬ (0 ≤ o ∧ o ≤ c), grownN wd olr o root c P' = false := fun h => by unfold grownN; rw [if_neg h]
  walk_at "d"
  refine ifd (fun ho => ?_) (fun ho => ?_)
  case refine_2 =>
    walk_at "d"
    rw [no (by omega)]
  walk_at "d"
  cases hoc : decide (o ≤ c)
  · have := of_decide_eq_false hoc
    walk_at "d"
    rw [no (by omega)]
  have hoc' := of_decide_eq_true hoc
  walk_at "d"
  refine de_new (dn_mapL P' D.int (fun n => .bl (!isD wd n)) ?_)
  walk_at "d"
  refine ⟨rfl, by omega, fun i n hn => dgw_name rfl (by decide) rfl ?_, ?_⟩
  · walk_at "d"
    refine ifd (fun h0 => ?_) (fun h0 => ?_)
    · walk_at "d"
      rw [Int.one_mul]
      have : isD wd n = decide (n < 2 ^ wd.toNat) := decide_eq_decide.mpr ⟨fun z => z.2, fun z => ⟨h0, z⟩⟩
      rw [this]
    · walk_at "d"
      have : isD wd n = false := decide_eq_false fun z => h0 z.1
      rw [this]
  have em : P'.map (fun n => D.bl (!isD wd n)) = (P'.map (fun n => !isD wd n)).map D.bl := by rw [List.map_map]; rfl
  have el : (P'.map (fun n => !isD wd n)).any id = !P'.all (isD wd) := by rw [List.any_map, List.not_all_eq_any_not]; rfl
  rw [em]
  walk_at "d"
  rw [el]
  obtain ⟨c, rfl⟩ := Int.eq_ofNat_of_zero_le (show 0 ≤ c by omega)
  obtain ⟨o, rfl⟩ := Int.eq_ofNat_of_zero_le (show 0 ≤ o by omega)
  have hlen : c = 0 → (piecesN c o).length = 0 := fun z => by subst z; rw [pieces_0]; rfl
  cases ha : P'.all (isD wd)
  · walk_at "d"
    have : grownN wd olr (o : Int) root (c : Int) P' = false := by
      unfold grownN
      rw [if_pos ⟨ho, hoc'⟩]
      split
      · refine decide_eq_false fun z => ?_
        have : P' = [] := List.length_eq_zero_iff.mp z.1
        rw [this] at ha; cases ha
      · rw [if_neg (fun z => by rw [ha] at z; exact absurd z.2 (by decide))]
    rw [this]
  walk_at "d"
  have hb : ∀ y ∈ P', Itm y := fun y hy => ⟨(of_decide_eq_true (List.all_eq_true.mp ha y hy)).1, bd_isD w128 (List.all_eq_true.mp ha y hy)⟩
  have hpl := pieces_le 33 c (o : Int) (by omega)
  refine dc_g (c, (o : Int)) rfl ⟨by show c < 34; omega, by show c ≤ 1000; omega⟩ ?_
  walk_at "D"
  refine ifn (fun hne => ?_) (fun heq => ?_)
  · walk_at "d"
    have : grownN wd olr (o : Int) root (c : Int) P' = false := by
      unfold grownN
      rw [if_pos ⟨ho, hoc'⟩]
      split
      · rename_i z
        exact decide_eq_false fun y => hne (by rw [hlen (by omega), y.1])
      · rename_i z
        rw [Int.toNat_natCast, Int.toNat_natCast, if_neg (fun y => hne (by rw [pieces_len 33 c o (by omega) (by omega), y.1]))]
    rw [this]
  have heq' : (piecesN c o).length = P'.length := by omega
  have hsz : ∀ y ∈ piecesN c (o : Int), y.1 ≤ 33 := fun y hy => Nat.le_trans (pieces_sz 33 c o (by omega) y hy) (by omega)
  have hold := old_both (wd := wd) (c := c) (o := o) (P := P')
  have hpz : c = 0 → piecesN c (o : Int) = [] := fun z => by subst z; exact pieces_0 _
  walk_at "d"
  refine de_new (dn_lcR1 ?_)
  walk_at "d"
  refine ⟨_, rfl, by omega, by omega, fun i acc => acc = ((List.range i).filter fun k => ((piecesN c (o : Int)).getD k (0, false)).2).map fun k : Nat => D.int (k : Int), rfl, fun i acc p => by rw [p, List.length_map]; exact Nat.le_trans (List.length_filter_le _ _) (by rw [List.length_range]; exact Nat.le_refl _), ?_, ?_⟩
  · rintro i acc hi rfl
    have hi' : i < (piecesN c (o : Int)).length := by omega
    have hpi : (piecesN c (o : Int))[i]? = some ((piecesN c (o : Int)).getD i (0, false)) := by rw [List.getD_eq_getElem?_getD, List.getElem?_eq_getElem hi']; rfl
    refine dgw_name rfl (by decide) rfl ?_
    walk_at "d"
    refine ⟨_, atI_map hpi, ?_⟩
    walk_at "d"
    refine ⟨_, rfl, ?_⟩
    walk_at "d"
    cases hb2 : ((piecesN c (o : Int)).getD i (0, false)).2
    · walk_at "d"
      show _ = ((List.range (i + 1)).filter _).map _
      rw [List.range_succ, List.filter_append, List.filter_cons_of_neg (p := fun k => ((piecesN c (o : Int)).getD k (0, false)).2) (a := i) (by rw [hb2]; decide)]
      simp
    · walk_at "d"
      show _ = ((List.range (i + 1)).filter _).map _
      rw [List.range_succ, List.filter_append, List.filter_cons_of_pos (p := fun k => ((piecesN c (o : Int)).getD k (0, false)).2) (a := i) hb2]
      simp
  rintro acc rfl
  rw [Int.toNat_natCast]
  have hks : ∀ k ∈ (List.range (piecesN c (o : Int)).length).filter (fun k => ((piecesN c (o : Int)).getD k (0, false)).2), k < (piecesN c (o : Int)).length := fun k hk => List.mem_range.mp (List.mem_filter.mp hk).1
  have hkl : ((List.range (piecesN c (o : Int)).length).filter (fun k => ((piecesN c (o : Int)).getD k (0, false)).2)).length ≤ 33 := Nat.le_trans (List.length_filter_le _ _) (by rw [List.length_range]; omega)
  unfold oldBoth at hold
  generalize (List.range (piecesN c (o : Int)).length).filter (fun k => ((piecesN c (o : Int)).getD k (0, false)).2) = ks at *
  walk_at "d"
  refine de_new (dn_mapL ks (fun k : Nat => D.int (k : Int)) (fun k => .int (((piecesN c (o : Int)).getD k (0, false)).1 : Int)) ?_)
  walk_at "d"
  refine ⟨rfl, by omega, fun i k hk => dgw_name rfl (by decide) rfl ?_, ?_⟩
  · have hk' := hks k (List.mem_of_getElem? hk)
    have hpi : (piecesN c (o : Int))[k]? = some ((piecesN c (o : Int)).getD k (0, false)) := by rw [List.getD_eq_getElem?_getD, List.getElem?_eq_getElem hk']; rfl
    walk_at "d"
    refine ⟨_, atI_map hpi, ?_⟩
    walk_at "d"
    exact ⟨_, rfl, rfl⟩
  walk_at "d"
  refine de_new (dn_mapL ks (fun k : Nat => D.int (k : Int)) (fun k => .int (P'.getD k 0)) ?_)
  walk_at "d"
  refine ⟨rfl, by omega, fun i k hk => dgw_name rfl (by decide) rfl ?_, ?_⟩
  · have hk' := hks k (List.mem_of_getElem? hk)
    walk_at "d"
    exact ⟨_, atI_map (show P'[k]? = some (P'.getD k 0) by rw [List.getD_eq_getElem?_getD, List.getElem?_eq_getElem (show k < P'.length by omega)]; rfl), rfl⟩
  walk_at "d"
  refine dc_g (wd, ks.map (fun k => (((piecesN c (o : Int)).getD k (0, false)).1 : Int)), ks.map (fun k => P'.getD k 0)) (by simp) ⟨w4, w128, by rw [List.length_map]; omega, by rw [List.length_map, List.length_map], ?_, ?_⟩ ?_
  · intro z hz
    obtain ⟨k, hk, rfl⟩ := List.mem_map.mp hz
    have := hsz _ (mem_getD (hks k hk) (0, false))
    omega
  · intro y hy
    obtain ⟨k, hk, rfl⟩ := List.mem_map.mp hy
    exact hb _ (mem_getD (by have := hks k hk; omega) 0)
  walk_at "D"
  refine ifn (fun h1 => ?_) (fun h1 => ?_)
  · walk_at "d"
    have : grownN wd olr (o : Int) root (c : Int) P' = false := by
      unfold grownN
      rw [if_pos ⟨ho, hoc'⟩]
      split
      · rename_i z
        refine decide_eq_false fun y => h1 ?_
        rw [(hold (by omega)).1 (by omega), y.2.1, y.2.2, rootN_lt (by decide)]
      · rename_i z
        rw [Int.toNat_natCast, Int.toNat_natCast]
        split
        · refine decide_eq_false fun y => h1 ?_
          rw [(hold (by omega)).2 (by omega), y.1]
        · rfl
    rw [this]
  walk_at "d"
  refine ifd (fun h2 => ?_) (fun h2 => ?_)
  · walk_at "d"
    refine dc_lawdig [] (.inl rfl) w4 w128 (by simp) (itms_bd (by simp) (by simp)) ?_
    walk_at "d"
    have e1 := (hold (by omega)).1 (by omega)
    rw [e1] at h1
    unfold grownN
    rw [if_pos ⟨ho, hoc'⟩, if_pos h2]
    have hr0 : rootN wd [] = dgst wd 0 [] := rootN_lt (by decide)
    have hP0 : P'.length = 0 := by rw [← heq', hpz (by omega)]; rfl
    congr 1
    refine decide_eq_decide.mpr ⟨fun z => ⟨hP0, by rw [z, ← h1], by rw [z, hr0]⟩, fun z => by rw [z.2.2, hr0]⟩
  · walk_at "d"
    refine dc_g (wd, c, (o : Int), P') rfl ⟨w4, w128, by show c < 34; omega, by show 1 ≤ c; omega, by show c ≤ 33; omega, by show (piecesN c (o : Int)).length ≤ P'.length; omega, hb⟩ ?_
    walk_at "D"
    refine ⟨_, rfl, ?_⟩
    walk_at "d"
    have hlw := pieces_len 33 c o (by omega) (by omega)
    obtain ⟨t1, _⟩ := whl_tree (wd := wd) 33 c o P' (by omega) (by omega) (by omega)
    rw [List.take_of_length_le (by omega)] at t1
    rw [(hold (by omega)).2 (by omega)] at h1
    unfold grownN
    rw [if_pos ⟨ho, hoc'⟩, if_neg (by omega), Int.toNat_natCast, Int.toNat_natCast, if_pos ⟨by omega, ha⟩, treeP_eq, ← t1]
    congr 1
    exact decide_eq_decide.mpr ⟨fun z => ⟨h1.symm, z.symm⟩, fun z => z.2.symm⟩

/-! ### collisions by data -/
abbrev collD (a b : Int × List Int) : D := .tup [.str "collision", inD a, inD b]
theorem inD_inj {a b : Int × List Int} (h : inD a = inD b) : a = b := by
  obtain ⟨a1, a2⟩ := a
  obtain ⟨b1, b2⟩ := b
  injection h with h
  injection h with h1 h2
  injection h1 with h1
  injection h2 with h2 _
  exact Prod.ext h1 (tI_ne.mp h2)
theorem inD_plain (a : Int × List Int) : (inD a).plain = true := by
  show (D.plain (.int a.1) && (D.plain (tI a.2) && true)) = true
  rw [tI_plain]; rfl
theorem inD_dep (a : Int × List Int) : (inD a).dep ≤ 50 := by
  show max 0 (max (tI a.2).dep 0) + 1 ≤ 50
  have : (tI a.2).dep ≤ 1 := by show D.deps (a.2.map D.int) + 1 ≤ 1; have := deps_map (f := D.int) (n := 0) (fun _ => Nat.le_refl _) a.2; omega
  omega
theorem collD_plain (a b : Int × List Int) : (collD a b).plain = true := by
  show (D.plain (.str "collision") && (D.plain (inD a) && (D.plain (inD b) && true))) = true
  rw [inD_plain, inD_plain]
  have : D.plain (.str "collision") = true := by show PyData.strOk "collision" = true; decide +kernel
  rw [this]; rfl
theorem collD_dep (a b : Int × List Int) : (collD a b).dep ≤ 60 := by
  show max 0 (max (inD a).dep (max (inD b).dep 0)) + 1 ≤ 60
  have := inD_dep a; have := inD_dep b; omega
theorem dr_neIn {Q : E → Prop} {a b : Int × List Int} (k : Q (.d (.bl (!decide (a = b))))) : DR K (rNeD K) (.d (inD a)) (.d (inD b)) Q := dr_neD (decide (a = b)) (by rw [decide_eq_true_iff]; exact ⟨fun h => by rw [h], inD_inj⟩) (inD_plain a) (inD_plain b) (Nat.le_trans (inD_dep a) (by decide)) (Nat.le_trans (inD_dep b) (by decide)) k
theorem dr_eqIn {Q : E → Prop} {a b : Int × List Int} (k : Q (.d (.bl (decide (a = b))))) : DR K (rEqD K) (.d (inD a)) (.d (inD b)) Q := dr_eqD (decide (a = b)) (by rw [decide_eq_true_iff]; exact ⟨fun h => by rw [h], inD_inj⟩) (inD_plain a) (inD_plain b) (Nat.le_trans (inD_dep a) (by decide)) (Nat.le_trans (inD_dep b) (by decide)) k
def sp_collision (K : PySem.W.Frag) : Sp := spG K (fun x : (Int × List Int) × (Int × List Int) => [inD x.1, inD x.2]) (fun _ => True) fun x => collD x.1 x.2
theorem ok_collision (T : Txt K mg) : FnOk P w K mg base CX0 (1) (He.fAd K ("collision", none)) T.fd_collision ["first", "second"] (sp_collision K) := by
  refine T.collision.F.ok sc_collision (fun vs H Q E h => len_g h fun _ => rfl) (fun cdv A outer s H vs Q E hr h => ⟨_, PSs.nox (pss_one (ps_ret (pe_tup (pa_cons pe_str (pa_cons (pe_tup (pa_cons (pe_ix (kx_tup (K := K)) (pv 0) pe_int (fun _ _ => rfl)) (pa_cons (pe_callTy (kq_tuple (K := K)) (by rfl) T.z_tuple (by decide +kernel) (pa_cons (pe_ix (kx_tup (K := K)) (pv 0) pe_int (fun _ _ => rfl)) pa_nil)) pa_nil))) (pa_cons (pe_tup (pa_cons (pe_ix (kx_tup (K := K)) (pv 1) pe_int (fun _ _ => rfl)) (pa_cons (pe_callTy (kq_tuple (K := K)) (by rfl) T.z_tuple (by decide +kernel) (pa_cons (pe_ix (kx_tup (K := K)) (pv 1) pe_int (fun _ _ => rfl)) pa_nil)) pa_nil))) pa_nil)))))), fn_g h fun x p => ?_⟩)
  change DS K _ (Wp.E.d _ :: (Wp.E.d _ :: [])) _ _ _ _
  obtain ⟨⟨a1, a2⟩, ⟨b1, b2⟩⟩ := x
  dsimp only
  walk_at "d"
  refine ⟨_, rfl, ?_⟩
  walk_at "d"
  refine ⟨_, rfl, ?_⟩
  walk_at "d"
  refine ⟨_, rfl, ?_⟩
  walk_at "d"
  refine ⟨_, rfl, ?_⟩
  walk_at "d"
  rfl
def sp_is_input (K : PySem.W.Frag) : Sp := spG K (fun x : Int × List Int => [inD x]) (fun x => x.2.length ≤ 10000 ∧ 0 ≤ x.1 ∧ x.1 ≤ 15 ∧ ∀ n ∈ x.2, 0 ≤ n) fun x => .bl true
theorem ok_is_input (T : Txt K mg) : FnOk P w K mg base CX0 (1) (He.fAd K ("is_input", none)) T.fd_is_input ["pair"] (sp_is_input K) := by
  refine T.is_input.F.ok sc_is_input (fun vs H Q E h => len_g h fun _ => rfl) (fun cdv A outer s H vs Q E hr h => ⟨_, PSs.nox (pss_cons (ps_asg (pv 0) (kg_tup (K := K) (n := 2) rfl (pgs_cons (pg_name (i := 1) sc_is_input.nd rfl (Or.inl rfl)) (pgs_cons (pg_name (i := 2) sc_is_input.nd rfl (Or.inl rfl)) pgs_nil))))
  (pss_one (ps_ret (pe_and (pe_chain (op_le) (op_le) pe_int (pv 1) (pe_glob (v := .int 15) rfl T.c_GREATEST_TAG.choose_spec ⟨_, rfl⟩)) (pe_one (pe_callB (kr_all (K := K)) (by rfl) T.z_all (by decide +kernel) (pa_cons (pe_lc (own := [("number", 3)]) rfl sc_is_input.nd (ki_tup (K := K) (pv 2)) (blkOk_by (own := [("number", 3)]) (N := ["pair", "tag", "numbers", "number"]) (sc := defScope s_is_input) (by decide +kernel)) (fun _ _ _ _ _ => pg_name (i := 3) sc_is_input.nd rfl (Or.inl rfl)) (fun _ _ _ _ _ => pts_nil) (fun _ _ _ _ _ => (pe_cmpR (op_ge) (pv 3) pe_int (nomark _)))) pa_nil))))))), fn_g h fun x p => ?_⟩)
  change DS K _ (Wp.E.d _ :: (Wp.E.any :: (Wp.E.any :: (Wp.E.any :: [])))) _ _ _ _
  obtain ⟨t, ns⟩ := x
  obtain ⟨hl, h0, h1, hn⟩ := p
  dsimp only at hl h0 h1 hn ⊢
  walk_at "d"
  refine ifdT h0 ?_
  walk_at "d"
  rw [decide_eq_true h1]
  walk_at "d"
  refine de_new (dn_mapT ns D.int (fun n => .bl (decide (0 ≤ n))) ?_)
  walk_at "d"
  refine ⟨rfl, by omega, fun i n hn => dgw_name rfl (by decide) rfl ?_, ?_⟩
  · walk_at "d"
    rfl
  have em : ns.map (fun n => D.bl (decide (0 ≤ n))) = (ns.map (fun n => decide (0 ≤ n))).map D.bl := by rw [List.map_map]; rfl
  rw [em]
  walk_at "d"
  rw [List.all_map, show ns.all (id ∘ fun n => decide (0 ≤ n)) = true from List.all_eq_true.mpr fun n hm => decide_eq_true (hn n hm)]
def InOk (a : Int × List Int) : Prop := a.2.length ≤ 120 ∧ 0 ≤ a.1 ∧ a.1 ≤ 15 ∧ ∀ n ∈ a.2, Itm n
def sp_is_collision (K : PySem.W.Frag) : Sp := spG K (fun x : Int × (Int × List Int) × (Int × List Int) => [Hs K x.1, collD x.2.1 x.2.2]) (fun x => 4 ≤ x.1 ∧ x.1 ≤ 128 ∧ x.2.1 ≠ x.2.2 ∧ InOk x.2.1 ∧ InOk x.2.2) fun x => .bl (decide (dgst x.1 x.2.1.1 x.2.1.2 = dgst x.1 x.2.2.1 x.2.2.2))
theorem ok_is_collision (T : Txt K mg) : FnOk P w K mg base CX0 (3) (He.fAd K ("is_collision", none)) T.fd_is_collision ["hasher", "answer"] (sp_is_collision K) := by
  refine T.is_collision.F.ok sc_is_collision (fun vs H Q E h => len_g h fun _ => rfl) (fun cdv A outer s H vs Q E hr h => ⟨_, PSs.nox (pss_cons (ps_if (PW.pt (pw_or (pt_cmpR (op_isN1) (pv 1) pe_non (nomark _)) (pw_or1 (pt_cmpR (op_ne) (pe_ix (kx_tup (K := K)) (pv 1) pe_int (fun _ _ => rfl)) pe_str (nomark _))))) (pss_one (ps_ret pe_bl)) pss_nil)
  (pss_cons (ps_asg (pe_slice (kl_tupA (K := K)) (pv 1) (po_some pe_int) po_none) (kg_tup (K := K) (n := 2) rfl (pgs_cons (pg_name (i := 2) sc_is_collision.nd rfl (Or.inl rfl)) (pgs_cons (pg_name (i := 3) sc_is_collision.nd rfl (Or.inl rfl)) pgs_nil))))
  (pss_cons (ps_if (PW.pt (pw_or (pt_cmpR (kp_eqD (K := K) hr.units) (pv 2) (pv 3) (nomark _)) (pw_or (pt_not (pt_val (pe_call (ok_is_input T) (hr.mono (by omega)) (by rfl) T.is_input.g T.is_input.F.kp T.is_input.b .nil pass0 (pa_cons (pv 2) pa_nil)))) (pw_or1 (pt_not (pt_val (pe_call (ok_is_input T) (hr.mono (by omega)) (by rfl) T.is_input.g T.is_input.F.kp T.is_input.b .nil pass0 (pa_cons (pv 3) pa_nil)))))))) (pss_one (ps_ret pe_bl)) pss_nil)
  (pss_one (ps_ret (pe_cmpR (op_eq) (pe_meth (pv 0) T.cl_Hasher T.me_Hasher_digest (ok_Hasher_digest T) (hr.mono (by omega)) T.Hasher_digest.b .nil pass0 (pa_cons (pe_ix (kx_tup (K := K)) (pv 2) pe_int (fun _ _ => rfl)) (pa_cons (pe_ix (kx_tup (K := K)) (pv 2) pe_int (fun _ _ => rfl)) pa_nil))) (pe_meth (pv 0) T.cl_Hasher T.me_Hasher_digest (ok_Hasher_digest T) (hr.mono (by omega)) T.Hasher_digest.b .nil pass0 (pa_cons (pe_ix (kx_tup (K := K)) (pv 3) pe_int (fun _ _ => rfl)) (pa_cons (pe_ix (kx_tup (K := K)) (pv 3) pe_int (fun _ _ => rfl)) pa_nil))) (nomark _))))))), fn_g h fun x p => ?_⟩)
  change DS K _ (Wp.E.d _ :: (Wp.E.d _ :: (Wp.E.any :: (Wp.E.any :: [])))) _ _ _ _
  obtain ⟨wd, a, b⟩ := x
  obtain ⟨w4, w128, hne, ha, hb⟩ := p
  dsimp only at w4 w128 hne ha hb ⊢
  walk_at "d"
  rw [show (collD a b).isN = false from rfl]
  walk_at "d"
  refine ⟨_, rfl, ?_⟩
  walk_at "d"
  refine ifnF rfl ?_
  walk_at "d"
  rw [show cutO [D.str "collision", inD a, inD b] (some 1) none = [inD a, inD b] from rfl]
  walk_at "d"
  refine dr_eqIn ?_
  walk_at "d"
  refine ifdF hne ?_
  have ok : ∀ z : Int × List Int, InOk z → z.2.length ≤ 10000 ∧ 0 ≤ z.1 ∧ z.1 ≤ 15 ∧ ∀ n ∈ z.2, 0 ≤ n := fun z h => ⟨by have := h.1; omega, h.2.1, h.2.2.1, fun n hn => (h.2.2.2 n hn).1⟩
  walk_at "d"
  refine dc_g a rfl (ok a ha) ?_
  walk_at "D"
  refine dc_g b rfl (ok b hb) ?_
  walk_at "D"
  refine ⟨_, rfl, ?_⟩
  walk_at "d"
  refine ⟨_, rfl, ?_⟩
  walk_at "d"
  refine dc_digest a.2 (.inr rfl) (by omega) w128 (itms_bd ha.1 ha.2.2.2) ?_
  walk_at "d"
  refine ⟨_, rfl, ?_⟩
  walk_at "d"
  refine ⟨_, rfl, ?_⟩
  walk_at "d"
  refine dc_digest b.2 (.inr rfl) (by omega) w128 (itms_bd hb.1 hb.2.2.2) ?_
  walk_at "d"
  rfl
def firstC : List (Int × List Int) → List (Int × List Int) → D
  | a :: A, b :: B => if a = b then firstC A B else collD a b
  | _, _ => .non
theorem firstC_same (a : Int × List Int) (A B : List (Int × List Int)) : firstC (a :: A) (a :: B) = firstC A B := by rw [firstC, if_pos rfl]
theorem firstC_ne {a b : Int × List Int} (h : a ≠ b) (A B : List (Int × List Int)) : firstC (a :: A) (b :: B) = collD a b := by rw [firstC, if_neg h]
def sp_first_collision (K : PySem.W.Frag) : Sp := spG K (fun x : List (Int × List Int) × List (Int × List Int) => [.lst (x.1.map inD), .lst (x.2.map inD)]) (fun x => x.1.length = x.2.length) fun x => firstC x.1 x.2
theorem ok_first_collision (T : Txt K mg) : FnOk P w K mg base CX0 (2) (He.fAd K ("first_collision", none)) T.fd_first_collision ["own_inputs", "told_inputs"] (sp_first_collision K) := by
  refine T.first_collision.F.ok sc_first_collision (fun vs H Q E h => len_g h fun _ => rfl) (fun cdv A outer s H vs Q E hr h => ⟨_, PSs.nox (pss_cons (ps_for PassesOwn.never rfl (ki_zip (K := K) (by rfl) T.z_zip (pa_cons (pv 0) (pa_cons (pv 1) pa_nil))) (kg_tup (K := K) (n := 2) rfl (pgs_cons (pg_name (i := 2) sc_first_collision.nd rfl (Or.inl rfl)) (pgs_cons (pg_name (i := 3) sc_first_collision.nd rfl (Or.inl rfl)) pgs_nil))) (pss_one (ps_if (pt_cmpR (kp_neD (K := K) hr.units) (pv 2) (pv 3) (nomark _)) (pss_one (ps_ret (pe_call (ok_collision T) (hr.mono (by omega)) (by rfl) T.collision.g T.collision.F.kp T.collision.b .nil pass0 (pa_cons (pv 2) (pa_cons (pv 3) pa_nil))))) pss_nil)))
  (pss_one (ps_ret pe_non))), fn_g h fun x p => ?_⟩)
  change DS K _ (Wp.E.d _ :: (Wp.E.d _ :: (Wp.E.any :: (Wp.E.any :: [])))) _ _ _ _
  obtain ⟨A, B⟩ := x
  replace p : A.length = B.length := p
  dsimp only
  walk_at "d"
  refine ds_forZ ?_
  walk_at "d"
  refine ⟨_, _, rfl, fun i ρ => firstC A B = firstC (A.drop i) (B.drop i) ∧ ρ = [.d (.lst (A.map inD)), .d (.lst (B.map inD)), .any, .any], ⟨_, by walk_at "le", rfl, rfl⟩, ?_, ?_⟩
  · rintro i d e ρ hd he ⟨hf, rfl⟩
    rw [List.getElem?_map] at hd he
    obtain ⟨a, ha, rfl⟩ := Option.map_eq_some_iff.mp hd
    obtain ⟨b, hb, rfl⟩ := Option.map_eq_some_iff.mp he
    have h1 := (List.getElem?_eq_some_iff.mp ha)
    have h2 := (List.getElem?_eq_some_iff.mp hb)
    rw [List.drop_eq_getElem_cons h1.1, List.drop_eq_getElem_cons h2.1, h1.2, h2.2] at hf
    walk_at "d"
    refine dr_neIn ?_
    walk_at "d"
    refine ifn (fun hne => ?_) (fun heq => ?_)
    · walk_at "d"
      refine dc_g (a, b) rfl trivial ?_
      walk_at "D"
      rw [hf, firstC_ne hne]
    · walk_at "d"
      subst heq
      rw [firstC_same] at hf
      exact ⟨_, by walk_at "le", hf, rfl⟩
  · rintro ρ ⟨hf, rfl⟩
    walk_at "d"
    rw [List.length_map, List.length_map] at hf
    rw [hf, List.drop_of_length_le (by omega)]
    first | rfl | (cases B.drop _ <;> rfl)
def sp__law_first (K : PySem.W.Frag) : Sp := spG K (fun x : List (Int × List Int) × List (Int × List Int) => [.lst (x.1.map inD), .lst (x.2.map inD)]) (fun x => x.1.length = x.2.length ∧ x.1.length ≤ 10000) fun x => firstC x.1 x.2
theorem ok__law_first (T : Txt K mg) : FnOk P w K mg base CX0 (1) (He.fAd K ("_law_first", none)) T.fd__law_first ["true", "told"] (sp__law_first K) := by
  refine T._law_first.F.ok sc__law_first (fun vs H Q E h => len_g h fun _ => rfl) (fun cdv A outer s H vs Q E hr h => ⟨_, PSs.nox (pss_cons (ps_for PassesOwn.never rfl (pi_range1 rfl T.z_range (pa_cons (pe_callB (kq_len (K := K)) (by rfl) T.z_len (by decide +kernel) (pa_cons (pv 1) pa_nil)) pa_nil)) (pg_name (i := 2) sc__law_first.nd rfl (Or.inl rfl)) (pss_one (ps_if (pt_cmpR (kp_neD (K := K) hr.units) (pe_ix (kx_list (K := K)) (pv 1) (pv 2) (fun _ _ => rfl)) (pe_ix (kx_list (K := K)) (pv 0) (pv 2) (fun _ _ => rfl)) (nomark _)) (pss_one (ps_ret (pe_tup (pa_cons pe_str (pa_cons (pe_ix (kx_list (K := K)) (pv 0) (pv 2) (fun _ _ => rfl)) (pa_cons (pe_ix (kx_list (K := K)) (pv 1) (pv 2) (fun _ _ => rfl)) pa_nil)))))) pss_nil)))
  (pss_one (ps_ret pe_non))), fn_g h fun x p => ?_⟩)
  change DS K _ (Wp.E.d _ :: (Wp.E.d _ :: (Wp.E.any :: []))) _ _ _ _
  obtain ⟨A, B⟩ := x
  obtain ⟨p, hl⟩ := p
  dsimp only at p hl ⊢
  walk_at "d"
  refine ds_forR1 ?_
  walk_at "d"
  refine ⟨_, rfl, by omega, by omega, fun i ρ => firstC A B = firstC (A.drop i) (B.drop i) ∧ ρ = [.d (.lst (A.map inD)), .d (.lst (B.map inD)), .any], ⟨_, by walk_at "le", rfl, rfl⟩, ?_, ?_⟩
  · rintro i ρ hi ⟨hf, rfl⟩
    have h1 : i < A.length := by omega
    have h2 : i < B.length := by omega
    have ha : A[i]? = some A[i] := List.getElem?_eq_getElem h1
    have hb : B[i]? = some B[i] := List.getElem?_eq_getElem h2
    rw [List.drop_eq_getElem_cons h1, List.drop_eq_getElem_cons h2] at hf
    generalize A[i] = a at *
    generalize B[i] = b at *
    walk_at "d"
    refine ⟨_, atI_map hb, ?_⟩
    walk_at "d"
    refine ⟨_, atI_map ha, ?_⟩
    refine dr_neIn ?_
    walk_at "d"
    refine ifn (fun hne => ?_) (fun heq => ?_)
    · walk_at "d"
      refine ⟨_, atI_map ha, ?_⟩
      walk_at "d"
      refine ⟨_, atI_map hb, ?_⟩
      walk_at "d"
      rw [hf, firstC_ne (fun z => hne z.symm)]
    · walk_at "d"
      subst heq
      rw [firstC_same] at hf
      exact ⟨_, by walk_at "le", hf, rfl⟩
  · rintro ρ ⟨hf, rfl⟩
    walk_at "d"
    rw [Int.toNat_natCast] at hf
    rw [hf, List.drop_of_length_le (by omega)]
    first | rfl | (cases B.drop _ <;> rfl)
/-- two rows of inputs in which equal ones tell one digest of what comes below -/
structure Chn (wd : Int) (A B : List (Int × List Int)) : Prop where
  len : A.length = B.length
  top : ∀ a b, A[0]? = some a → B[0]? = some b → dgst wd a.1 a.2 = dgst wd b.1 b.2
  nxt : ∀ i a c d, A[i]? = some a → B[i]? = some a → A[i + 1]? = some c → B[i + 1]? = some d → dgst wd c.1 c.2 = dgst wd d.1 d.2
theorem chn_first {wd : Int} : ∀ {A B : List (Int × List Int)}, Chn wd A B → firstC A B = .non ∨ ∃ a b, a ∈ A ∧ b ∈ B ∧ a ≠ b ∧ firstC A B = collD a b ∧ dgst wd a.1 a.2 = dgst wd b.1 b.2
  | [], [], _ => .inl rfl
  | [], _ :: _, c => by have := c.len; simp at this
  | _ :: _, [], c => by have := c.len; simp at this
  | a :: A, b :: B, c => by
    by_cases z : a = b
    · subst z
      rw [firstC_same]
      rcases chn_first (wd := wd) (A := A) (B := B) ⟨by have := c.len; simpa using this, fun x y hx hy => c.nxt 0 a x y rfl rfl (by simpa using hx) (by simpa using hy), fun i x y w h1 h2 h3 h4 => c.nxt (i + 1) x y w (by simpa using h1) (by simpa using h2) (by simpa using h3) (by simpa using h4)⟩ with h | ⟨x, y, h1, h2, h3⟩
      · exact .inl h
      · exact .inr ⟨x, y, List.mem_cons_of_mem _ h1, List.mem_cons_of_mem _ h2, h3⟩
    · exact .inr ⟨a, b, List.mem_cons_self, List.mem_cons_self, z, firstC_ne z A B, c.top a b rfl rfl⟩
theorem nums_inj {b b' p p' : Int} {st : Nat × Bool} (h : numsN b p st = numsN b' p' st) : b = b' := by
  unfold numsN at h
  cases z : st.2 <;> rw [z] at h <;> simp at h
  · exact h.2
  · exact h.1
/-- the inputs that a way tells, from the top, over one way -/
theorem up_chn {wd : Int} {V : List (Nat × Bool)} {P P' : List Int} {e e' : Int} {n : Nat} (h : botN wd V P e n = botN wd V P' e' n) : Chn wd (upN wd V P e n).reverse (upN wd V P' e' n).reverse where
  len := by rw [List.length_reverse, List.length_reverse, upN_len, upN_len]
  top := fun a b ha hb => by
    by_cases z : 0 < n
    · obtain ⟨f, f1, f2, _⟩ := upN_last (wd := wd) (e := e) (V := V) (Q := P) z
      obtain ⟨g, g1, g2, _⟩ := upN_last (wd := wd) (e := e') (V := V) (Q := P') z
      rw [f1] at ha; rw [g1] at hb
      cases ha; cases hb
      rw [f2, g2, h]
    · have : n = 0 := by omega
      subst this
      simp [upN] at ha
  nxt := fun i a c d h1 h2 h3 h4 => by
    have aux : ∀ (P : List Int) (e : Int) (i : Nat) (a : Int × List Int), (upN wd V P e n).reverse[i]? = some a → i < n ∧ a = (1, numsN (botN wd V P e (n - 1 - i)) (P.getD (n - 1 - i) 0) (V.getD (n - 1 - i) (0, true))) := fun P e i a ha => by
      have hi : i < n := by have := (List.getElem?_eq_some_iff.mp ha).1; rw [List.length_reverse, upN_len] at this; exact this
      rw [List.getElem?_reverse (by rw [upN_len]; exact hi), upN_len] at ha
      unfold upN at ha
      rw [List.getElem?_map, List.getElem?_range (by omega)] at ha
      cases ha
      exact ⟨hi, rfl⟩
    obtain ⟨i1, a1⟩ := aux P e i a h1
    obtain ⟨_, a2⟩ := aux P' e' i a h2
    obtain ⟨i3, a3⟩ := aux P e (i + 1) c h3
    obtain ⟨_, a4⟩ := aux P' e' (i + 1) d h4
    have hb := nums_inj (congrArg Prod.snd (a1.symm.trans a2))
    obtain ⟨m, hm⟩ : ∃ m, n - 1 - i = m + 1 := ⟨n - 2 - i, by omega⟩
    rw [hm, botN, botN] at hb
    have hm2 : n - 1 - (i + 1) = m := by omega
    rw [hm2] at a3 a4
    rw [a3, a4]
    exact hb
theorem tell_rev (wd x : Int) (W : List (Nat × Bool)) (P : List Int) : (tellN wd W x P).reverse = (upN wd W.reverse P (dgst wd 0 [x]) W.length).reverse ++ [(0, [x])] := by unfold tellN; rw [List.reverse_cons]
theorem tell_chn {wd x x' : Int} {W : List (Nat × Bool)} {P P' : List Int} (h : botN wd W.reverse P (dgst wd 0 [x]) W.length = botN wd W.reverse P' (dgst wd 0 [x']) W.length) : Chn wd (tellN wd W x P).reverse (tellN wd W x' P').reverse := by
  have u := up_chn h
  have lt : ∀ (P : List Int) (x : Int) (i : Nat), i < W.length → (tellN wd W x P).reverse[i]? = (upN wd W.reverse P (dgst wd 0 [x]) W.length).reverse[i]? := fun P x i hi => by
    rw [tell_rev, List.getElem?_append_left (by rw [List.length_reverse, upN_len]; exact hi)]
  have eq : ∀ (P : List Int) (x : Int), (tellN wd W x P).reverse[W.length]? = some (0, [x]) := fun P x => by
    rw [tell_rev, List.getElem?_append_right (by rw [List.length_reverse, upN_len]; exact Nat.le_refl _), List.length_reverse, upN_len, Nat.sub_self]
    rfl
  refine ⟨by rw [List.length_reverse, List.length_reverse, tellN_len, tellN_len], fun a b ha hb => ?_, fun i a c d h1 h2 h3 h4 => ?_⟩
  · by_cases z : 0 < W.length
    · rw [lt _ _ _ z] at ha hb
      exact u.top a b ha hb
    · have z0 : W.length = 0 := by omega
      have q1 := eq P x
      have q2 := eq P' x'
      rw [z0] at q1 q2 h
      rw [q1] at ha; rw [q2] at hb
      cases ha; cases hb
      rw [botN, botN] at h
      exact h
  · have hi : i + 1 ≤ W.length := by
      have := (List.getElem?_eq_some_iff.mp h3).1
      rw [List.length_reverse, tellN_len] at this
      omega
    rw [lt _ _ _ (by omega)] at h1 h2
    by_cases z : i + 1 < W.length
    · rw [lt _ _ _ z] at h3 h4
      exact u.nxt i a c d h1 h2 h3 h4
    · have z1 : i + 1 = W.length := by omega
      rw [z1, eq] at h3 h4
      cases h3; cases h4
      have aux : ∀ (P : List Int) (e : Int), (upN wd W.reverse P e W.length).reverse[i]? = some (1, numsN (botN wd W.reverse P e 0) (P.getD 0 0) (W.reverse.getD 0 (0, true))) := fun P e => by
        rw [List.getElem?_reverse (by rw [upN_len]; omega), upN_len, show W.length - 1 - i = 0 by omega]
        unfold upN
        rw [List.getElem?_map, List.getElem?_range (by omega)]
        rfl
      rw [aux] at h1 h2
      have := nums_inj (congrArg Prod.snd ((Option.some.inj h1).trans (Option.some.inj h2).symm))
      rw [botN, botN] at this
      exact this
theorem up_ok {wd : Int} (h4 : 4 ≤ wd) (h : wd ≤ 128) {V : List (Nat × Bool)} {P : List Int} {e : Int} {n : Nat} (hs : ∀ y ∈ V, y.1 ≤ 1000) (hp : ∀ y ∈ P, Itm y) (he : Itm e) (h1 : n ≤ V.length) (h2 : n ≤ P.length) : ∀ a ∈ upN wd V P e n, InOk a := by
  intro a ha
  unfold upN at ha
  obtain ⟨i, hi, rfl⟩ := List.mem_map.mp ha
  have hi' := List.mem_range.mp hi
  refine ⟨by unfold numsN; split <;> simp, by show (0 : Int) ≤ 1; decide, by show (1 : Int) ≤ 15; decide, nums_itm (hs _ (mem_getD (by omega) _)) (bot_itm h4 h he i) (hp _ (mem_getD (by omega) _))⟩
theorem tell_ok {wd x : Int} (h4 : 4 ≤ wd) (h : wd ≤ 128) {W : List (Nat × Bool)} {P : List Int} (hs : ∀ y ∈ W, y.1 ≤ 1000) (hp : ∀ y ∈ P, Itm y) (hx : Itm x) (hl : P.length = W.length) : ∀ a ∈ (tellN wd W x P).reverse, InOk a := by
  intro a ha
  have ha' := List.mem_reverse.mp ha
  unfold tellN at ha'
  rcases List.mem_cons.mp ha' with rfl | ha'
  · exact ⟨by simp, by show (0 : Int) ≤ 0; decide, by show (0 : Int) ≤ 15; decide, by intro n hn; simp at hn; rw [hn]; exact hx⟩
  · exact up_ok h4 h (fun y hy => hs y (List.mem_reverse.mp hy)) hp ⟨(dgst_rng h4 h _ _).1, bd_dgst h4 h _ _⟩ (by rw [List.length_reverse]; exact Nat.le_refl _) (by omega) a ha'
/-- what a break may be -/
def BrkOk (wd : Int) (d : D) : Prop := d = .non ∨ ∃ a b, d = collD a b ∧ a ≠ b ∧ InOk a ∧ InOk b ∧ dgst wd a.1 a.2 = dgst wd b.1 b.2
theorem brk_of {wd : Int} {A B : List (Int × List Int)} (c : Chn wd A B) (ha : ∀ a ∈ A, InOk a) (hb : ∀ a ∈ B, InOk a) : BrkOk wd (firstC A B) := by
  rcases chn_first c with h | ⟨a, b, h1, h2, h3, h4, h5⟩
  · exact .inl h
  · exact .inr ⟨a, b, h4, h3, ha a h1, hb b h2, h5⟩
def lbrk (wd : Int) (items : List Int) (k : Nat) (item : Int) (proof : List Int) : D :=
  if listedN wd (rootN wd items) (items.length : Int) (k : Int) item proof = true then firstC (tellN wd (stepsN items.length k) (items.getD k 0) (wayN wd items k)).reverse (tellN wd (stepsN items.length k) item proof).reverse else .non
theorem listed_facts {wd root c k item : Int} {P : List Int} (h : listedN wd root c k item P = true) : 0 ≤ item ∧ (stepsN c.toNat k.toNat).length = P.length ∧ P.all (isD wd) = true ∧ botN wd (stepsN c.toNat k.toNat).reverse P (dgst wd 0 [item]) (stepsN c.toNat k.toNat).length = root := by
  unfold listedN at h
  split at h
  · rename_i z
    have := of_decide_eq_true h
    rw [top_dgst] at this
    exact ⟨z.1, z.2.2.2.1, z.2.2.2.2, this⟩
  · cases h
theorem all_itm {wd : Int} (h : wd ≤ 128) {P : List Int} (ha : P.all (isD wd) = true) : ∀ y ∈ P, Itm y := fun y hy => ⟨(of_decide_eq_true (List.all_eq_true.mp ha y hy)).1, bd_isD h (List.all_eq_true.mp ha y hy)⟩
theorem way_itm {wd : Int} (h4 : 4 ≤ wd) (h : wd ≤ 128) {xs : List Int} {k : Nat} : ∀ y ∈ wayN wd xs k, Itm y := fun y hy => by
  have := wayN_itm h4 h xs.length xs k (Nat.le_refl _) y hy
  exact itm_pow this.1 this.2 (by omega)
theorem lbrk_ok {wd : Int} (h4 : 4 ≤ wd) (h : wd ≤ 128) {items : List Int} {k : Nat} {item : Int} {proof : List Int} (hk : k < items.length) (hl : items.length ≤ 33) (hi : ∀ y ∈ items, Itm y) (hit : Bd item) : BrkOk wd (lbrk wd items k item proof) := by
  unfold lbrk
  split
  · rename_i z
    obtain ⟨z1, z2, z3, z4⟩ := listed_facts z
    rw [Int.toNat_natCast, Int.toNat_natCast] at z2 z4
    have hx : items[k]? = some (items.getD k 0) := by rw [List.getD_eq_getElem?_getD, List.getElem?_eq_getElem hk]; rfl
    obtain ⟨e1, e2⟩ := way_root (wd := wd) items.length items k _ (Nat.le_refl _) hx
    have hW : ∀ y ∈ stepsN items.length k, y.1 ≤ 1000 := fun y hy => Nat.le_trans (stepsN_le items.length _ _ (Nat.le_refl _) y hy) (by omega)
    exact brk_of (tell_chn (e2.trans z4.symm)) (tell_ok h4 h hW (way_itm h4 h) (hi _ (mem_getD hk 0)) e1) (tell_ok h4 h hW (all_itm h z3) ⟨z1, hit⟩ z2.symm)
  · exact .inl rfl
def sp_list_break (K : PySem.W.Frag) : Sp := spG K (fun x : Int × List Int × Nat × Int × List Int => [Hs K x.1, lI x.2.1, .int (x.2.2.1 : Int), .int x.2.2.2.1, lI x.2.2.2.2]) (fun x => 4 ≤ x.1 ∧ x.1 ≤ 128 ∧ x.2.1.length ≤ 33 ∧ x.2.2.1 < x.2.1.length ∧ (∀ y ∈ x.2.1, Itm y) ∧ Bd x.2.2.2.1 ∧ x.2.2.2.2.length ≤ 999) fun x => lbrk x.1 x.2.1 x.2.2.1 x.2.2.2.1 x.2.2.2.2
theorem ok_list_break (T : Txt K mg) : FnOk P w K mg base CX0 (81) (He.fAd K ("list_break", none)) T.fd_list_break ["hasher", "items", "k", "item", "proof"] (sp_list_break K) := by
  refine T.list_break.F.ok sc_list_break (fun vs H Q E h => len_g h fun _ => rfl) (fun cdv A outer s H vs Q E hr h => ⟨_, PSs.nox (pss_cons (ps_set (i := 5) sc_list_break.nd rfl (Or.inl rfl) (pe_callB (kq_len (K := K)) (by rfl) T.z_len (by decide +kernel) (pa_cons (pv 1) pa_nil)))
  (pss_cons (ps_if (pt_not (pt_val (pe_call (ok_list_check T) (hr.mono (by omega)) (by rfl) T.list_check.g T.list_check.F.kp T.list_check.b .nil pass0 (pa_cons (pv 0) (pa_cons (pe_call (ok_list_root T) (hr.mono (by omega)) (by rfl) T.list_root.g T.list_root.F.kp T.list_root.b .nil pass0 (pa_cons (pv 0) (pa_cons (pv 1) pa_nil))) (pa_cons (pv 5) (pa_cons (pv 2) (pa_cons (pv 3) (pa_cons (pv 4) pa_nil))))))))) (pss_one (ps_ret pe_non)) pss_nil)
  (pss_cons (ps_set (i := 6) sc_list_break.nd rfl (Or.inl rfl) (pe_call (ok_item_way T) (hr.mono (by omega)) (by rfl) T.item_way.g T.item_way.F.kp T.item_way.b .nil pass0 (pa_cons (pv 5) (pa_cons (pv 2) (pa_cons (pe_callB (kq_len (K := K)) (by rfl) T.z_len (by decide +kernel) (pa_cons (pv 4) pa_nil)) pa_nil)))))
  (pss_cons (ps_set (i := 7) sc_list_break.nd rfl (Or.inl rfl) (pe_call (ok_item_inputs T) (hr.mono (by omega)) (by rfl) T.item_inputs.g T.item_inputs.F.kp T.item_inputs.b .nil pass0 (pa_cons (pv 0) (pa_cons (pv 6) (pa_cons (pe_ix (kx_list (K := K)) (pv 1) (pv 2) (fun _ _ => rfl)) (pa_cons (pe_call (ok_list_proof T) (hr.mono (by omega)) (by rfl) T.list_proof.g T.list_proof.F.kp T.list_proof.b .nil pass0 (pa_cons (pv 0) (pa_cons (pv 1) (pa_cons (pv 2) pa_nil)))) pa_nil))))))
  (pss_one (ps_ret (pe_call (ok_first_collision T) (hr.mono (by omega)) (by rfl) T.first_collision.g T.first_collision.F.kp T.first_collision.b .nil pass0 (pa_cons (pv 7) (pa_cons (pe_call (ok_item_inputs T) (hr.mono (by omega)) (by rfl) T.item_inputs.g T.item_inputs.F.kp T.item_inputs.b .nil pass0 (pa_cons (pv 0) (pa_cons (pv 6) (pa_cons (pv 3) (pa_cons (pv 4) pa_nil))))) pa_nil))))))))), fn_g h fun x p => ?_⟩)
  change DS K _ (Wp.E.d _ :: (Wp.E.d _ :: (Wp.E.d _ :: (Wp.E.d _ :: (Wp.E.d _ :: (Wp.E.any :: (Wp.E.any :: (Wp.E.any :: [])))))))) _ _ _ _
  obtain ⟨wd, items, k, item, P'⟩ := x
  obtain ⟨w4, w128, hl, hk, hi, hit, hP⟩ := p
  dsimp only at w4 w128 hl hk hi hit hP ⊢
  unfold lbrk
  have hx : items[k]? = some (items.getD k 0) := by rw [List.getD_eq_getElem?_getD, List.getElem?_eq_getElem hk]; rfl
  have hxi := hi _ (mem_getD hk 0)
  obtain ⟨e1, e2⟩ := way_root (wd := wd) items.length items k _ (Nat.le_refl _) hx
  have hW1 := stepsN_le items.length items.length k (Nat.le_refl _)
  have hW2 := stepsN_len items.length items.length k (Nat.le_refl _)
  walk_at "d"
  refine dc_g (wd, items) rfl ⟨w4, w128, by show items.length < 34; omega, by show items.length ≤ 100; omega, hi⟩ ?_
  walk_at "D"
  refine dc_g (wd, rootN wd items, (items.length : Int), (k : Int), item, false, P') rfl ⟨w4, w128, by show (items.length : Int) ≤ 999; omega, hP, hit⟩ ?_
  walk_at "D"
  cases hc : listedN wd (rootN wd items) (items.length : Int) (k : Int) item P'
  · walk_at "d"
    rfl
  obtain ⟨z1, z2, z3, z4⟩ := listed_facts hc
  rw [Int.toNat_natCast, Int.toNat_natCast] at z2 z4
  walk_at "d"
  refine dc_g (items.length, k, P'.length) rfl ⟨by show items.length ≤ 1000; omega, by show P'.length ≤ 1000; omega⟩ ?_
  rw [show (stepsN (items.length, k, P'.length).1 (items.length, k, P'.length).2.1).take ((items.length, k, P'.length).2.2 + 1) = stepsN items.length k from List.take_of_length_le (by show (stepsN items.length k).length ≤ P'.length + 1; omega)]
  walk_at "D"
  refine ⟨_, atI_map hx, ?_⟩
  walk_at "d"
  refine dc_g (wd, items, k) rfl ⟨w4, w128, by show items.length < 34; omega, hl, hi⟩ ?_
  walk_at "D"
  refine dc_g (wd, stepsN items.length k, items.getD k 0, true, wayN wd items k) rfl ⟨w4, w128, by show (stepsN items.length k).length ≤ 1000; omega, e1, fun y hy => by have := hW1 y hy; omega, fun y hy => (way_itm w4 w128 y hy).2, hxi.2⟩ ?_
  walk_at "D"
  refine dc_g (wd, stepsN items.length k, item, false, P') rfl ⟨w4, w128, by show (stepsN items.length k).length ≤ 1000; omega, z2.symm, fun y hy => by have := hW1 y hy; omega, fun y hy => (all_itm w128 z3 y hy).2, hit⟩ ?_
  walk_at "D"
  refine dc_g ((tellN wd (stepsN items.length k) (items.getD k 0) (wayN wd items k)).reverse, (tellN wd (stepsN items.length k) item P').reverse) rfl (by show List.length _ = List.length _; rw [List.length_reverse, List.length_reverse, tellN_len, tellN_len]) ?_
  walk_at "D"
  rfl
def sp__law_right (K : PySem.W.Frag) : Sp := spG K (fun x : Int × D => [Hs K x.1, .int x.1, x.2, x.2]) (fun x => 4 ≤ x.1 ∧ x.1 ≤ 128 ∧ BrkOk x.1 x.2) fun x => .bl true
theorem ok__law_right (T : Txt K mg) : FnOk P w K mg base CX0 (4) (He.fAd K ("_law_right", none)) T.fd__law_right ["hasher", "width", "found", "due"] (sp__law_right K) := by
  refine T._law_right.F.ok sc__law_right (fun vs H Q E h => len_g h fun _ => rfl) (fun cdv A outer s H vs Q E hr h => ⟨_, PSs.nox (pss_cons (ps_if (PW.pt (pw_or (pt_cmpR (op_isN1) (pv 3) pe_non (nomark _)) (pw_or1 (pt_cmpR (kp_neD (K := K) hr.units) (pv 2) (pv 3) (nomark _))))) (pss_one (ps_ret (pe_and (pe_cmpR (op_isN1) (pv 2) pe_non (nomark _)) (pe_one (pe_cmpR (op_isN1) (pv 3) pe_non (nomark _)))))) pss_nil)
  (pss_cons (ps_asg (pe_slice (kl_tupA (K := K)) (pv 3) (po_some pe_int) po_none) (kg_tup (K := K) (n := 2) rfl (pgs_cons (pg_name (i := 4) sc__law_right.nd rfl (Or.inl rfl)) (pgs_cons (pg_name (i := 5) sc__law_right.nd rfl (Or.inl rfl)) pgs_nil))))
  (pss_one (ps_ret (pe_and (pe_cmpR (op_eq) (pe_call (ok__law_digest T) (hr.mono (by omega)) (by rfl) T._law_digest.g T._law_digest.F.kp T._law_digest.b .nil pass0 (pa_cons (pv 1) (pa_cons (pe_ix (kx_tup (K := K)) (pv 4) pe_int (fun _ _ => rfl)) (pa_cons (pe_ix (kx_tup (K := K)) (pv 4) pe_int (fun _ _ => rfl)) pa_nil)))) (pe_call (ok__law_digest T) (hr.mono (by omega)) (by rfl) T._law_digest.g T._law_digest.F.kp T._law_digest.b .nil pass0 (pa_cons (pv 1) (pa_cons (pe_ix (kx_tup (K := K)) (pv 5) pe_int (fun _ _ => rfl)) (pa_cons (pe_ix (kx_tup (K := K)) (pv 5) pe_int (fun _ _ => rfl)) pa_nil)))) (nomark _)) (pe_one (pe_call (ok_is_collision T) (hr.mono (by omega)) (by rfl) T.is_collision.g T.is_collision.F.kp T.is_collision.b .nil pass0 (pa_cons (pv 0) (pa_cons (pv 2) pa_nil))))))))), fn_g h fun x p => ?_⟩)
  change DS K _ (Wp.E.d _ :: (Wp.E.d _ :: (Wp.E.d _ :: (Wp.E.d _ :: (Wp.E.any :: (Wp.E.any :: [])))))) _ _ _ _
  obtain ⟨wd, d⟩ := x
  obtain ⟨w4, w128, hd⟩ := p
  dsimp only at w4 w128 hd ⊢
  rcases hd with rfl | ⟨a, b, rfl, hne, ha, hb, he⟩
  · walk_at "d"
    rw [show D.isN .non = true from rfl]
    walk_at "d"
    rw [show D.isN .non = true from rfl]
    walk_at "d"
    rfl
  · walk_at "d"
    rw [show (collD a b).isN = false from rfl]
    walk_at "d"
    refine dr_neD true ⟨fun _ => rfl, fun _ => rfl⟩ (collD_plain a b) (collD_plain a b) (collD_dep a b) (collD_dep a b) ?_
    walk_at "d"
    rw [show cutO [D.str "collision", inD a, inD b] (some 1) none = [inD a, inD b] from rfl]
    walk_at "d"
    refine ⟨_, rfl, ?_⟩
    walk_at "d"
    refine ⟨_, rfl, ?_⟩
    walk_at "d"
    refine dc_lawdig a.2 (.inr rfl) w4 w128 (fun n hn => (ha.2.2.2 n hn).1) (itms_bd ha.1 ha.2.2.2) ?_
    walk_at "d"
    refine ⟨_, rfl, ?_⟩
    walk_at "d"
    refine ⟨_, rfl, ?_⟩
    walk_at "d"
    refine dc_lawdig b.2 (.inr rfl) w4 w128 (fun n hn => (hb.2.2.2 n hn).1) (itms_bd hb.1 hb.2.2.2) ?_
    walk_at "d"
    refine ifdT he ?_
    walk_at "d"
    refine dc_g (wd, a, b) rfl ⟨w4, w128, hne, ha, hb⟩ ?_
    walk_at "D"
    rw [decide_eq_true he]

/-! ### breaks of growths -/
theorem upN_pre {wd e : Int} {V V2 : List (Nat × Bool)} {P P2 : List Int} {n : Nat} (h1 : n ≤ V.length) (h2 : n ≤ P.length) : upN wd (V ++ V2) (P ++ P2) e n = upN wd V P e n := by
  unfold upN
  apply List.map_congr_left
  intro i hi
  have hi' := List.mem_range.mp hi
  rw [bot_pre i (by omega) (by omega), getD_app (by omega), getD_app (by omega)]
theorem upN_snoc {wd e : Int} {V : List (Nat × Bool)} {P : List Int} {st : Nat × Bool} {r : Int} (h : P.length = V.length) : (upN wd (V.reverse ++ [st]) (P ++ [r]) e (V.length + 1)).reverse = (1, numsN (botN wd V.reverse P e V.length) r st) :: (upN wd V.reverse P e V.length).reverse := by
  have hl : V.reverse.length = V.length := List.length_reverse
  rw [upN_succ, List.reverse_append, upN_pre (by omega) (by omega), bot_pre V.length (by omega) (by omega)]
  have g1 : (V.reverse ++ [st]).getD V.length (0, true) = st := by rw [← hl]; exact getD_last
  have g2 : (P ++ [r]).getD V.length 0 = r := by rw [← h]; exact getD_last
  rw [g1, g2]
  rfl
def tellsT (wd : Int) : List (Nat × Bool) → List Int → List (Int × List Int)
  | [], _ => []
  | (s, true) :: W, P => (1, [(s : Int), treeR wd W P.dropLast, P.getLastD 0]) :: tellsT wd W P.dropLast
  | (s, false) :: W, P => (1, [(s : Int), P.headD 0, treeR wd W P.tail]) :: tellsT wd W P.tail
theorem up_tells {wd : Int} : ∀ (W : List (Nat × Bool)) (P : List Int), (upN wd W.reverse (besN W P).reverse (endN W P) W.length).reverse = tellsT wd W P
  | [], P => rfl
  | (s, true) :: W, P => by
    rw [besN, endN, List.reverse_cons, List.reverse_cons, List.length_cons, upN_snoc (by rw [List.length_reverse, besN_len]), up_tells W, bot_tree W, tellsT]
    rfl
  | (s, false) :: W, P => by
    rw [besN, endN, List.reverse_cons, List.reverse_cons, List.length_cons, upN_snoc (by rw [List.length_reverse, besN_len]), up_tells W, bot_tree W, tellsT]
    rfl
theorem whl_tells {wd : Int} : ∀ (n c o : Nat) (P : List Int), c ≤ n → 1 ≤ c → (stepsG c o).length + 1 ≤ P.length → (whlN wd c o P).2.2 = tellsT wd (stepsG c o) (P.take ((stepsG c o).length + 1))
  | 0, c, o, P, h, h1, hP => by omega
  | n + 1, c, o, P, h, h1, hP => by
    by_cases q : 0 < o ∧ o < c
    · have hlt := lft_lt (n := c) (by omega)
      have hlp := lft_pos c
      rw [whl_in (by omega)]
      rw [stepsG_in q] at hP ⊢
      by_cases z : o < lft c
      · rw [if_pos z, List.length_cons] at hP
        rw [if_pos z, List.length_cons]
        obtain ⟨i1, i2⟩ := whl_tree (wd := wd) n (lft c) o P (by omega) (by omega) (by omega)
        have i3 := whl_tells (wd := wd) n (lft c) o P (by omega) (by omega) (by omega)
        generalize stepsG (lft c) o = W at *
        have w1 := win_init (P := P) (lo := 0) (n := W.length + 1) (by omega)
        have w2 := win_last (P := P) (lo := 0) (n := W.length + 1) (by omega)
        rw [List.drop_zero] at w1 w2
        rw [tellsT, w1, w2, Nat.zero_add]
        dsimp only
        rw [i1, i2, i3, whl_1 (.inl (by omega)), headD_drop (by omega)]
        simp
      · rw [if_neg z, List.length_cons] at hP
        rw [if_neg z, List.length_cons]
        rw [whl_1 (c := lft c) (.inr (by omega)), show (o : Int) - (lft c : Int) = ((o - lft c : Nat) : Int) by omega]
        obtain ⟨i1, i2⟩ := whl_tree (wd := wd) n (c - lft c) (o - lft c) P.tail (by omega) (by omega) (by rw [List.length_tail]; omega)
        have i3 := whl_tells (wd := wd) n (c - lft c) (o - lft c) P.tail (by omega) (by omega) (by rw [List.length_tail]; omega)
        generalize stepsG (c - lft c) (o - lft c) = W at *
        dsimp only
        rw [i1, i3, tellsT]
        cases P with
        | nil => simp at hP
        | cons a P => rfl
    · rw [whl_1 (by omega), stepsG_no q, tellsT]
def growIn (wd : Int) (W : List (Nat × Bool)) (P : List Int) : List (Int × List Int) := (upN wd W.reverse (besN W P).reverse (endN W P) W.length).reverse
theorem whl_growIn {wd : Int} {c o : Nat} {P : List Int} (h1 : 1 ≤ c) (hP : P.length = (stepsG c o).length + 1) : (whlN wd c o P).2.2 = growIn wd (stepsG c o) P := by
  rw [whl_tells c c o P (Nat.le_refl _) h1 (by omega), List.take_of_length_le (by omega)]
  exact (up_tells _ _).symm
def gbrk (wd : Int) (items : List Int) (olr : Int) (o : Nat) (proof : List Int) : D :=
  if grownN wd olr (o : Int) (rootN wd items) (items.length : Int) proof = true then firstC (growIn wd (stepsG items.length o) (growN wd items o)) (growIn wd (stepsG items.length o) proof) else .non
theorem grown_facts {wd olr root : Int} {o c : Nat} {P : List Int} (hc : 1 ≤ c) (h : grownN wd olr (o : Int) root (c : Int) P = true) : (stepsG c o).length + 1 = P.length ∧ P.all (isD wd) = true ∧ root = treeR wd (stepsG c o) P := by
  unfold grownN at h
  split at h
  · rw [if_neg (by omega), Int.toNat_natCast, Int.toNat_natCast] at h
    split at h
    · rename_i z
      have := of_decide_eq_true h
      rw [treeP_eq] at this
      exact ⟨z.1, z.2, this.2⟩
    · cases h
  · cases h
theorem grow_itm2 {wd : Int} (h4 : 4 ≤ wd) (h : wd ≤ 128) {xs : List Int} {o : Int} : ∀ y ∈ growN wd xs o, Itm y := fun y hy => by
  have := growN_itm h4 h xs.length xs o (Nat.le_refl _) y hy
  exact itm_pow this.1 this.2 (by omega)
theorem growIn_ok {wd : Int} (h4 : 4 ≤ wd) (h : wd ≤ 128) {W : List (Nat × Bool)} {P : List Int} (hs : ∀ y ∈ W, y.1 ≤ 1000) (hp : ∀ y ∈ P, Itm y) (hl : P.length = W.length + 1) : ∀ a ∈ growIn wd W P, InOk a := by
  obtain ⟨m1, m2⟩ := bes_mem W P hl
  intro a ha
  exact up_ok h4 h (fun y hy => hs y (List.mem_reverse.mp hy)) (fun y hy => hp y (m1 y (List.mem_reverse.mp hy))) (hp _ m2) (by rw [List.length_reverse]; exact Nat.le_refl _) (by rw [List.length_reverse, besN_len]; exact Nat.le_refl _) a (List.mem_reverse.mp ha)
theorem gbrk_ok {wd : Int} (h4 : 4 ≤ wd) (h : wd ≤ 128) {items : List Int} {olr : Int} {o : Nat} {proof : List Int} (h1 : 1 ≤ items.length) (hl : items.length ≤ 33) : BrkOk wd (gbrk wd items olr o proof) := by
  unfold gbrk
  split
  · rename_i z
    obtain ⟨z1, z2, z3⟩ := grown_facts h1 z
    obtain ⟨g1, g2⟩ := grow_tree (wd := wd) items.length items o (Nat.le_refl _) h1
    have hW : ∀ y ∈ stepsG items.length o, y.1 ≤ 1000 := fun y hy => by have := stepsG_le items.length items.length o (Nat.le_refl _) y hy; omega
    refine brk_of ?_ (growIn_ok h4 h hW (grow_itm2 h4 h) g1) (growIn_ok h4 h hW (all_itm h z2) z1.symm)
    have hbt : botN wd (stepsG items.length o).reverse (besN (stepsG items.length o) (growN wd items o)).reverse (endN (stepsG items.length o) (growN wd items o)) (stepsG items.length o).length = botN wd (stepsG items.length o).reverse (besN (stepsG items.length o) proof).reverse (endN (stepsG items.length o) proof) (stepsG items.length o).length := by
      rw [bot_tree, bot_tree, g2, z3]
    exact up_chn hbt
  · exact .inl rfl
def sp_growth_break (K : PySem.W.Frag) : Sp := spG K (fun x : Int × List Int × Int × Nat × List Int => [Hs K x.1, lI x.2.1, .int x.2.2.1, .int (x.2.2.2.1 : Int), lI x.2.2.2.2]) (fun x => 4 ≤ x.1 ∧ x.1 ≤ 128 ∧ 1 ≤ x.2.1.length ∧ x.2.1.length ≤ 33 ∧ (∀ y ∈ x.2.1, Itm y) ∧ x.2.2.2.2.length ≤ 999) fun x => gbrk x.1 x.2.1 x.2.2.1 x.2.2.2.1 x.2.2.2.2
theorem ok_growth_break (T : Txt K mg) : FnOk P w K mg base CX0 (81) (He.fAd K ("growth_break", none)) T.fd_growth_break ["hasher", "items", "old_root", "old", "proof"] (sp_growth_break K) := by
  refine T.growth_break.F.ok sc_growth_break (fun vs H Q E h => len_g h fun _ => rfl) (fun cdv A outer s H vs Q E hr h => ⟨_, PSs.nox (pss_cons (ps_set (i := 5) sc_growth_break.nd rfl (Or.inl rfl) (pe_callB (kq_len (K := K)) (by rfl) T.z_len (by decide +kernel) (pa_cons (pv 1) pa_nil)))
  (pss_cons (ps_if (pt_not (pt_val (pe_call (ok_growth_check T) (hr.mono (by omega)) (by rfl) T.growth_check.g T.growth_check.F.kp T.growth_check.b .nil pass0 (pa_cons (pv 0) (pa_cons (pv 2) (pa_cons (pv 3) (pa_cons (pe_call (ok_list_root T) (hr.mono (by omega)) (by rfl) T.list_root.g T.list_root.F.kp T.list_root.b .nil pass0 (pa_cons (pv 0) (pa_cons (pv 1) pa_nil))) (pa_cons (pv 5) (pa_cons (pv 4) pa_nil))))))))) (pss_one (ps_ret pe_non)) pss_nil)
  (pss_cons (ps_set (i := 6) sc_growth_break.nd rfl (Or.inl rfl) (pe_call (ok_growth_way T) (hr.mono (by omega)) (by rfl) T.growth_way.g T.growth_way.F.kp T.growth_way.b .nil pass0 (pa_cons (pv 5) (pa_cons (pv 3) (pa_cons (pe_callB (kq_len (K := K)) (by rfl) T.z_len (by decide +kernel) (pa_cons (pv 4) pa_nil)) pa_nil)))))
  (pss_cons (ps_set (i := 7) sc_growth_break.nd rfl (Or.inl rfl) (pe_call (ok_growth_inputs T) (hr.mono (by omega)) (by rfl) T.growth_inputs.g T.growth_inputs.F.kp T.growth_inputs.b .nil pass0 (pa_cons (pv 0) (pa_cons (pv 6) (pa_cons (pe_call (ok_growth_proof T) (hr.mono (by omega)) (by rfl) T.growth_proof.g T.growth_proof.F.kp T.growth_proof.b .nil pass0 (pa_cons (pv 0) (pa_cons (pv 1) (pa_cons (pv 3) pa_nil)))) pa_nil)))))
  (pss_one (ps_ret (pe_call (ok_first_collision T) (hr.mono (by omega)) (by rfl) T.first_collision.g T.first_collision.F.kp T.first_collision.b .nil pass0 (pa_cons (pv 7) (pa_cons (pe_call (ok_growth_inputs T) (hr.mono (by omega)) (by rfl) T.growth_inputs.g T.growth_inputs.F.kp T.growth_inputs.b .nil pass0 (pa_cons (pv 0) (pa_cons (pv 6) (pa_cons (pv 4) pa_nil)))) pa_nil))))))))), fn_g h fun x p => ?_⟩)
  change DS K _ (Wp.E.d _ :: (Wp.E.d _ :: (Wp.E.d _ :: (Wp.E.d _ :: (Wp.E.d _ :: (Wp.E.any :: (Wp.E.any :: (Wp.E.any :: [])))))))) _ _ _ _
  obtain ⟨wd, items, olr, o, P'⟩ := x
  obtain ⟨w4, w128, h1, hl, hi, hP⟩ := p
  dsimp only at w4 w128 h1 hl hi hP ⊢
  unfold gbrk
  have hW1 := stepsG_le items.length items.length o (Nat.le_refl _)
  have hW2 := stepsG_len items.length items.length o (Nat.le_refl _)
  obtain ⟨g1, g2⟩ := grow_tree (wd := wd) items.length items o (Nat.le_refl _) h1
  walk_at "d"
  refine dc_g (wd, items) rfl ⟨w4, w128, by show items.length < 34; omega, by show items.length ≤ 100; omega, hi⟩ ?_
  walk_at "D"
  refine dc_g (wd, olr, (o : Int), rootN wd items, (items.length : Int), false, P') rfl ⟨w4, w128, by show (items.length : Int) ≤ 999; omega, hP⟩ ?_
  walk_at "D"
  cases hc : grownN wd olr (o : Int) (rootN wd items) (items.length : Int) P'
  · walk_at "d"
    rfl
  obtain ⟨z1, z2, z3⟩ := grown_facts h1 hc
  walk_at "d"
  refine dc_g (items.length, o, P'.length) rfl ⟨by show items.length ≤ 1000; omega, by show P'.length ≤ 1000; omega⟩ ?_
  rw [show (stepsG (items.length, o, P'.length).1 (items.length, o, P'.length).2.1).take (items.length, o, P'.length).2.2 = stepsG items.length o from List.take_of_length_le (by show (stepsG items.length o).length ≤ P'.length; omega)]
  walk_at "D"
  refine dc_g (wd, items, (o : Int)) rfl ⟨w4, w128, by show items.length < 34; omega, hl, hi⟩ ?_
  walk_at "D"
  refine dc_g (wd, stepsG items.length o, true, growN wd items (o : Int)) rfl ⟨w4, w128, by show (stepsG items.length o).length ≤ 1000; omega, g1, fun y hy => by have := hW1 y hy; omega, fun y hy => (grow_itm2 w4 w128 y hy).2⟩ ?_
  walk_at "D"
  refine dc_g (wd, stepsG items.length o, false, P') rfl ⟨w4, w128, by show (stepsG items.length o).length ≤ 1000; omega, z1.symm, fun y hy => by have := hW1 y hy; omega, fun y hy => (all_itm w128 z2 y hy).2⟩ ?_
  walk_at "D"
  refine dc_g (growIn wd (stepsG items.length o) (growN wd items o), growIn wd (stepsG items.length o) P') rfl (by show List.length _ = List.length _; unfold growIn; rw [List.length_reverse, List.length_reverse, upN_len, upN_len]) ?_
  walk_at "D"
  rfl

def sp__law_item (K : PySem.W.Frag) : Sp := spS' K (fun x : Int × List Int => [Hs K x.1, lI x.2]) (fun x => 4 ≤ x.1 ∧ x.1 ≤ 128 ∧ 1 ≤ x.2.length ∧ x.2.length ≤ 33 ∧ ∀ y ∈ x.2, Itm y) fun x d => d = .bl true
theorem ok__law_item (T : Txt K mg) : FnOk P w K mg base CX0 (82) (He.fAd K ("_law_item", none)) T.fd__law_item ["state", "script", "hasher", "items"] (sp__law_item K) := by
  refine T._law_item.F.ok sc__law_item (fun vs H Q E h => len_s h fun _ => rfl) (fun cdv A outer s H vs Q E hr h => ⟨_, PSs.nox (pss_cons (ps_set (i := 4) sc__law_item.nd rfl (Or.inl rfl) (ke_fld (K := K) (pv 2)))
  (pss_cons (ps_set (i := 5) sc__law_item.nd rfl (Or.inl rfl) (pe_call (ok__law_root T) (hr.mono (by omega)) (by rfl) T._law_root.g T._law_root.F.kp T._law_root.b .nil pass0 (pa_cons (pv 4) (pa_cons (pv 3) pa_nil))))
  (pss_cons (ps_set (i := 6) sc__law_item.nd rfl (Or.inl rfl) (pe_call (ok__law_draw T) (hr.mono (by omega)) (by rfl) T._law_draw.g T._law_draw.F.kp T._law_draw.b .nil pass0 (pa_cons (pv 0) (pa_cons (pv 1) (pa_cons (pe_callB (kq_len (K := K)) (by rfl) T.z_len (by decide +kernel) (pa_cons (pv 3) pa_nil)) pa_nil)))))
  (pss_cons (ps_set (i := 7) sc__law_item.nd rfl (Or.inl rfl) (pe_call (ok__law_way T) (hr.mono (by omega)) (by rfl) T._law_way.g T._law_way.F.kp T._law_way.b .nil pass0 (pa_cons (pv 4) (pa_cons (pv 3) (pa_cons (pv 6) pa_nil)))))
  (pss_cons (ps_set (i := 8) sc__law_item.nd rfl (Or.inl rfl) (pe_callTy (kq_list (K := K)) (by rfl) T.z_list (by decide +kernel) (pa_cons (pv 7) pa_nil)))
  (pss_cons (ps_set (i := 9) sc__law_item.nd rfl (Or.inl rfl) (pe_ix (kx_list (K := K)) (pe_lst (pa_cons (pe_ix (kx_list (K := K)) (pv 3) (pv 6) (fun _ _ => rfl)) (pa_cons (pe_call (ok__law_draw T) (hr.mono (by omega)) (by rfl) T._law_draw.g T._law_draw.F.kp T._law_draw.b .nil pass0 (pa_cons (pv 0) (pa_cons (pv 1) (pa_cons pe_int pa_nil)))) pa_nil))) (pe_call (ok__law_draw T) (hr.mono (by omega)) (by rfl) T._law_draw.g T._law_draw.F.kp T._law_draw.b .nil pass0 (pa_cons (pv 0) (pa_cons (pv 1) (pa_cons pe_int pa_nil)))) (fun _ _ => rfl)))
  (pss_cons (ps_cut (ps_if (PW.pt (pw_and (pt_cmpR (op_gt) (pe_callB (kq_len (K := K)) (by rfl) T.z_len (by decide +kernel) (pa_cons (pv 8) pa_nil)) pe_int (nomark _)) (pw_and1 (pt_cmpR (op_eq) (pe_call (ok__law_draw T) (hr.mono (by omega)) (by rfl) T._law_draw.g T._law_draw.F.kp T._law_draw.b .nil pass0 (pa_cons (pv 0) (pa_cons (pv 1) (pa_cons pe_int pa_nil)))) pe_int (nomark _))))) (pss_one (ps_asg (pe_call (ok__law_draw T) (hr.mono (by omega)) (by rfl) T._law_draw.g T._law_draw.F.kp T._law_draw.b .nil pass0 (pa_cons (pv 0) (pa_cons (pv 1) (pa_cons (pe_op op_shl pe_int (pv 4)) pa_nil)))) (pg_sub (pv 8) (pe_call (ok__law_draw T) (hr.mono (by omega)) (by rfl) T._law_draw.g T._law_draw.F.kp T._law_draw.b .nil pass0 (pa_cons (pv 0) (pa_cons (pv 1) (pa_cons (pe_callB (kq_len (K := K)) (by rfl) T.z_len (by decide +kernel) (pa_cons (pv 8) pa_nil)) pa_nil)))) set_list))) pss_nil))
  (pss_cons (ps_set (i := 10) sc__law_item.nd rfl (Or.inl rfl) (pe_call (ok__law_listed T) (hr.mono (by omega)) (by rfl) T._law_listed.g T._law_listed.F.kp T._law_listed.b .nil pass0 (pa_cons (pv 4) (pa_cons (pv 5) (pa_cons (pe_callB (kq_len (K := K)) (by rfl) T.z_len (by decide +kernel) (pa_cons (pv 3) pa_nil)) (pa_cons (pv 6) (pa_cons (pv 9) (pa_cons (pv 8) pa_nil))))))))
  (pss_cons (ps_if (pt_cmpR (op_ne) (pe_call (ok_list_check T) (hr.mono (by omega)) (by rfl) T.list_check.g T.list_check.F.kp T.list_check.b .nil pass0 (pa_cons (pv 2) (pa_cons (pv 5) (pa_cons (pe_callB (kq_len (K := K)) (by rfl) T.z_len (by decide +kernel) (pa_cons (pv 3) pa_nil)) (pa_cons (pv 6) (pa_cons (pv 9) (pa_cons (pv 8) pa_nil))))))) (pv 10) (nomark _)) (pss_one (ps_ret pe_bl)) pss_nil)
  (pss_cons (ps_set (i := 11) sc__law_item.nd rfl (Or.inl rfl) pe_non)
  (pss_cons (ps_cut (ps_if (pt_val (pv 10)) (pss_cons (ps_set (i := 12) sc__law_item.nd rfl (Or.inl rfl) (pe_revS (K := K) (pe_call (ok__law_inputs T) (hr.mono (by omega)) (by rfl) T._law_inputs.g T._law_inputs.F.kp T._law_inputs.b .nil pass0 (pa_cons (pv 4) (pa_cons (pe_callB (kq_len (K := K)) (by rfl) T.z_len (by decide +kernel) (pa_cons (pv 3) pa_nil)) (pa_cons (pv 6) (pa_cons (pv 9) (pa_cons (pv 8) pa_nil))))))))
  (pss_one (ps_set (i := 11) sc__law_item.nd rfl (Or.inl rfl) (pe_call (ok__law_first T) (hr.mono (by omega)) (by rfl) T._law_first.g T._law_first.F.kp T._law_first.b .nil pass0 (pa_cons (pe_revS (K := K) (pe_call (ok__law_inputs T) (hr.mono (by omega)) (by rfl) T._law_inputs.g T._law_inputs.F.kp T._law_inputs.b .nil pass0 (pa_cons (pv 4) (pa_cons (pe_callB (kq_len (K := K)) (by rfl) T.z_len (by decide +kernel) (pa_cons (pv 3) pa_nil)) (pa_cons (pv 6) (pa_cons (pe_ix (kx_list (K := K)) (pv 3) (pv 6) (fun _ _ => rfl)) (pa_cons (pv 7) pa_nil))))))) (pa_cons (pv 12) pa_nil)))))) pss_nil))
  (pss_one (ps_ret (pe_call (ok__law_right T) (hr.mono (by omega)) (by rfl) T._law_right.g T._law_right.F.kp T._law_right.b .nil pass0 (pa_cons (pv 2) (pa_cons (pv 4) (pa_cons (pe_call (ok_list_break T) (hr.mono (by omega)) (by rfl) T.list_break.g T.list_break.F.kp T.list_break.b .nil pass0 (pa_cons (pv 2) (pa_cons (pv 3) (pa_cons (pv 6) (pa_cons (pv 9) (pa_cons (pv 8) pa_nil)))))) (pa_cons (pv 11) pa_nil)))))))))))))))))), fn_s h fun x p => ?_⟩)
  change DS K _ (Wp.E.st :: (Wp.E.sc :: (Wp.E.d _ :: (Wp.E.d _ :: (Wp.E.any :: (Wp.E.any :: (Wp.E.any :: (Wp.E.any :: (Wp.E.any :: (Wp.E.any :: (Wp.E.any :: (Wp.E.any :: (Wp.E.any :: []))))))))))))) _ _ _ _
  obtain ⟨wd, items⟩ := x
  obtain ⟨w4, w128, h1, hl, hi⟩ := p
  dsimp only at w4 w128 h1 hl hi ⊢
  have t1 := T.cl_Hasher
  have t2 := T.n_Hasher_width
  walk_at "d"
  refine dc_g (wd, items) rfl ⟨w4, w128, by show items.length < 34; omega, by show items.length ≤ 100; omega, hi⟩ ?_
  walk_at "D"
  refine dcs_draw (by omega) (log_small (by omega) (by omega)) fun k k0 k1 => ?_
  obtain ⟨k, rfl⟩ := Int.eq_ofNat_of_zero_le k0
  have hk : k < items.length := by omega
  walk_at "d"
  refine dc_g (wd, items, k) rfl ⟨w4, w128, by show items.length < 34; omega, by show items.length ≤ 33; omega, hi⟩ ?_
  dsimp only
  refine dg_name rfl rfl ?_
  dsimp only [List.set]
  refine ds_seq (ds_own (dn_listSq ?_))
  have hwl := wayN_len (wd := wd) 33 items k (by omega)
  have hx : items[k]? = some (items.getD k 0) := by rw [List.getD_eq_getElem?_getD, List.getElem?_eq_getElem hk]; rfl
  have hxi := hi _ (mem_getD hk 0)
  obtain ⟨e1, e2⟩ := way_root (wd := wd) items.length items k _ (Nat.le_refl _) hx
  obtain ⟨pw0, pw1⟩ := sz_pow (w := wd) (by omega) (by omega)
  walk_at "d"
  refine ⟨false, _, rfl, ?_⟩
  walk_at "d"
  refine ⟨_, atI_map hx, ?_⟩
  walk_at "d"
  refine dcs_draw (by decide) (by decide) fun n1 a1 b1 => ?_
  walk_at "d"
  refine dcs_draw (by decide) (by decide) fun n2 a2 b2 => ?_
  walk_at "d"
  refine atI_ints Itm a2 b2 (two_of ⟨_, rfl, hxi⟩ ⟨_, rfl, itm_small a1 (by omega)⟩) fun item hit => ?_
  walk_at "d"
  refine ds_cut (fun ρ => ∃ qs : List Int, qs.length = (wayN wd items k).length ∧ ρ = [.st, .sc, .d (Hs K wd), .d (lI items), .d (.int wd), .d (.int (rootN wd items)), .d (.int (k : Int)), .d (lI (wayN wd items k)), .own (qs.map D.int), .d (.int item), .any, .any, .any]) ?_ ?_
  · walk_at "d"
    rw [List.length_map]
    refine ifd (fun h => ?_) (fun h => ?_)
    · walk_at "d"
      refine dcs_draw (by decide) (by decide) fun n3 a3 b3 => ?_
      walk_at "d"
      refine ifd (fun h' => ?_) (fun h' => ?_)
      · walk_at "d"
        refine dcs_draw pw0 pw1 fun n4 a4 b4 => ?_
        walk_at "d"
        refine ⟨_, rfl, ?_⟩
        walk_at "d"
        rw [List.length_map]
        refine dcs_draw (by omega) (log_small (by omega) (by omega)) fun n5 a5 b5 => ?_
        obtain ⟨n5, rfl⟩ := Int.eq_ofNat_of_zero_le a5
        walk_at "d"
        refine ⟨n5, ixN_nat (by omega), ?_⟩
        walk_at "d"
        rw [show (List.map D.int (wayN wd items k)).set n5 (D.int n4) = ((wayN wd items k).set n5 n4).map D.int by rw [List.map_set]]
        exact ⟨_, by walk_at "le", (wayN wd items k).set n5 n4, by rw [List.length_set], rfl⟩
      · walk_at "d"
        exact ⟨_, by walk_at "le", wayN wd items k, rfl, rfl⟩
    · walk_at "d"
      exact ⟨_, by walk_at "le", wayN wd items k, rfl, rfl⟩
  rintro ρ ⟨qs, hq, rfl⟩
  refine ds_freeze 8 rfl rfl ?_
  dsimp only [List.set]
  walk_at "d"
  refine dc_g (wd, rootN wd items, (items.length : Int), (k : Int), item, qs) rfl ⟨w4, w128, by show (items.length : Int) ≤ 999; omega, by show qs.length ≤ 999; omega, hit.2⟩ ?_
  walk_at "D"
  refine dc_g (wd, rootN wd items, (items.length : Int), (k : Int), item, false, qs) rfl ⟨w4, w128, by show (items.length : Int) ≤ 999; omega, by show qs.length ≤ 999; omega, hit.2⟩ ?_
  walk_at "D"
  refine ifnF rfl ?_
  walk_at "d"
  refine ds_cut (fun ρ => ρ = [.st, .sc, .d (Hs K wd), .d (lI items), .d (.int wd), .d (.int (rootN wd items)), .d (.int (k : Int)), .d (lI (wayN wd items k)), .d (lI qs), .d (.int item), .any, .d (lbrk wd items k item qs), .any]) ?_ ?_
  · cases hc : listedN wd (rootN wd items) (items.length : Int) (k : Int) item qs
    · walk_at "d"
      have : lbrk wd items k item qs = .non := by unfold lbrk; rw [hc]; rfl
      rw [this]
      exact ⟨_, by walk_at "le", rfl⟩
    · obtain ⟨z1, z2, z3, z4⟩ := listed_facts hc
      rw [Int.toNat_natCast, Int.toNat_natCast] at z2 z4
      have eb : lbrk wd items k item qs = firstC (tellN wd (stepsN items.length k) (items.getD k 0) (wayN wd items k)).reverse (tellN wd (stepsN items.length k) item qs).reverse := by unfold lbrk; rw [hc]; rfl
      have hW2 := stepsN_len items.length items.length k (Nat.le_refl _)
      rw [eb]
      walk_at "d"
      refine de_revS ?_
      walk_at "d"
      refine dc_g (wd, items.length, k, item, qs) rfl ⟨w4, w128, by show items.length ≤ 999; omega, z2, all_itm w128 z3, hit⟩ ?_
      refine .inl ⟨_, rfl, ?_⟩
      walk_at "D"
      refine de_revS ?_
      walk_at "d"
      refine ⟨_, atI_map hx, ?_⟩
      walk_at "d"
      refine dc_g (wd, items.length, k, items.getD k 0, wayN wd items k) rfl ⟨w4, w128, by show items.length ≤ 999; omega, e1.symm, way_itm w4 w128, hxi⟩ ?_
      refine .inl ⟨_, rfl, ?_⟩
      walk_at "D"
      refine dc_g ((tellN wd (stepsN items.length k) (items.getD k 0) (wayN wd items k)).reverse, (tellN wd (stepsN items.length k) item qs).reverse) (by simp) ⟨by show List.length _ = List.length _; rw [List.length_reverse, List.length_reverse, tellN_len, tellN_len], by show List.length _ ≤ 10000; rw [List.length_reverse, tellN_len]; omega⟩ ?_
      walk_at "D"
      exact ⟨_, by walk_at "le", rfl⟩
  rintro ρ rfl
  walk_at "d"
  refine dc_g (wd, items, k, item, qs) rfl ⟨w4, w128, hl, hk, hi, hit.2, by show qs.length ≤ 999; omega⟩ ?_
  walk_at "D"
  refine dc_g (wd, lbrk wd items k item qs) rfl ⟨w4, w128, lbrk_ok w4 w128 hk hl hi hit.2⟩ ?_
  walk_at "D"
  rfl

def sp__law_growth (K : PySem.W.Frag) : Sp := spS' K (fun x : Int × List Int => [Hs K x.1, lI x.2]) (fun x => 4 ≤ x.1 ∧ x.1 ≤ 128 ∧ 1 ≤ x.2.length ∧ x.2.length ≤ 33 ∧ ∀ y ∈ x.2, Itm y) fun x d => d = .bl true
theorem ok__law_growth (T : Txt K mg) : FnOk P w K mg base CX0 (82) (He.fAd K ("_law_growth", none)) T.fd__law_growth ["state", "script", "hasher", "items"] (sp__law_growth K) := by
  refine T._law_growth.F.ok sc__law_growth (fun vs H Q E h => len_s h fun _ => rfl) (fun cdv A outer s H vs Q E hr h => ⟨_, PSs.nox (pss_cons (ps_set (i := 4) sc__law_growth.nd rfl (Or.inl rfl) (ke_fld (K := K) (pv 2)))
  (pss_cons (ps_set (i := 5) sc__law_growth.nd rfl (Or.inl rfl) (pe_call (ok__law_root T) (hr.mono (by omega)) (by rfl) T._law_root.g T._law_root.F.kp T._law_root.b .nil pass0 (pa_cons (pv 4) (pa_cons (pv 3) pa_nil))))
  (pss_cons (ps_set (i := 6) sc__law_growth.nd rfl (Or.inl rfl) (pe_call (ok__law_draw T) (hr.mono (by omega)) (by rfl) T._law_draw.g T._law_draw.F.kp T._law_draw.b .nil pass0 (pa_cons (pv 0) (pa_cons (pv 1) (pa_cons (pe_op op_add (pe_callB (kq_len (K := K)) (by rfl) T.z_len (by decide +kernel) (pa_cons (pv 3) pa_nil)) pe_int) pa_nil)))))
  (pss_cons (ps_set (i := 7) sc__law_growth.nd rfl (Or.inl rfl) (pe_call (ok__law_grows T) (hr.mono (by omega)) (by rfl) T._law_grows.g T._law_grows.F.kp T._law_grows.b .nil pass0 (pa_cons (pv 4) (pa_cons (pv 3) (pa_cons (pv 6) pa_nil)))))
  (pss_cons (ps_set (i := 8) sc__law_growth.nd rfl (Or.inr rfl) (pe_callTy (kq_list (K := K)) (by rfl) T.z_list (by decide +kernel) (pa_cons (pv 7) pa_nil)))
  (pss_cons (ps_asg (pe_call (ok__law_draw T) (hr.mono (by omega)) (by rfl) T._law_draw.g T._law_draw.F.kp T._law_draw.b .nil pass0 (pa_cons (pv 0) (pa_cons (pv 1) (pa_cons (pe_op op_shl pe_int (pv 4)) pa_nil)))) (pg_sub (pv 8) (pe_call (ok__law_draw T) (hr.mono (by omega)) (by rfl) T._law_draw.g T._law_draw.F.kp T._law_draw.b .nil pass0 (pa_cons (pv 0) (pa_cons (pv 1) (pa_cons (pe_callB (kq_len (K := K)) (by rfl) T.z_len (by decide +kernel) (pa_cons (pv 8) pa_nil)) pa_nil)))) set_list))
  (pss_cons (ps_set (i := 9) sc__law_growth.nd rfl (Or.inr rfl) (pe_call (ok__law_pieces T) (hr.mono (by omega)) (by rfl) T._law_pieces.g T._law_pieces.F.kp T._law_pieces.b .nil pass0 (pa_cons (pe_callB (kq_len (K := K)) (by rfl) T.z_len (by decide +kernel) (pa_cons (pv 3) pa_nil)) (pa_cons (pv 6) pa_nil))))
  (pss_cons (ps_setLc (i := 10) (own := [("j", 14)]) rfl sc__law_growth.nd rfl rfl (sw_true rfl rfl rfl (by decide +kernel)) (pi_range1 rfl T.z_range (pa_cons (pe_callB (kq_len (K := K)) (by rfl) T.z_len (by decide +kernel) (pa_cons (pv 9) pa_nil)) pa_nil)) (blkOk_by (own := [("j", 14)]) (N := ["state", "script", "hasher", "items", "width", "root", "old", "true", "proof", "pieces", "places", "old_root", "accepted", "due", "j"]) (sc := defScope s__law_growth) (by decide +kernel)) (fun _ _ _ _ _ => pg_name (i := 14) sc__law_growth.nd rfl (Or.inl rfl)) (fun _ _ _ _ _ => (pts_one (pt_val (pe_ix (kx_tup (K := K)) (pe_ix (kx_list (K := K)) (pv 9) (pv 14) (fun _ _ => rfl)) pe_int (fun _ _ => rfl))))) (fun _ _ _ _ _ => (pv 14)))
  (pss_cons (ps_set (i := 11) sc__law_growth.nd rfl (Or.inl rfl) (pe_call (ok__law_old T) (hr.mono (by omega)) (by rfl) T._law_old.g T._law_old.F.kp T._law_old.b .nil pass0 (pa_cons (pv 4) (pa_cons (pe_lc (own := [("j", 14)]) rfl sc__law_growth.nd (ki_list (K := K) (pv 10)) (blkOk_by (own := [("j", 14)]) (N := ["state", "script", "hasher", "items", "width", "root", "old", "true", "proof", "pieces", "places", "old_root", "accepted", "due", "j"]) (sc := defScope s__law_growth) (by decide +kernel)) (fun _ _ _ _ _ => pg_name (i := 14) sc__law_growth.nd rfl (Or.inl rfl)) (fun _ _ _ _ _ => pts_nil) (fun _ _ _ _ _ => (pe_ix (kx_tup (K := K)) (pe_ix (kx_list (K := K)) (pv 9) (pv 14) (fun _ _ => rfl)) pe_int (fun _ _ => rfl)))) (pa_cons (pe_lc (own := [("j", 14)]) rfl sc__law_growth.nd (ki_list (K := K) (pv 10)) (blkOk_by (own := [("j", 14)]) (N := ["state", "script", "hasher", "items", "width", "root", "old", "true", "proof", "pieces", "places", "old_root", "accepted", "due", "j"]) (sc := defScope s__law_growth) (by decide +kernel)) (fun _ _ _ _ _ => pg_name (i := 14) sc__law_growth.nd rfl (Or.inl rfl)) (fun _ _ _ _ _ => pts_nil) (fun _ _ _ _ _ => (pe_ix (kx_list (K := K)) (pv 8) (pv 14) (fun _ _ => rfl)))) pa_nil)))))
  (pss_cons (ps_set (i := 12) sc__law_growth.nd rfl (Or.inl rfl) (pe_call (ok__law_grown T) (hr.mono (by omega)) (by rfl) T._law_grown.g T._law_grown.F.kp T._law_grown.b .nil pass0 (pa_cons (pv 4) (pa_cons (pv 11) (pa_cons (pv 6) (pa_cons (pv 5) (pa_cons (pe_callB (kq_len (K := K)) (by rfl) T.z_len (by decide +kernel) (pa_cons (pv 3) pa_nil)) (pa_cons (pv 8) pa_nil))))))))
  (pss_cons (ps_if (pt_cmpR (op_ne) (pe_call (ok_growth_check T) (hr.mono (by omega)) (by rfl) T.growth_check.g T.growth_check.F.kp T.growth_check.b .nil pass0 (pa_cons (pv 2) (pa_cons (pv 11) (pa_cons (pv 6) (pa_cons (pv 5) (pa_cons (pe_callB (kq_len (K := K)) (by rfl) T.z_len (by decide +kernel) (pa_cons (pv 3) pa_nil)) (pa_cons (pv 8) pa_nil))))))) (pv 12) (nomark _)) (pss_one (ps_ret pe_bl)) pss_nil)
  (pss_cons (ps_set (i := 13) sc__law_growth.nd rfl (Or.inl rfl) pe_non)
  (pss_cons (ps_cut (ps_if (pt_val (pv 12)) (pss_one (ps_set (i := 13) sc__law_growth.nd rfl (Or.inl rfl) (pe_call (ok__law_first T) (hr.mono (by omega)) (by rfl) T._law_first.g T._law_first.F.kp T._law_first.b .nil pass0 (pa_cons (pe_ix (kx_tup (K := K)) (pe_call (ok__law_whole T) (hr.mono (by omega)) (by rfl) T._law_whole.g T._law_whole.F.kp T._law_whole.b .nil pass0 (pa_cons (pv 4) (pa_cons (pe_callB (kq_len (K := K)) (by rfl) T.z_len (by decide +kernel) (pa_cons (pv 3) pa_nil)) (pa_cons (pv 6) (pa_cons (pv 7) pa_nil))))) pe_int (fun _ _ => rfl)) (pa_cons (pe_ix (kx_tup (K := K)) (pe_call (ok__law_whole T) (hr.mono (by omega)) (by rfl) T._law_whole.g T._law_whole.F.kp T._law_whole.b .nil pass0 (pa_cons (pv 4) (pa_cons (pe_callB (kq_len (K := K)) (by rfl) T.z_len (by decide +kernel) (pa_cons (pv 3) pa_nil)) (pa_cons (pv 6) (pa_cons (pv 8) pa_nil))))) pe_int (fun _ _ => rfl)) pa_nil))))) pss_nil))
  (pss_one (ps_ret (pe_call (ok__law_right T) (hr.mono (by omega)) (by rfl) T._law_right.g T._law_right.F.kp T._law_right.b .nil pass0 (pa_cons (pv 2) (pa_cons (pv 4) (pa_cons (pe_call (ok_growth_break T) (hr.mono (by omega)) (by rfl) T.growth_break.g T.growth_break.F.kp T.growth_break.b .nil pass0 (pa_cons (pv 2) (pa_cons (pv 3) (pa_cons (pv 11) (pa_cons (pv 6) (pa_cons (pv 8) pa_nil)))))) (pa_cons (pv 13) pa_nil)))))))))))))))))))), fn_s h fun x p => ?_⟩)
  change DS K _ (Wp.E.st :: (Wp.E.sc :: (Wp.E.d _ :: (Wp.E.d _ :: (Wp.E.any :: (Wp.E.any :: (Wp.E.any :: (Wp.E.any :: (Wp.E.any :: (Wp.E.any :: (Wp.E.any :: (Wp.E.any :: (Wp.E.any :: (Wp.E.any :: (Wp.E.any :: []))))))))))))))) _ _ _ _
  obtain ⟨wd, items⟩ := x
  obtain ⟨w4, w128, h1, hl, hi⟩ := p
  dsimp only at w4 w128 h1 hl hi ⊢
  have t1 := T.cl_Hasher
  have t2 := T.n_Hasher_width
  walk_at "d"
  refine dc_g (wd, items) rfl ⟨w4, w128, by show items.length < 34; omega, by show items.length ≤ 100; omega, hi⟩ ?_
  walk_at "D"
  refine dcs_draw (by omega) (log_small (by omega) (by omega)) fun o o0 o1 => ?_
  obtain ⟨o, rfl⟩ := Int.eq_ofNat_of_zero_le o0
  have ho : o ≤ items.length := by omega
  walk_at "d"
  refine dc_g (wd, items, (o : Int)) rfl ⟨w4, w128, by show items.length < 34; omega, by show items.length ≤ 33; omega, hi⟩ ?_
  dsimp only
  refine dg_name rfl rfl ?_
  dsimp only [List.set]
  refine ds_seq (ds_own (dn_listSq ?_))
  have hwl := growN_len (wd := wd) 33 items (o : Int) (by omega)
  obtain ⟨g1, g2⟩ := grow_tree (wd := wd) items.length items o (Nat.le_refl _) h1
  have hW1 := stepsG_le items.length items.length o (Nat.le_refl _)
  have hpl := pieces_len items.length items.length o (Nat.le_refl _) h1
  obtain ⟨pw0, pw1⟩ := sz_pow (w := wd) (by omega) (by omega)
  walk_at "d"
  refine ⟨false, _, rfl, ?_⟩
  walk_at "d"
  refine dcs_draw pw0 pw1 fun n4 a4 b4 => ?_
  walk_at "d"
  refine ⟨_, rfl, ?_⟩
  walk_at "d"
  rw [List.length_map]
  refine dcs_draw (by omega) (log_small (by omega) (by omega)) fun n5 a5 b5 => ?_
  obtain ⟨n5, rfl⟩ := Int.eq_ofNat_of_zero_le a5
  walk_at "d"
  refine ⟨n5, ixN_nat (by omega), ?_⟩
  rw [show (List.map D.int (growN wd items (o : Int))).set n5 (D.int n4) = ((growN wd items (o : Int)).set n5 n4).map D.int by rw [List.map_set]]
  have hP' : ((growN wd items (o : Int)).set n5 n4).length = (growN wd items (o : Int)).length := List.length_set
  have hbd : ∀ y ∈ (growN wd items (o : Int)).set n5 n4, Itm y := fun y hy => by
    rcases List.mem_or_eq_of_mem_set hy with hy | rfl
    · exact grow_itm2 w4 w128 y hy
    · exact itm_pow (k := wd.toNat) a4 (by rw [Int.one_mul] at b4; exact b4) (by omega)
  generalize (growN wd items (o : Int)).set n5 n4 = P' at *
  refine set_to rfl ?_
  dsimp only [List.set]
  refine ds_freeze 8 rfl rfl ?_
  dsimp only [List.set]
  walk_at "d"
  refine dc_g (items.length, (o : Int)) rfl ⟨by show items.length < 34; omega, by show items.length ≤ 1000; omega⟩ ?_
  walk_at "D"
  have heq' : (piecesN items.length (o : Int)).length = P'.length := by omega
  have hsz : ∀ y ∈ piecesN items.length (o : Int), y.1 ≤ 33 := fun y hy => Nat.le_trans (pieces_sz 33 items.length o (by omega) y hy) (by omega)
  have hP : P'.length ≤ 999 := by omega
  refine de_new (dn_lcR1 ?_)
  walk_at "d"
  refine ⟨_, rfl, by omega, by omega, fun i acc => acc = ((List.range i).filter fun k => ((piecesN items.length (o : Int)).getD k (0, false)).2).map fun k : Nat => D.int (k : Int), rfl, fun i acc p => by rw [p, List.length_map]; exact Nat.le_trans (List.length_filter_le _ _) (by rw [List.length_range]; exact Nat.le_refl _), ?_, ?_⟩
  · rintro i acc hi rfl
    have hi' : i < (piecesN items.length (o : Int)).length := by omega
    have hpi : (piecesN items.length (o : Int))[i]? = some ((piecesN items.length (o : Int)).getD i (0, false)) := by rw [List.getD_eq_getElem?_getD, List.getElem?_eq_getElem hi']; rfl
    refine dgw_name rfl (by decide) rfl ?_
    walk_at "d"
    refine ⟨_, atI_map hpi, ?_⟩
    walk_at "d"
    refine ⟨_, rfl, ?_⟩
    walk_at "d"
    cases hb2 : ((piecesN items.length (o : Int)).getD i (0, false)).2
    · walk_at "d"
      show _ = ((List.range (i + 1)).filter _).map _
      rw [List.range_succ, List.filter_append, List.filter_cons_of_neg (p := fun k => ((piecesN items.length (o : Int)).getD k (0, false)).2) (a := i) (by rw [hb2]; decide)]
      simp
    · walk_at "d"
      show _ = ((List.range (i + 1)).filter _).map _
      rw [List.range_succ, List.filter_append, List.filter_cons_of_pos (p := fun k => ((piecesN items.length (o : Int)).getD k (0, false)).2) (a := i) hb2]
      simp
  rintro acc rfl
  rw [Int.toNat_natCast]
  have hks : ∀ k ∈ (List.range (piecesN items.length (o : Int)).length).filter (fun k => ((piecesN items.length (o : Int)).getD k (0, false)).2), k < (piecesN items.length (o : Int)).length := fun k hk => List.mem_range.mp (List.mem_filter.mp hk).1
  have hkl : ((List.range (piecesN items.length (o : Int)).length).filter (fun k => ((piecesN items.length (o : Int)).getD k (0, false)).2)).length ≤ 33 := Nat.le_trans (List.length_filter_le _ _) (by rw [List.length_range]; omega)
  generalize (List.range (piecesN items.length (o : Int)).length).filter (fun k => ((piecesN items.length (o : Int)).getD k (0, false)).2) = ks at *
  walk_at "d"
  refine de_new (dn_mapL ks (fun k : Nat => D.int (k : Int)) (fun k => .int (((piecesN items.length (o : Int)).getD k (0, false)).1 : Int)) ?_)
  walk_at "d"
  refine ⟨rfl, by omega, fun i k hk => dgw_name rfl (by decide) rfl ?_, ?_⟩
  · have hk' := hks k (List.mem_of_getElem? hk)
    have hpi : (piecesN items.length (o : Int))[k]? = some ((piecesN items.length (o : Int)).getD k (0, false)) := by rw [List.getD_eq_getElem?_getD, List.getElem?_eq_getElem hk']; rfl
    walk_at "d"
    refine ⟨_, atI_map hpi, ?_⟩
    walk_at "d"
    exact ⟨_, rfl, rfl⟩
  walk_at "d"
  refine de_new (dn_mapL ks (fun k : Nat => D.int (k : Int)) (fun k => .int (P'.getD k 0)) ?_)
  walk_at "d"
  refine ⟨rfl, by omega, fun i k hk => dgw_name rfl (by decide) rfl ?_, ?_⟩
  · have hk' := hks k (List.mem_of_getElem? hk)
    walk_at "d"
    exact ⟨_, atI_map (show P'[k]? = some (P'.getD k 0) by rw [List.getD_eq_getElem?_getD, List.getElem?_eq_getElem (show k < P'.length by omega)]; rfl), rfl⟩
  walk_at "d"
  refine dc_g (wd, ks.map (fun k => (((piecesN items.length (o : Int)).getD k (0, false)).1 : Int)), ks.map (fun k => P'.getD k 0)) (by simp) ⟨w4, w128, by rw [List.length_map]; omega, by rw [List.length_map, List.length_map], ?_, ?_⟩ ?_
  · intro z hz
    obtain ⟨k, hk, rfl⟩ := List.mem_map.mp hz
    have := hsz _ (mem_getD (hks k hk) (0, false))
    omega
  · intro y hy
    obtain ⟨k, hk, rfl⟩ := List.mem_map.mp hy
    exact hbd _ (mem_getD (by have := hks k hk; omega) 0)
  dsimp only
  generalize oldL wd _ _ = olr
  walk_at "d"
  refine dc_g (wd, olr, (o : Int), rootN wd items, (items.length : Int), P') rfl ⟨w4, w128, by show (items.length : Int) ≤ 33; omega, hP⟩ ?_
  walk_at "D"
  refine dc_g (wd, olr, (o : Int), rootN wd items, (items.length : Int), false, P') rfl ⟨w4, w128, by show (items.length : Int) ≤ 999; omega, hP⟩ ?_
  walk_at "D"
  refine ifnF rfl ?_
  walk_at "d"
  refine ds_cut (fun ρ => ∃ e9 e10 e14, ρ = [.st, .sc, .d (Hs K wd), .d (lI items), .d (.int wd), .d (.int (rootN wd items)), .d (.int (o : Int)), .d (lI (growN wd items (o : Int))), .d (lI P'), e9, e10, .d (.int olr), .any, .d (gbrk wd items olr o P'), e14]) ?_ ?_
  · cases hc : grownN wd olr (o : Int) (rootN wd items) (items.length : Int) P'
    · walk_at "d"
      have : gbrk wd items olr o P' = .non := by unfold gbrk; rw [hc]; rfl
      rw [this]
      exact ⟨_, by walk_at "le", _, _, _, rfl⟩
    · obtain ⟨z1, z2, z3⟩ := grown_facts h1 hc
      have eb : gbrk wd items olr o P' = firstC (growIn wd (stepsG items.length o) (growN wd items o)) (growIn wd (stepsG items.length o) P') := by unfold gbrk; rw [hc]; rfl
      have hW2 := stepsG_len items.length items.length o (Nat.le_refl _)
      have w1 := whl_growIn (wd := wd) h1 g1
      have w2 := whl_growIn (wd := wd) (P := P') h1 z1.symm
      have lw : ∀ P, (growIn wd (stepsG items.length o) P).length = (stepsG items.length o).length := fun P => by unfold growIn; rw [List.length_reverse, upN_len]
      rw [eb]
      walk_at "d"
      refine dc_g (wd, items.length, (o : Int), growN wd items (o : Int)) rfl ⟨w4, w128, by show items.length < 34; omega, h1, hl, by show (piecesN items.length (o : Int)).length ≤ (growN wd items (o : Int)).length; omega, grow_itm2 w4 w128⟩ ?_
      walk_at "D"
      refine ⟨_, rfl, ?_⟩
      walk_at "d"
      refine dc_g (wd, items.length, (o : Int), P') rfl ⟨w4, w128, by show items.length < 34; omega, h1, hl, by show (piecesN items.length (o : Int)).length ≤ P'.length; omega, hbd⟩ ?_
      walk_at "D"
      refine ⟨_, rfl, ?_⟩
      walk_at "d"
      rw [w1, w2]
      refine dc_g (growIn wd (stepsG items.length o) (growN wd items (o : Int)), growIn wd (stepsG items.length o) P') rfl ⟨by show List.length _ = List.length _; rw [lw, lw], by show List.length _ ≤ 10000; rw [lw]; omega⟩ ?_
      walk_at "D"
      exact ⟨_, by walk_at "le", _, _, _, rfl⟩
  rintro ρ ⟨e9, e10, e14, rfl⟩
  walk_at "d"
  refine dc_g (wd, items, olr, o, P') rfl ⟨w4, w128, h1, hl, hi, hP⟩ ?_
  walk_at "D"
  refine dc_g (wd, gbrk wd items olr o P') rfl ⟨w4, w128, gbrk_ok w4 w128 h1 hl⟩ ?_
  walk_at "D"
  rfl

/-- a hasher of a width that is worked out on the way -/
theorem de_hasher2 {ρ : List E} {Q : E → Prop} {E' : XK} {tas : TA} (h : DA K tas ρ fun ds => ∃ wd : Int, ds = [.int wd] ∧ Q (.d (Hs K wd))) : DE K (tMake (He.ga K "Hasher") (sp_Hasher___init__ K) [] E' tas) ρ Q := fun U σ L G o H j QH q =>
  h U σ L G o H j _ fun vs H1 G1 j1 ⟨e1, ds, sd, wd, ed, k⟩ => by
    subst ed
    obtain ⟨v, rfl, c⟩ := rpa1 sd
    cases c
    have m : EM (U.hides L) (tMake (He.ga K "Hasher") (sp_Hasher___init__ K) [] E' (fun _ H Q => Q [.int wd] H)) σ G1 (Po K U L G Q) :=
      em_makeI (fs := [("width", V.int wd)]) (fun H j QH q => q _ _ _ j ⟨fun x dx H QI EI hx q => ⟨x, dx, _, wd, rfl, rfl, hx, q⟩, fun x dx G2 n e2 g => ⟨e1.trans e2, .d (Hs K wd), .obj g rfl (.cons (.int _) .nil), k⟩⟩)
    exact m H1 j1 QH q
def sp_law (K : PySem.W.Frag) : Sp := sp_lawD K
theorem law_starts (K : PySem.W.Frag) (H : Hp) (a : Addr) (ns : List Int) (hl : ns.length ≤ 63) (hS : SqL K H a (ns.map V.int)) : sp_law K [.ref a] H (fun v _ => v = .bl true) fun _ _ _ => False := ⟨a, ns, rfl, hS, hl, fun _ => rfl⟩
theorem ok_law (T : Txt K mg) : FnOk P w K mg base CX0 (83) (He.fAd K ("law", none)) T.fd_law ["script"] (sp_law K) := by
  refine T.law.F.ok sc_law (fun vs H Q E h => len_law h) (fun cdv A outer s H vs Q E hr h => ⟨_, PSs.nox (pss_cons (ps_set (i := 1) sc_law.nd rfl (Or.inr rfl) (pe_lst (pa_cons pe_int (pa_cons pe_int pa_nil))))
  (pss_cons (ps_set (i := 2) sc_law.nd rfl (Or.inl rfl) (pe_make T.mk_Hasher (ok_Hasher___init__ T) (hr.mono (by omega)) (by rfl) T.g_Hasher T.Hasher___init__.b .nil pass0 (pa_cons (pe_ix (kx_list (K := K)) (pe_lst (pa_cons pe_int (pa_cons pe_int (pa_cons pe_int (pa_cons pe_int (pa_cons pe_int pa_nil)))))) (pe_call (ok__law_draw T) (hr.mono (by omega)) (by rfl) T._law_draw.g T._law_draw.F.kp T._law_draw.b .nil pass0 (pa_cons (pv 1) (pa_cons (pv 0) (pa_cons pe_int pa_nil)))) (fun _ _ => rfl)) pa_nil)))
  (pss_cons (ps_setLc (i := 3) (own := [("k", 5)]) rfl sc_law.nd rfl rfl (sw_true rfl rfl rfl (by decide +kernel)) (pi_range1 rfl T.z_range (pa_cons (pe_op op_add pe_int (pe_call (ok__law_draw T) (hr.mono (by omega)) (by rfl) T._law_draw.g T._law_draw.F.kp T._law_draw.b .nil pass0 (pa_cons (pv 1) (pa_cons (pv 0) (pa_cons pe_int pa_nil))))) pa_nil)) (blkOk_by (own := [("k", 5)]) (N := ["script", "state", "hasher", "items", "turn", "k"]) (sc := defScope s_law) (by decide +kernel)) (fun _ _ _ _ _ => pg_name (i := 5) sc_law.nd rfl (Or.inl rfl)) (fun _ _ _ _ _ => pts_nil) (fun _ _ _ _ _ => (pe_call (ok__law_draw T) (hr.mono (by omega)) (by rfl) T._law_draw.g T._law_draw.F.kp T._law_draw.b .nil pass0 (pa_cons (pv 1) (pa_cons (pv 0) (pa_cons pe_int pa_nil))))))
  (pss_cons (ps_for PassesOwn.never rfl (pi_range1 rfl T.z_range (pa_cons pe_int pa_nil)) (pg_name (i := 4) sc_law.nd rfl (Or.inl rfl)) (pss_one (ps_if (PW.pt (pw_or (pt_not (pt_val (pe_call (ok__law_item T) (hr.mono (by omega)) (by rfl) T._law_item.g T._law_item.F.kp T._law_item.b .nil pass0 (pa_cons (pv 1) (pa_cons (pv 0) (pa_cons (pv 2) (pa_cons (pv 3) pa_nil))))))) (pw_or1 (pt_not (pt_val (pe_call (ok__law_growth T) (hr.mono (by omega)) (by rfl) T._law_growth.g T._law_growth.F.kp T._law_growth.b .nil pass0 (pa_cons (pv 1) (pa_cons (pv 0) (pa_cons (pv 2) (pa_cons (pv 3) pa_nil)))))))))) (pss_one (ps_ret pe_bl)) pss_nil)))
  (pss_one (ps_ret pe_bl)))))), fn_law h (by decide) (by decide) ?_⟩)
  change DS K _ (Wp.E.sc :: (Wp.E.st :: (Wp.E.any :: (Wp.E.any :: (Wp.E.any :: (Wp.E.any :: [])))))) _ _ _ _
  walk_at "d"
  refine de_hasher2 ?_
  walk_at "d"
  refine dcs_draw (by decide) (by decide) fun n1 a1 b1 => ?_
  walk_at "d"
  refine atI_ints (fun m => 4 ≤ m ∧ m ≤ 128) a1 b1 (by intro d hd; simp at hd; rcases hd with rfl | rfl | rfl | rfl <;> exact ⟨_, rfl, by decide, by decide⟩) fun wd ⟨w4, w128⟩ => ?_
  walk_at "d"
  refine ⟨wd, rfl, ?_⟩
  walk_at "d"
  refine de_new (dn_lcR1 ?_)
  walk_at "d"
  refine dcs_draw (by decide) (by decide) fun n2 a2 b2 => ?_
  walk_at "d"
  refine ⟨_, rfl, by omega, by omega, fun i acc => ∃ ns : List Int, acc = ns.map D.int ∧ ns.length = i ∧ ∀ n ∈ ns, Itm n, ⟨[], rfl, rfl, by simp⟩, fun i acc ⟨ns, h1, h2, _⟩ => by rw [h1, List.length_map]; omega, ?_, ?_⟩
  · rintro i acc hi ⟨ns, rfl, hl, hn⟩
    refine dgw_name rfl (by decide) rfl ?_
    walk_at "d"
    refine dcs_draw (by decide) (by decide) fun q a3 b3 => ?_
    walk_at "d"
    exact ⟨ns ++ [q], by simp, by simp [hl], fun n hm => by
      rcases List.mem_append.mp hm with hm | hm
      · exact hn n hm
      · simp at hm; rw [hm]; exact itm_small a3 (by omega)⟩
  rintro acc ⟨items, rfl, hl, hi⟩
  have h1 : 1 ≤ items.length := by omega
  have h2 : items.length ≤ 33 := by omega
  walk_at "d"
  refine ds_forR1 ?_
  walk_at "d"
  refine ⟨30, rfl, by decide, by decide, fun i ρ => ∃ e, ρ = [.sc, .st, .d (Hs K wd), .d (lI items), .any, e], ⟨_, by walk_at "le", _, rfl⟩, ?_, ?_⟩
  · rintro i ρ hi3 ⟨e, rfl⟩
    walk_at "d"
    refine dcs_f (wd, items) rfl ⟨w4, w128, h1, h2, hi⟩ ?_
    rintro _ rfl
    walk_at "d"
    refine dcs_f (wd, items) rfl ⟨w4, w128, h1, h2, hi⟩ ?_
    rintro _ rfl
    walk_at "d"
    exact ⟨_, by walk_at "le", _, rfl⟩
  · rintro ρ ⟨e, rfl⟩
    walk_at "d"
    rfl

end
def dd_Hasher___init__ : He.DefD := ⟨("Hasher", some "__init__"), "__init__", "Hasher.__init__", defArgs s_Hasher___init__, defBody s_Hasher___init__, defScope s_Hasher___init__, [], []⟩
def dd_Hasher_digest : He.DefD := ⟨("Hasher", some "digest"), "digest", "Hasher.digest", defArgs s_Hasher_digest, defBody s_Hasher_digest, defScope s_Hasher_digest, [], []⟩
def dd_Hasher_is_digest : He.DefD := ⟨("Hasher", some "is_digest"), "is_digest", "Hasher.is_digest", defArgs s_Hasher_is_digest, defBody s_Hasher_is_digest, defScope s_Hasher_is_digest, [], []⟩
def dd_are_digests : He.DefD := ⟨("are_digests", none), "are_digests", "are_digests", defArgs s_are_digests, defBody s_are_digests, defScope s_are_digests, [], []⟩
def dd_limbs_of : He.DefD := ⟨("limbs_of", none), "limbs_of", "limbs_of", defArgs s_limbs_of, defBody s_limbs_of, defScope s_limbs_of, [], []⟩
def dd_mixed : He.DefD := ⟨("mixed", none), "mixed", "mixed", defArgs s_mixed, defBody s_mixed, defScope s_mixed, [], []⟩
def dd_collision : He.DefD := ⟨("collision", none), "collision", "collision", defArgs s_collision, defBody s_collision, defScope s_collision, [], []⟩
def dd_is_collision : He.DefD := ⟨("is_collision", none), "is_collision", "is_collision", defArgs s_is_collision, defBody s_is_collision, defScope s_is_collision, [], []⟩
def dd_is_input : He.DefD := ⟨("is_input", none), "is_input", "is_input", defArgs s_is_input, defBody s_is_input, defScope s_is_input, [], []⟩
def dd_first_collision : He.DefD := ⟨("first_collision", none), "first_collision", "first_collision", defArgs s_first_collision, defBody s_first_collision, defScope s_first_collision, [], []⟩
def dd_left_size : He.DefD := ⟨("left_size", none), "left_size", "left_size", defArgs s_left_size, defBody s_left_size, defScope s_left_size, [], []⟩
def dd_part_with : He.DefD := ⟨("part_with", none), "part_with", "part_with", defArgs s_part_with, defBody s_part_with, defScope s_part_with, [], []⟩
def dd_list_root : He.DefD := ⟨("list_root", none), "list_root", "list_root", defArgs s_list_root, defBody s_list_root, defScope s_list_root, [], []⟩
def dd_list_proof : He.DefD := ⟨("list_proof", none), "list_proof", "list_proof", defArgs s_list_proof, defBody s_list_proof, defScope s_list_proof, [], []⟩
def dd_growth_proof : He.DefD := ⟨("growth_proof", none), "growth_proof", "growth_proof", defArgs s_growth_proof, defBody s_growth_proof, defScope s_growth_proof, [], []⟩
def dd_list_check : He.DefD := ⟨("list_check", none), "list_check", "list_check", defArgs s_list_check, defBody s_list_check, defScope s_list_check, [], []⟩
def dd_item_way : He.DefD := ⟨("item_way", none), "item_way", "item_way", defArgs s_item_way, defBody s_item_way, defScope s_item_way, [], []⟩
def dd_item_inputs : He.DefD := ⟨("item_inputs", none), "item_inputs", "item_inputs", defArgs s_item_inputs, defBody s_item_inputs, defScope s_item_inputs, [], []⟩
def dd_way_inputs : He.DefD := ⟨("way_inputs", none), "way_inputs", "way_inputs", defArgs s_way_inputs, defBody s_way_inputs, defScope s_way_inputs, [], []⟩
def dd_list_break : He.DefD := ⟨("list_break", none), "list_break", "list_break", defArgs s_list_break, defBody s_list_break, defScope s_list_break, [], []⟩
def dd_growth_check : He.DefD := ⟨("growth_check", none), "growth_check", "growth_check", defArgs s_growth_check, defBody s_growth_check, defScope s_growth_check, [], []⟩
def dd_growth_way : He.DefD := ⟨("growth_way", none), "growth_way", "growth_way", defArgs s_growth_way, defBody s_growth_way, defScope s_growth_way, [], []⟩
def dd_growth_beside : He.DefD := ⟨("growth_beside", none), "growth_beside", "growth_beside", defArgs s_growth_beside, defBody s_growth_beside, defScope s_growth_beside, [], []⟩
def dd_growth_inputs : He.DefD := ⟨("growth_inputs", none), "growth_inputs", "growth_inputs", defArgs s_growth_inputs, defBody s_growth_inputs, defScope s_growth_inputs, [], []⟩
def dd_told_root : He.DefD := ⟨("told_root", none), "told_root", "told_root", defArgs s_told_root, defBody s_told_root, defScope s_told_root, [], []⟩
def dd_told_old_root : He.DefD := ⟨("told_old_root", none), "told_old_root", "told_old_root", defArgs s_told_old_root, defBody s_told_old_root, defScope s_told_old_root, [], []⟩
def dd_growth_break : He.DefD := ⟨("growth_break", none), "growth_break", "growth_break", defArgs s_growth_break, defBody s_growth_break, defScope s_growth_break, [], []⟩
def dd__law_draw : He.DefD := ⟨("_law_draw", none), "_law_draw", "_law_draw", defArgs s__law_draw, defBody s__law_draw, defScope s__law_draw, [], []⟩
def dd__law_digest : He.DefD := ⟨("_law_digest", none), "_law_digest", "_law_digest", defArgs s__law_digest, defBody s__law_digest, defScope s__law_digest, [], []⟩
def dd__law_part : He.DefD := ⟨("_law_part", none), "_law_part", "_law_part", defArgs s__law_part, defBody s__law_part, defScope s__law_part, [], []⟩
def dd__law_root : He.DefD := ⟨("_law_root", none), "_law_root", "_law_root", defArgs s__law_root, defBody s__law_root, defScope s__law_root, [], []⟩
def dd__law_steps : He.DefD := ⟨("_law_steps", none), "_law_steps", "_law_steps", defArgs s__law_steps, defBody s__law_steps, defScope s__law_steps, [], []⟩
def dd__law_way : He.DefD := ⟨("_law_way", none), "_law_way", "_law_way", defArgs s__law_way, defBody s__law_way, defScope s__law_way, [], []⟩
def dd__law_inputs : He.DefD := ⟨("_law_inputs", none), "_law_inputs", "_law_inputs", defArgs s__law_inputs, defBody s__law_inputs, defScope s__law_inputs, [], []⟩
def dd__law_listed : He.DefD := ⟨("_law_listed", none), "_law_listed", "_law_listed", defArgs s__law_listed, defBody s__law_listed, defScope s__law_listed, [], []⟩
def dd__law_items : He.DefD := ⟨("_law_items", none), "_law_items", "_law_items", defArgs s__law_items, defBody s__law_items, defScope s__law_items, [], []⟩
def dd__law_pieces : He.DefD := ⟨("_law_pieces", none), "_law_pieces", "_law_pieces", defArgs s__law_pieces, defBody s__law_pieces, defScope s__law_pieces, [], []⟩
def dd__law_grows : He.DefD := ⟨("_law_grows", none), "_law_grows", "_law_grows", defArgs s__law_grows, defBody s__law_grows, defScope s__law_grows, [], []⟩
def dd__law_old : He.DefD := ⟨("_law_old", none), "_law_old", "_law_old", defArgs s__law_old, defBody s__law_old, defScope s__law_old, [], []⟩
def dd__law_whole : He.DefD := ⟨("_law_whole", none), "_law_whole", "_law_whole", defArgs s__law_whole, defBody s__law_whole, defScope s__law_whole, [], []⟩
def dd__law_grown : He.DefD := ⟨("_law_grown", none), "_law_grown", "_law_grown", defArgs s__law_grown, defBody s__law_grown, defScope s__law_grown, [], []⟩
def dd__law_first : He.DefD := ⟨("_law_first", none), "_law_first", "_law_first", defArgs s__law_first, defBody s__law_first, defScope s__law_first, [], []⟩
def dd__law_right : He.DefD := ⟨("_law_right", none), "_law_right", "_law_right", defArgs s__law_right, defBody s__law_right, defScope s__law_right, [], []⟩
def dd__law_item : He.DefD := ⟨("_law_item", none), "_law_item", "_law_item", defArgs s__law_item, defBody s__law_item, defScope s__law_item, [], []⟩
def dd__law_growth : He.DefD := ⟨("_law_growth", none), "_law_growth", "_law_growth", defArgs s__law_growth, defBody s__law_growth, defScope s__law_growth, [], []⟩
def dd_law : He.DefD := ⟨("law", none), "law", "law", defArgs s_law, defBody s_law, defScope s_law, [], []⟩
def fn : List He.DefD := [dd_Hasher___init__, dd_Hasher_digest, dd_Hasher_is_digest, dd_are_digests, dd_limbs_of, dd_mixed, dd_collision, dd_is_collision, dd_is_input, dd_first_collision, dd_left_size, dd_part_with, dd_list_root, dd_list_proof, dd_growth_proof, dd_list_check, dd_item_way, dd_item_inputs, dd_way_inputs, dd_list_break, dd_growth_check, dd_growth_way, dd_growth_beside, dd_growth_inputs, dd_told_root, dd_told_old_root, dd_growth_break, dd__law_draw, dd__law_digest, dd__law_part, dd__law_root, dd__law_steps, dd__law_way, dd__law_inputs, dd__law_listed, dd__law_items, dd__law_pieces, dd__law_grows, dd__law_old, dd__law_whole, dd__law_grown, dd__law_first, dd__law_right, dd__law_item, dd__law_growth, dd_law]
def fa : List He.Fa := [.glo "are_digests", .glo "limbs_of", .glo "mixed", .glo "collision", .glo "is_collision", .glo "is_input", .glo "first_collision", .glo "left_size", .glo "part_with", .glo "list_root", .glo "list_proof", .glo "growth_proof", .glo "list_check", .glo "item_way", .glo "item_inputs", .glo "way_inputs", .glo "list_break", .glo "growth_check", .glo "growth_way", .glo "growth_beside", .glo "growth_inputs", .glo "told_root", .glo "told_old_root", .glo "growth_break", .glo "_law_draw", .glo "_law_digest", .glo "_law_part", .glo "_law_root", .glo "_law_steps", .glo "_law_way", .glo "_law_inputs", .glo "_law_listed", .glo "_law_items", .glo "_law_pieces", .glo "_law_grows", .glo "_law_old", .glo "_law_whole", .glo "_law_grown", .glo "_law_first", .glo "_law_right", .glo "_law_item", .glo "_law_growth", .glo "law", .cls "Hasher", .glo "Hasher", .free "all", .free "any", .free "int", .free "len", .free "list", .free "max", .free "range", .free "reversed", .free "tuple", .free "zip", .int "FIRST_FACTOR" 15241578750190521011, .int "FIRST_SHIFT" 31, .int "FIRST_START" 7263541890216354987, .int "GREATEST_TAG" 15, .int "LEAF_TAG" 0, .int "LIMB_BITS" 32, .int "LIMB_MASK" 4294967295, .int "MIX_BITS" 128, .int "NODE_TAG" 1, .int "SECOND_FACTOR" 9764318250173649287, .int "SECOND_SHIFT" 29, .int "SECOND_START" 12985647301928374651, .int "WORD_MASK" 18446744073709551615, .meth "Hasher" "digest", .meth "Hasher" "is_digest", .mkr "Hasher", .noat "Hasher" "width"]
abbrev R : PySem.W.OpenRow := PySem.W.OpenLaw.row PySem.Challenge.rw_offing_k04_whole_breaks_of_lists
abbrev hk : PySem.W.Hook := He.hookD 5 fa fn
def ob (s : PySem.W.SharedT) : He.AlD := He.obsDG 5 fa fn (HandSHeadRun.getT s)
theorem ob_eq (s : PySem.W.SharedT) : ob s = hk.obs s.abs := He.obsDG_eq (HandSHeadRun.getT_eq s)
theorem run (w : World) : HandSHeadRun.RunEq R (PySem.W.view R.prog [59]) hk ob 2000 ("LIMB_BITS" :: "LIMB_MASK" :: "WORD_MASK" :: "MIX_BITS" :: "GREATEST_TAG" :: "FIRST_START" :: "SECOND_START" :: "FIRST_FACTOR" :: "SECOND_FACTOR" :: "FIRST_SHIFT" :: "SECOND_SHIFT" :: "Hasher" :: "are_digests" :: "limbs_of" :: "mixed" :: "collision" :: "is_collision" :: "is_input" :: "first_collision" :: "LEAF_TAG" :: "NODE_TAG" :: "left_size" :: "part_with" :: "list_root" :: "list_proof" :: "growth_proof" :: "list_check" :: "item_way" :: "item_inputs" :: "way_inputs" :: "list_break" :: "growth_check" :: "growth_way" :: "growth_beside" :: "growth_inputs" :: "told_root" :: "told_old_root" :: "growth_break" :: "_law_draw" :: "_law_digest" :: "_law_part" :: "_law_root" :: "_law_steps" :: "_law_way" :: "_law_inputs" :: "_law_listed" :: "_law_items" :: "_law_pieces" :: "_law_grows" :: "_law_old" :: "_law_whole" :: "_law_grown" :: "_law_first" :: "_law_right" :: "_law_item" :: "_law_growth" :: []) w := by
  intro os
  kernel_rfl
theorem facts {P : Program} {w : World} {K : PySem.W.Frag} {h : Heap} {mg : Str → Option Value} {f : Addr} (X : K.In h) (G : h.Ns mainGlobals mg) (hfa : mg ("law" : Str) = some (.ref f)) (c : He.SaysD fa fn K) :
    ∃ fd : FuncData, (∀ (s : Shared) (v : Value), BindsTo s fd ⟨[v], []⟩ [("script", v)]) ∧ ∀ base : Heap, K.In base → base.Ns mainGlobals mg → FnOk P w K mg base CX0 83 f fd ["script"] (sp_law K) := by
  obtain ⟨fd0, F0⟩ := c.def_ 0 (d := dd_Hasher___init__) rfl
  obtain ⟨fd1, F1⟩ := c.def_ 1 (d := dd_Hasher_digest) rfl
  obtain ⟨fd2, F2⟩ := c.def_ 2 (d := dd_Hasher_is_digest) rfl
  obtain ⟨fd3, F3⟩ := c.def_ 3 (d := dd_are_digests) rfl
  obtain ⟨fd4, F4⟩ := c.def_ 4 (d := dd_limbs_of) rfl
  obtain ⟨fd5, F5⟩ := c.def_ 5 (d := dd_mixed) rfl
  obtain ⟨fd6, F6⟩ := c.def_ 6 (d := dd_collision) rfl
  obtain ⟨fd7, F7⟩ := c.def_ 7 (d := dd_is_collision) rfl
  obtain ⟨fd8, F8⟩ := c.def_ 8 (d := dd_is_input) rfl
  obtain ⟨fd9, F9⟩ := c.def_ 9 (d := dd_first_collision) rfl
  obtain ⟨fd10, F10⟩ := c.def_ 10 (d := dd_left_size) rfl
  obtain ⟨fd11, F11⟩ := c.def_ 11 (d := dd_part_with) rfl
  obtain ⟨fd12, F12⟩ := c.def_ 12 (d := dd_list_root) rfl
  obtain ⟨fd13, F13⟩ := c.def_ 13 (d := dd_list_proof) rfl
  obtain ⟨fd14, F14⟩ := c.def_ 14 (d := dd_growth_proof) rfl
  obtain ⟨fd15, F15⟩ := c.def_ 15 (d := dd_list_check) rfl
  obtain ⟨fd16, F16⟩ := c.def_ 16 (d := dd_item_way) rfl
  obtain ⟨fd17, F17⟩ := c.def_ 17 (d := dd_item_inputs) rfl
  obtain ⟨fd18, F18⟩ := c.def_ 18 (d := dd_way_inputs) rfl
  obtain ⟨fd19, F19⟩ := c.def_ 19 (d := dd_list_break) rfl
  obtain ⟨fd20, F20⟩ := c.def_ 20 (d := dd_growth_check) rfl
  obtain ⟨fd21, F21⟩ := c.def_ 21 (d := dd_growth_way) rfl
  obtain ⟨fd22, F22⟩ := c.def_ 22 (d := dd_growth_beside) rfl
  obtain ⟨fd23, F23⟩ := c.def_ 23 (d := dd_growth_inputs) rfl
  obtain ⟨fd24, F24⟩ := c.def_ 24 (d := dd_told_root) rfl
  obtain ⟨fd25, F25⟩ := c.def_ 25 (d := dd_told_old_root) rfl
  obtain ⟨fd26, F26⟩ := c.def_ 26 (d := dd_growth_break) rfl
  obtain ⟨fd27, F27⟩ := c.def_ 27 (d := dd__law_draw) rfl
  obtain ⟨fd28, F28⟩ := c.def_ 28 (d := dd__law_digest) rfl
  obtain ⟨fd29, F29⟩ := c.def_ 29 (d := dd__law_part) rfl
  obtain ⟨fd30, F30⟩ := c.def_ 30 (d := dd__law_root) rfl
  obtain ⟨fd31, F31⟩ := c.def_ 31 (d := dd__law_steps) rfl
  obtain ⟨fd32, F32⟩ := c.def_ 32 (d := dd__law_way) rfl
  obtain ⟨fd33, F33⟩ := c.def_ 33 (d := dd__law_inputs) rfl
  obtain ⟨fd34, F34⟩ := c.def_ 34 (d := dd__law_listed) rfl
  obtain ⟨fd35, F35⟩ := c.def_ 35 (d := dd__law_items) rfl
  obtain ⟨fd36, F36⟩ := c.def_ 36 (d := dd__law_pieces) rfl
  obtain ⟨fd37, F37⟩ := c.def_ 37 (d := dd__law_grows) rfl
  obtain ⟨fd38, F38⟩ := c.def_ 38 (d := dd__law_old) rfl
  obtain ⟨fd39, F39⟩ := c.def_ 39 (d := dd__law_whole) rfl
  obtain ⟨fd40, F40⟩ := c.def_ 40 (d := dd__law_grown) rfl
  obtain ⟨fd41, F41⟩ := c.def_ 41 (d := dd__law_first) rfl
  obtain ⟨fd42, F42⟩ := c.def_ 42 (d := dd__law_right) rfl
  obtain ⟨fd43, F43⟩ := c.def_ 43 (d := dd__law_item) rfl
  obtain ⟨fd44, F44⟩ := c.def_ 44 (d := dd__law_growth) rfl
  obtain ⟨fd45, F45⟩ := c.def_ 45 (d := dd_law) rfl
  let T : Txt K mg := {
    fd_Hasher___init__ := fd0,
    Hasher___init__ := ⟨F0, (F0.bindsN (ps := ["self", "width"]) fun _ _ _ _ _ _ us hl => match us, hl with | [_, _], _ => rfl)⟩,
    fd_Hasher_digest := fd1,
    Hasher_digest := ⟨F1, (F1.bindsN (ps := ["self", "tag", "numbers"]) fun _ _ _ _ _ _ us hl => match us, hl with | [_, _, _], _ => rfl)⟩,
    fd_Hasher_is_digest := fd2,
    Hasher_is_digest := ⟨F2, (F2.bindsN (ps := ["self", "number"]) fun _ _ _ _ _ _ us hl => match us, hl with | [_, _], _ => rfl)⟩,
    fd_are_digests := fd3,
    are_digests := ⟨F3, He.glo_ok X G (c.fact 0 (f := .glo "are_digests") rfl), (F3.bindsN (ps := ["hasher", "numbers"]) fun _ _ _ _ _ _ us hl => match us, hl with | [_, _], _ => rfl)⟩,
    fd_limbs_of := fd4,
    limbs_of := ⟨F4, He.glo_ok X G (c.fact 1 (f := .glo "limbs_of") rfl), (F4.bindsN (ps := ["numbers"]) fun _ _ _ _ _ _ us hl => match us, hl with | [_], _ => rfl)⟩,
    fd_mixed := fd5,
    mixed := ⟨F5, He.glo_ok X G (c.fact 2 (f := .glo "mixed") rfl), (F5.bindsN (ps := ["limbs"]) fun _ _ _ _ _ _ us hl => match us, hl with | [_], _ => rfl)⟩,
    fd_collision := fd6,
    collision := ⟨F6, He.glo_ok X G (c.fact 3 (f := .glo "collision") rfl), (F6.bindsN (ps := ["first", "second"]) fun _ _ _ _ _ _ us hl => match us, hl with | [_, _], _ => rfl)⟩,
    fd_is_collision := fd7,
    is_collision := ⟨F7, He.glo_ok X G (c.fact 4 (f := .glo "is_collision") rfl), (F7.bindsN (ps := ["hasher", "answer"]) fun _ _ _ _ _ _ us hl => match us, hl with | [_, _], _ => rfl)⟩,
    fd_is_input := fd8,
    is_input := ⟨F8, He.glo_ok X G (c.fact 5 (f := .glo "is_input") rfl), (F8.bindsN (ps := ["pair"]) fun _ _ _ _ _ _ us hl => match us, hl with | [_], _ => rfl)⟩,
    fd_first_collision := fd9,
    first_collision := ⟨F9, He.glo_ok X G (c.fact 6 (f := .glo "first_collision") rfl), (F9.bindsN (ps := ["own_inputs", "told_inputs"]) fun _ _ _ _ _ _ us hl => match us, hl with | [_, _], _ => rfl)⟩,
    fd_left_size := fd10,
    left_size := ⟨F10, He.glo_ok X G (c.fact 7 (f := .glo "left_size") rfl), (F10.bindsN (ps := ["size"]) fun _ _ _ _ _ _ us hl => match us, hl with | [_], _ => rfl)⟩,
    fd_part_with := fd11,
    part_with := ⟨F11, He.glo_ok X G (c.fact 8 (f := .glo "part_with") rfl), (F11.bindsN (ps := ["size", "place"]) fun _ _ _ _ _ _ us hl => match us, hl with | [_, _], _ => rfl)⟩,
    fd_list_root := fd12,
    list_root := ⟨F12, He.glo_ok X G (c.fact 9 (f := .glo "list_root") rfl), (F12.bindsN (ps := ["hasher", "items"]) fun _ _ _ _ _ _ us hl => match us, hl with | [_, _], _ => rfl)⟩,
    fd_list_proof := fd13,
    list_proof := ⟨F13, He.glo_ok X G (c.fact 10 (f := .glo "list_proof") rfl), (F13.bindsN (ps := ["hasher", "items", "k"]) fun _ _ _ _ _ _ us hl => match us, hl with | [_, _, _], _ => rfl)⟩,
    fd_growth_proof := fd14,
    growth_proof := ⟨F14, He.glo_ok X G (c.fact 11 (f := .glo "growth_proof") rfl), (F14.bindsN (ps := ["hasher", "items", "old"]) fun _ _ _ _ _ _ us hl => match us, hl with | [_, _, _], _ => rfl)⟩,
    fd_list_check := fd15,
    list_check := ⟨F15, He.glo_ok X G (c.fact 12 (f := .glo "list_check") rfl), (F15.bindsN (ps := ["hasher", "root", "count", "k", "item", "proof"]) fun _ _ _ _ _ _ us hl => match us, hl with | [_, _, _, _, _, _], _ => rfl)⟩,
    fd_item_way := fd16,
    item_way := ⟨F16, He.glo_ok X G (c.fact 13 (f := .glo "item_way") rfl), (F16.bindsN (ps := ["count", "k", "most"]) fun _ _ _ _ _ _ us hl => match us, hl with | [_, _, _], _ => rfl)⟩,
    fd_item_inputs := fd17,
    item_inputs := ⟨F17, He.glo_ok X G (c.fact 14 (f := .glo "item_inputs") rfl), (F17.bindsN (ps := ["hasher", "way", "item", "proof"]) fun _ _ _ _ _ _ us hl => match us, hl with | [_, _, _, _], _ => rfl)⟩,
    fd_way_inputs := fd18,
    way_inputs := ⟨F18, He.glo_ok X G (c.fact 15 (f := .glo "way_inputs") rfl), (F18.bindsN (ps := ["hasher", "way", "beside", "end"]) fun _ _ _ _ _ _ us hl => match us, hl with | [_, _, _, _], _ => rfl)⟩,
    fd_list_break := fd19,
    list_break := ⟨F19, He.glo_ok X G (c.fact 16 (f := .glo "list_break") rfl), (F19.bindsN (ps := ["hasher", "items", "k", "item", "proof"]) fun _ _ _ _ _ _ us hl => match us, hl with | [_, _, _, _, _], _ => rfl)⟩,
    fd_growth_check := fd20,
    growth_check := ⟨F20, He.glo_ok X G (c.fact 17 (f := .glo "growth_check") rfl), (F20.bindsN (ps := ["hasher", "old_root", "old", "root", "count", "proof"]) fun _ _ _ _ _ _ us hl => match us, hl with | [_, _, _, _, _, _], _ => rfl)⟩,
    fd_growth_way := fd21,
    growth_way := ⟨F21, He.glo_ok X G (c.fact 18 (f := .glo "growth_way") rfl), (F21.bindsN (ps := ["count", "old", "most"]) fun _ _ _ _ _ _ us hl => match us, hl with | [_, _, _], _ => rfl)⟩,
    fd_growth_beside := fd22,
    growth_beside := ⟨F22, He.glo_ok X G (c.fact 19 (f := .glo "growth_beside") rfl), (F22.bindsN (ps := ["way", "proof"]) fun _ _ _ _ _ _ us hl => match us, hl with | [_, _], _ => rfl)⟩,
    fd_growth_inputs := fd23,
    growth_inputs := ⟨F23, He.glo_ok X G (c.fact 20 (f := .glo "growth_inputs") rfl), (F23.bindsN (ps := ["hasher", "way", "proof"]) fun _ _ _ _ _ _ us hl => match us, hl with | [_, _, _], _ => rfl)⟩,
    fd_told_root := fd24,
    told_root := ⟨F24, He.glo_ok X G (c.fact 21 (f := .glo "told_root") rfl), (F24.bindsN (ps := ["hasher", "way", "proof"]) fun _ _ _ _ _ _ us hl => match us, hl with | [_, _, _], _ => rfl)⟩,
    fd_told_old_root := fd25,
    told_old_root := ⟨F25, He.glo_ok X G (c.fact 22 (f := .glo "told_old_root") rfl), (F25.bindsN (ps := ["hasher", "way", "old", "proof"]) fun _ _ _ _ _ _ us hl => match us, hl with | [_, _, _, _], _ => rfl)⟩,
    fd_growth_break := fd26,
    growth_break := ⟨F26, He.glo_ok X G (c.fact 23 (f := .glo "growth_break") rfl), (F26.bindsN (ps := ["hasher", "items", "old_root", "old", "proof"]) fun _ _ _ _ _ _ us hl => match us, hl with | [_, _, _, _, _], _ => rfl)⟩,
    fd__law_draw := fd27,
    _law_draw := ⟨F27, He.glo_ok X G (c.fact 24 (f := .glo "_law_draw") rfl), (F27.bindsN (ps := ["state", "script", "size"]) fun _ _ _ _ _ _ us hl => match us, hl with | [_, _, _], _ => rfl)⟩,
    fd__law_digest := fd28,
    _law_digest := ⟨F28, He.glo_ok X G (c.fact 25 (f := .glo "_law_digest") rfl), (F28.bindsN (ps := ["width", "tag", "numbers"]) fun _ _ _ _ _ _ us hl => match us, hl with | [_, _, _], _ => rfl)⟩,
    fd__law_part := fd29,
    _law_part := ⟨F29, He.glo_ok X G (c.fact 26 (f := .glo "_law_part") rfl), (F29.bindsN (ps := ["size"]) fun _ _ _ _ _ _ us hl => match us, hl with | [_], _ => rfl)⟩,
    fd__law_root := fd30,
    _law_root := ⟨F30, He.glo_ok X G (c.fact 27 (f := .glo "_law_root") rfl), (F30.bindsN (ps := ["width", "items"]) fun _ _ _ _ _ _ us hl => match us, hl with | [_, _], _ => rfl)⟩,
    fd__law_steps := fd31,
    _law_steps := ⟨F31, He.glo_ok X G (c.fact 28 (f := .glo "_law_steps") rfl), (F31.bindsN (ps := ["count", "k"]) fun _ _ _ _ _ _ us hl => match us, hl with | [_, _], _ => rfl)⟩,
    fd__law_way := fd32,
    _law_way := ⟨F32, He.glo_ok X G (c.fact 29 (f := .glo "_law_way") rfl), (F32.bindsN (ps := ["width", "items", "k"]) fun _ _ _ _ _ _ us hl => match us, hl with | [_, _, _], _ => rfl)⟩,
    fd__law_inputs := fd33,
    _law_inputs := ⟨F33, He.glo_ok X G (c.fact 30 (f := .glo "_law_inputs") rfl), (F33.bindsN (ps := ["width", "count", "k", "item", "proof"]) fun _ _ _ _ _ _ us hl => match us, hl with | [_, _, _, _, _], _ => rfl)⟩,
    fd__law_listed := fd34,
    _law_listed := ⟨F34, He.glo_ok X G (c.fact 31 (f := .glo "_law_listed") rfl), (F34.bindsN (ps := ["width", "root", "count", "k", "item", "proof"]) fun _ _ _ _ _ _ us hl => match us, hl with | [_, _, _, _, _, _], _ => rfl)⟩,
    fd__law_items := fd35,
    _law_items := ⟨F35, He.glo_ok X G (c.fact 32 (f := .glo "_law_items") rfl), (F35.bindsN (ps := ["state", "script", "most"]) fun _ _ _ _ _ _ us hl => match us, hl with | [_, _, _], _ => rfl)⟩,
    fd__law_pieces := fd36,
    _law_pieces := ⟨F36, He.glo_ok X G (c.fact 33 (f := .glo "_law_pieces") rfl), (F36.bindsN (ps := ["count", "old"]) fun _ _ _ _ _ _ us hl => match us, hl with | [_, _], _ => rfl)⟩,
    fd__law_grows := fd37,
    _law_grows := ⟨F37, He.glo_ok X G (c.fact 34 (f := .glo "_law_grows") rfl), (F37.bindsN (ps := ["width", "items", "old"]) fun _ _ _ _ _ _ us hl => match us, hl with | [_, _, _], _ => rfl)⟩,
    fd__law_old := fd38,
    _law_old := ⟨F38, He.glo_ok X G (c.fact 35 (f := .glo "_law_old") rfl), (F38.bindsN (ps := ["width", "sizes", "digests"]) fun _ _ _ _ _ _ us hl => match us, hl with | [_, _, _], _ => rfl)⟩,
    fd__law_whole := fd39,
    _law_whole := ⟨F39, He.glo_ok X G (c.fact 36 (f := .glo "_law_whole") rfl), (F39.bindsN (ps := ["width", "count", "old", "proof"]) fun _ _ _ _ _ _ us hl => match us, hl with | [_, _, _, _], _ => rfl)⟩,
    fd__law_grown := fd40,
    _law_grown := ⟨F40, He.glo_ok X G (c.fact 37 (f := .glo "_law_grown") rfl), (F40.bindsN (ps := ["width", "old_root", "old", "root", "count", "proof"]) fun _ _ _ _ _ _ us hl => match us, hl with | [_, _, _, _, _, _], _ => rfl)⟩,
    fd__law_first := fd41,
    _law_first := ⟨F41, He.glo_ok X G (c.fact 38 (f := .glo "_law_first") rfl), (F41.bindsN (ps := ["true", "told"]) fun _ _ _ _ _ _ us hl => match us, hl with | [_, _], _ => rfl)⟩,
    fd__law_right := fd42,
    _law_right := ⟨F42, He.glo_ok X G (c.fact 39 (f := .glo "_law_right") rfl), (F42.bindsN (ps := ["hasher", "width", "found", "due"]) fun _ _ _ _ _ _ us hl => match us, hl with | [_, _, _, _], _ => rfl)⟩,
    fd__law_item := fd43,
    _law_item := ⟨F43, He.glo_ok X G (c.fact 40 (f := .glo "_law_item") rfl), (F43.bindsN (ps := ["state", "script", "hasher", "items"]) fun _ _ _ _ _ _ us hl => match us, hl with | [_, _, _, _], _ => rfl)⟩,
    fd__law_growth := fd44,
    _law_growth := ⟨F44, He.glo_ok X G (c.fact 41 (f := .glo "_law_growth") rfl), (F44.bindsN (ps := ["state", "script", "hasher", "items"]) fun _ _ _ _ _ _ us hl => match us, hl with | [_, _, _, _], _ => rfl)⟩,
    fd_law := fd45,
    law := ⟨F45, He.glo_ok X G (c.fact 42 (f := .glo "law") rfl), (F45.bindsN (ps := ["script"]) fun _ _ _ _ _ _ us hl => match us, hl with | [_], _ => rfl)⟩,
    cl_Hasher := He.cls_ok (c.fact 43 (f := .cls "Hasher") rfl),
    g_Hasher := He.glo_ok X G (c.fact 44 (f := .glo "Hasher") rfl),
    z_all := He.free_ok X G (c.fact 45 (f := .free "all") rfl),
    z_any := He.free_ok X G (c.fact 46 (f := .free "any") rfl),
    z_int := He.free_ok X G (c.fact 47 (f := .free "int") rfl),
    z_len := He.free_ok X G (c.fact 48 (f := .free "len") rfl),
    z_list := He.free_ok X G (c.fact 49 (f := .free "list") rfl),
    z_max := He.free_ok X G (c.fact 50 (f := .free "max") rfl),
    z_range := He.free_ok X G (c.fact 51 (f := .free "range") rfl),
    z_reversed := He.free_ok X G (c.fact 52 (f := .free "reversed") rfl),
    z_tuple := He.free_ok X G (c.fact 53 (f := .free "tuple") rfl),
    z_zip := He.free_ok X G (c.fact 54 (f := .free "zip") rfl),
    c_FIRST_FACTOR := He.int_ok X G (c.fact 55 (f := .int "FIRST_FACTOR" 15241578750190521011) rfl),
    c_FIRST_SHIFT := He.int_ok X G (c.fact 56 (f := .int "FIRST_SHIFT" 31) rfl),
    c_FIRST_START := He.int_ok X G (c.fact 57 (f := .int "FIRST_START" 7263541890216354987) rfl),
    c_GREATEST_TAG := He.int_ok X G (c.fact 58 (f := .int "GREATEST_TAG" 15) rfl),
    c_LEAF_TAG := He.int_ok X G (c.fact 59 (f := .int "LEAF_TAG" 0) rfl),
    c_LIMB_BITS := He.int_ok X G (c.fact 60 (f := .int "LIMB_BITS" 32) rfl),
    c_LIMB_MASK := He.int_ok X G (c.fact 61 (f := .int "LIMB_MASK" 4294967295) rfl),
    c_MIX_BITS := He.int_ok X G (c.fact 62 (f := .int "MIX_BITS" 128) rfl),
    c_NODE_TAG := He.int_ok X G (c.fact 63 (f := .int "NODE_TAG" 1) rfl),
    c_SECOND_FACTOR := He.int_ok X G (c.fact 64 (f := .int "SECOND_FACTOR" 9764318250173649287) rfl),
    c_SECOND_SHIFT := He.int_ok X G (c.fact 65 (f := .int "SECOND_SHIFT" 29) rfl),
    c_SECOND_START := He.int_ok X G (c.fact 66 (f := .int "SECOND_START" 12985647301928374651) rfl),
    c_WORD_MASK := He.int_ok X G (c.fact 67 (f := .int "WORD_MASK" 18446744073709551615) rfl),
    me_Hasher_digest := He.meth_ok (c.fact 68 (f := .meth "Hasher" "digest") rfl),
    me_Hasher_is_digest := He.meth_ok (c.fact 69 (f := .meth "Hasher" "is_digest") rfl),
    mk_Hasher := He.mkr_ok (c.fact 70 (f := .mkr "Hasher") rfl),
    n_Hasher_width := He.noat_ok (c.fact 71 (f := .noat "Hasher" "width") rfl) }
  have e := hfa.symm.trans T.law.g
  have e2 : f = He.fAd K ("law", none) := by injection e with e1; injection e1
  subst e2
  exact ⟨T.fd_law, fun s v => FunD.bindsA (ps := ["script"]) T.law.F (fun _ _ _ _ _ _ us hl => match us, hl with | [_], _ => rfl) s [v] rfl, fun base _ _ => ok_law T⟩
end Pf
open PySem PySem.W PySem.Calls PyProof.Rows
set_option maxRecDepth 100000 in
set_option maxHeartbeats 0 in
theorem PySem.Challenge.cw_offing_k04_whole_breaks_of_lists_holds : PySem.Challenge.rw_offing_k04_whole_breaks_of_lists.Holds := by
  w_on; o_law
  refine HandSHeadRun.head_any (r := OpenLaw.row PySem.Challenge.rw_offing_k04_whole_breaks_of_lists) (q := view (OpenLaw.row PySem.Challenge.rw_offing_k04_whole_breaks_of_lists).prog [59]) (H := Pf.hk) (ob := Pf.ob) (M := 2000) (loose := ("LIMB_BITS" :: "LIMB_MASK" :: "WORD_MASK" :: "MIX_BITS" :: "GREATEST_TAG" :: "FIRST_START" :: "SECOND_START" :: "FIRST_FACTOR" :: "SECOND_FACTOR" :: "FIRST_SHIFT" :: "SECOND_SHIFT" :: "Hasher" :: "are_digests" :: "limbs_of" :: "mixed" :: "collision" :: "is_collision" :: "is_input" :: "first_collision" :: "LEAF_TAG" :: "NODE_TAG" :: "left_size" :: "part_with" :: "list_root" :: "list_proof" :: "growth_proof" :: "list_check" :: "item_way" :: "item_inputs" :: "way_inputs" :: "list_break" :: "growth_check" :: "growth_way" :: "growth_beside" :: "growth_inputs" :: "told_root" :: "told_old_root" :: "growth_break" :: "_law_draw" :: "_law_digest" :: "_law_part" :: "_law_root" :: "_law_steps" :: "_law_way" :: "_law_inputs" :: "_law_listed" :: "_law_items" :: "_law_pieces" :: "_law_grows" :: "_law_old" :: "_law_whole" :: "_law_grown" :: "_law_first" :: "_law_right" :: "_law_item" :: "_law_growth" :: [])) (d := HandSHeadRun.topDef (OpenLaw.row PySem.Challenge.rw_offing_k04_whole_breaks_of_lists).prog 59) (kwd := []) Pf.ob_eq
    (by kernel_rfl) (fun s => by kernel_rfl) Pf.run (by kernel_rfl) (by kernel_rfl) (by kernel_rfl) (by rfl) (by first | assumption | decide +kernel) (by decide +kernel) ⟨rfl, rfl, rfl, rfl, rfl, by decide +kernel⟩ ?hw ?hc
  case hw => w_witness2
  case hc =>
    refine L2.walk_ofE (l := PySem.Challenge.rw_offing_k04_whole_breaks_of_lists) (n := 63) (k := 83) (x := "script") (CX := L2.CX0) rfl (by decide) (by kernel_rfl) ⟨rfl, by decide, by decide⟩ ?F (fun _ _ _ _ z => z)
    intro w mg fa h Y G hmg0
    obtain ⟨K, KX, c⟩ := Y
    have hmg : mg ("law" : PySem.Str) = some (.ref fa) := by
      have e : (HandSHeadRun.topDef (OpenLaw.row PySem.Challenge.rw_offing_k04_whole_breaks_of_lists).prog 59).name = ("law" : PySem.Str) := by kernel_rfl
      rw [← e]
      exact hmg0
    obtain ⟨fd, hb, hF⟩ := Pf.facts (P := (PySem.Challenge.rw_offing_k04_whole_breaks_of_lists).prog) (w := w) KX G hmg c
    exact ⟨K, fd, Pf.sp_law K, KX, hb, fun H a ns hl _ hS => Pf.law_starts K H a ns hl hS, hF⟩

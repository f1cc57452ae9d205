import PyProof.Rows.All
import Wide.All
import OpenK.AllK
import Wide.FinOn
import HandS.ForMost
import HandS.Evl
import HandS.Flow
import HandS.Style
import HandS.Star
import HandS.Wide
import HandS.WideBits
import HandS.IsInst
import HandS.Defaults
import HandS.WordsExc
import HandS.Steps
import HandS.Head0
import HandS.Head1
import HandS.Head2
import HandS.HeadEnd
import HandS.HeadHook1
import HandS.HeadHook2
import PySem.Challenge.RW_offing_k01_collisions
set_option Elab.async false
set_option linter.all false
set_option maxRecDepth 100000
set_option maxHeartbeats 4000000
/-! A calculus over readings: what a part of the heap shows (G), what is hidden, what must stay. -/
namespace Wp
open PySem L2 Evl StX
set_option autoImplicit false

structure Vx where
  He : Hp
  Ge : Hp
  I : Hp → Prop
  m : Addr → Prop
  st : ∀ H H', I H → (∀ a, m a → H' a = H a) → I H'

structure J (U : Vx) (H G : Hp) : Prop where
  up : Ex G H
  keep : Ex U.He H
  new : ∀ a, G a ≠ none → U.Ge a = none → U.He a = none
  hid : U.I H
  msk : ∀ a, U.m a → G a = none ∧ H a ≠ none

theorem none_of_ex {H H' : Hp} {a : Addr} (e : Ex H H') (h : H' a = none) : H a = none := fresh_back e h
theorem ex_upd2 {G H : Hp} {p : Addr} {o : HO} (e : Ex G H) : Ex (upd G p o) (upd H p o) := fun a u h => by
  by_cases z : a = p
  · subst z; rw [upd_same] at h ⊢; exact h
  · rw [upd_ne z] at h ⊢; exact e a u h
theorem J.alloc {U : Vx} {H G : Hp} {p : Addr} {o : HO} (j : J U H G) (h : H p = none) : J U (upd H p o) (upd G p o) where
  up := ex_upd2 j.up
  keep := fun a u e => by
    have e1 := j.keep a u e
    rw [upd_ne (ne_of_none e1 h)]; exact e1
  new := fun a e g => by
    by_cases z : a = p
    · subst z; exact none_of_ex j.keep h
    · rw [upd_ne z] at e; exact j.new a e g
  hid := U.st H _ j.hid fun a ma => by
    have q := (j.msk a ma).2
    have : a ≠ p := fun z => by subst z; exact q h
    rw [upd_ne this]
  msk := fun a ma => by
    obtain ⟨q1, q2⟩ := j.msk a ma
    have : a ≠ p := fun z => by subst z; exact q2 h
    rw [upd_ne this, upd_ne this]; exact ⟨q1, q2⟩
theorem J.write {U : Vx} {H G : Hp} {p : Addr} {o o' : HO} (j : J U H G) (h : G p = some o) (g : U.Ge p = none) : J U (upd H p o') (upd G p o') where
  up := ex_upd2 j.up
  keep := fun a u e => by
    have : a ≠ p := fun z => by
      subst z
      rw [j.new a (by rw [h]; exact fun q => by cases q) g] at e; cases e
    rw [upd_ne this]; exact j.keep a u e
  new := fun a e q => by
    by_cases z : a = p
    · subst z; exact j.new a (by rw [h]; exact fun q => by cases q) q
    · rw [upd_ne z] at e; exact j.new a e q
  hid := U.st H _ j.hid fun a ma => by
    have q := (j.msk a ma).1
    have : a ≠ p := fun z => by subst z; rw [h] at q; cases q
    rw [upd_ne this]
  msk := fun a ma => by
    obtain ⟨q1, q2⟩ := j.msk a ma
    have : a ≠ p := fun z => by subst z; rw [h] at q1; cases q1
    rw [upd_ne this, upd_ne this]; exact ⟨q1, q2⟩
theorem J.free {U : Vx} {H G : Hp} {p : Addr} (j : J U H G) (h : H p = none) : G p = none := none_of_ex j.up h
/-- behind a call that keeps what stood -/
theorem J.call {U : Vx} {H G H' G' : Hp} (j : J U H G) (e1 : Ex H H') (e3 : Ex G' H') (n : ∀ a, G' a ≠ none → G a = none → H a = none) : J U H' G' where
  up := e3
  keep := j.keep.trans e1
  new := fun a q g => by
    cases z : G a with
    | none => exact none_of_ex j.keep (n a q z)
    | some o => exact j.new a (by rw [z]; exact fun q => by cases q) g
  hid := U.st H _ j.hid fun a ma => by
    obtain ⟨_, q2⟩ := j.msk a ma
    cases z : H a with
    | none => exact absurd z q2
    | some o => exact e1 a o z
  msk := fun a ma => by
    obtain ⟨q1, q2⟩ := j.msk a ma
    constructor
    · cases z : G' a with
      | none => rfl
      | some o => exact absurd (n a (by rw [z]; exact fun q => by cases q) q1) q2
    · cases z : H a with
      | none => exact absurd z q2
      | some o => rw [e1 a o z]; exact fun q => by cases q
/-- the hidden part alone has changed, at p -/
theorem J.hidden {U : Vx} {H G : Hp} {p : Addr} {o : HO} (j : J U H G) (mp : U.m p) (hI : U.I (upd H p o)) (hne : U.He p = none) : J U (upd H p o) G where
  up := fun a u e => by
    have : a ≠ p := fun z => by subst z; rw [(j.msk a mp).1] at e; cases e
    rw [upd_ne this]; exact j.up a u e
  keep := fun a u e => by
    have : a ≠ p := fun z => by subst z; rw [hne] at e; cases e
    rw [upd_ne this]; exact j.keep a u e
  new := j.new
  hid := hI
  msk := fun a ma => by
    refine ⟨(j.msk a ma).1, ?_⟩
    by_cases z : a = p
    · subst z; rw [upd_same]; exact fun q => by cases q
    · rw [upd_ne z]; exact (j.msk a ma).2
/-- nothing hidden -/
def V0 (H G : Hp) : Vx := ⟨H, G, fun _ => True, fun _ => False, fun _ _ _ _ => trivial⟩
theorem J.start {H G : Hp} (e : Ex G H) : J (V0 H G) H G := ⟨e, Ex.refl H, fun a q g => absurd g q, trivial, fun _ z => z.elim⟩
/-- one more object hidden: the list at D -/
def Vx.hide (U : Vx) (D : Addr) (o : HO) : Vx := ⟨U.He, U.Ge, fun H => U.I H ∧ H D = some o, fun a => U.m a ∨ a = D, fun H H' ⟨i, d⟩ e => ⟨U.st H H' i fun a ma => e a (.inl ma), by rw [e D (.inr rfl)]; exact d⟩⟩
theorem J.hide {U : Vx} {H G : Hp} {D : Addr} {o : HO} (j : J U H G) (h : H D = some o) (g : G D = none) : J (U.hide D o) H G where
  up := j.up
  keep := j.keep
  new := j.new
  hid := ⟨j.hid, h⟩
  msk := fun a ma => by
    rcases ma with ma | rfl
    · exact j.msk a ma
    · exact ⟨g, by rw [h]; exact fun q => by cases q⟩
theorem J.unhide {U : Vx} {H G : Hp} {D : Addr} {o : HO} (j : J (U.hide D o) H G) (hm : ¬ U.m D) (hn : U.He D = none) : J U H (upd G D o) where
  up := fun a u e => by
    by_cases z : a = D
    · subst z; rw [upd_same] at e; rw [j.hid.2]; exact e
    · rw [upd_ne z] at e; exact j.up a u e
  keep := j.keep
  new := fun a q g => by
    by_cases z : a = D
    · subst z; exact hn
    · rw [upd_ne z] at q; exact j.new a q g
  hid := j.hid.1
  msk := fun a ma => by
    have : a ≠ D := fun z => by subst z; exact hm ma
    rw [upd_ne this]; exact j.msk a (.inl ma)
theorem J.rehide {U : Vx} {H G : Hp} {D : Addr} {o o' : HO} (j : J (U.hide D o) H G) (hm : ¬ U.m D) (hn : U.He D = none) : J (U.hide D o') (upd H D o') G where
  up := fun a u e => by
    have : a ≠ D := fun z => by subst z; rw [(j.msk a (.inr rfl)).1] at e; cases e
    rw [upd_ne this]; exact j.up a u e
  keep := fun a u e => by
    have : a ≠ D := fun z => by subst z; exact absurd (show U.He a = some u from e) (by rw [hn]; exact fun q => by cases q)
    rw [upd_ne this]; exact j.keep a u e
  new := j.new
  hid := ⟨U.st H _ j.hid.1 fun a ma => by
    have : a ≠ D := fun z => by subst z; exact hm ma
    rw [upd_ne this], upd_same⟩
  msk := fun a ma => by
    refine ⟨(j.msk a ma).1, ?_⟩
    by_cases z : a = D
    · subst z; rw [upd_same]; exact fun q => by cases q
    · rw [upd_ne z]; exact (j.msk a ma).2

/-! ### data that stands -/
theorem dp_mono {K : PySem.W.Frag} {H H' : Hp} (e : Ex H H') : ∀ (d : PyData) (v : V), Dp K H v d → Dp K H' v d
  | .none, v, h => by cases h; exact .non
  | .bool b, v, h => by cases h; exact .bl b
  | .int b, v, h => by cases h; exact .int b
  | .str b, v, h => by cases h; exact .str b
  | .list ds, v, h => by cases h with | lst a b => exact .lst (ex_l e a) (dpAll_mono e ds _ b)
  | .tuple ds, v, h => by cases h with | tup a b => exact .tup (ex_t e a) (dpAll_mono e ds _ b)
  | .dict _, v, h => by cases h
where
  dpAll_mono {K : PySem.W.Frag} {H H' : Hp} (e : Ex H H') : ∀ (ds : List PyData) (vs : List V), DpAll K H vs ds → DpAll K H' vs ds
  | [], vs, h => by cases h; exact .nil
  | d :: ds, vs, h => by cases h with | cons a b => exact .cons (dp_mono e d _ a) (dpAll_mono e ds _ b)

/-! ### the judgements -/
def EM (U : Vx) (te : TE) (σ : L2.St) (G : Hp) (Q : VK) : Prop := ∀ H, J U H G → ∀ QH : VK, (∀ v H' G', J U H' G' → Q v G' → QH v H') → te σ H QH
def TM (U : Vx) (tt : TT) (σ : L2.St) (G : Hp) (Q : Bool → Hp → Prop) : Prop := ∀ H, J U H G → ∀ QH : Bool → Hp → Prop, (∀ v H' G', J U H' G' → Q v G' → QH v H') → tt σ H QH
def AM (U : Vx) (ta : TA) (σ : L2.St) (G : Hp) (Q : List V → Hp → Prop) : Prop := ∀ H, J U H G → ∀ QH : List V → Hp → Prop, (∀ v H' G', J U H' G' → Q v G' → QH v H') → ta σ H QH
def GM (U : Vx) (g : TG) (v : V) (σ : L2.St) (G : Hp) (Q : L2.St → Hp → Prop) : Prop := ∀ H, J U H G → ∀ QH : L2.St → Hp → Prop, (∀ σ' H' G', J U H' G' → Q σ' G' → QH σ' H') → g v σ H QH
def RM (U : Vx) (r : Hp → VK → Prop) (G : Hp) (Q : VK) : Prop := ∀ H, J U H G → ∀ QH : VK, (∀ v H' G', J U H' G' → Q v G' → QH v H') → r H QH
def CM (U : Vx) (sp : Sp) (vs : List V) (G : Hp) (Q : VK) : Prop := ∀ H, J U H G → ∀ QH : VK, (∀ v H' G', J U H' G' → Q v G' → QH v H') → ∀ E, sp vs H QH E
def SM (U : Vx) (t : TS) (D : Ends) (σ : L2.St) (G : Hp) : Prop := ∀ H, J U H G → t D σ H
def KM (U : Vx) (nx : L2.St → Hp → Prop) (σ : L2.St) (G : Hp) : Prop := ∀ H, J U H G → nx σ H
def KV (U : Vx) (rt : VK) (v : V) (G : Hp) : Prop := ∀ H, J U H G → rt v H
/-- a bool's way on -/
def BV (x : V) (P : Bool → Prop) : Prop := ∃ k, x = .bl k ∧ P k

section
variable {U : Vx} {σ : L2.St} {G : Hp} {Q : VK} {te ta tb tc tx : TE} {t u tt : TT} {v x y z : V} {r : R2} {K : PySem.W.Frag} {QT : Bool → Hp → Prop}
theorem bv {b : Bool} {P : Bool → Prop} (h : P b) : BV (.bl b) P := ⟨b, rfl, h⟩
theorem em_var {i : Nat} (h : σ[i]? = some (some v)) (k : Q v G) : EM U (tVar i) σ G Q := fun H j _ q => ⟨v, h, q v H G j k⟩
theorem em_here {i : Nat} (h : ∃ v, σ[i]? = some (some v) ∧ Q v G) : EM U (tVar i) σ G Q := fun H j _ q => h.elim fun v e => ⟨v, e.1, q v H G j e.2⟩
theorem em_c (k : Q v G) : EM U (tC v) σ G Q := fun H j _ q => q v H G j k
theorem em_op (h : EM U ta σ G fun x G1 => EM U tb σ G1 fun y G2 => RM U (r x y) G2 Q) : EM U (tOp r ta tb) σ G Q := fun H j QH q =>
  h H j _ fun x H1 G1 j1 h1 => h1 H1 j1 _ fun y H2 G2 j2 h2 => h2 H2 j2 QH q
theorem em_un {ru : V → Hp → VK → Prop} (h : EM U ta σ G fun x G1 => RM U (ru x) G1 Q) : EM U (tUn ru ta) σ G Q := fun H j QH q => h H j _ fun x H1 G1 j1 h1 => h1 H1 j1 QH q
theorem rm_I0 {g : Int → Int → V} {i j : Int} (k : Q (g i j) G) : RM U (rI0 g (.int i) (.int j)) G Q := fun H jj _ q => ⟨i, j, rfl, rfl, q _ H G jj k⟩
theorem rm_I {C : Int → Int → Prop} {g : Int → Int → V} {i j : Int} (c : C i j) (k : Q (g i j) G) : RM U (rI C g (.int i) (.int j)) G Q := fun H jj _ q => ⟨i, j, rfl, rfl, c, q _ H G jj k⟩
theorem rm_U {g : Int → V} {i : Int} (k : Q (g i) G) : RM U (rU g (.int i)) G Q := fun H jj _ q => ⟨i, rfl, q _ H G jj k⟩
theorem rm_eq (h : scal x y = true) (k : Q (.bl (decide (x = y))) G) : RM U (rEq x y) G Q := fun H j _ q => ⟨h, q _ H G j k⟩
theorem rm_ne (h : scal x y = true) (k : Q (.bl (!decide (x = y))) G) : RM U (rNe x y) G Q := fun H j _ q => ⟨h, q _ H G j k⟩
theorem rm_eqI {i j : Int} (k : Q (.bl (decide (i = j))) G) : RM U (rEq (.int i) (.int j)) G Q := rm_eq rfl (by
  have e : decide (V.int i = V.int j) = decide (i = j) := by simp
  rw [e]; exact k)
theorem rm_neI {i j : Int} (k : Q (.bl (!decide (i = j))) G) : RM U (rNe (.int i) (.int j)) G Q := rm_ne rfl (by
  have e : decide (V.int i = V.int j) = decide (i = j) := by simp
  rw [e]; exact k)
theorem rm_eqD {d e : PyData} (hd : Dp K G x d) (he : Dp K G y e) (sd : SeqAt.shaped d = true) (se : SeqAt.shaped e = true) (k : Q (.bl (PyData.eqv d e)) G) : RM U (rEqD K x y) G Q := fun H j _ q =>
  ⟨d, e, dp_mono j.up d x hd, dp_mono j.up e y he, sd, se, q _ H G j k⟩
theorem rm_neD {d e : PyData} (hd : Dp K G x d) (he : Dp K G y e) (sd : SeqAt.shaped d = true) (se : SeqAt.shaped e = true) (k : Q (.bl (!PyData.eqv d e)) G) : RM U (rNeD K x y) G Q := fun H j _ q =>
  ⟨d, e, dp_mono j.up d x hd, dp_mono j.up e y he, sd, se, q _ H G j k⟩
theorem rm_ixL {p : Addr} {xs : List V} {i : Int} (h : SqL K G p xs) (ha : atI xs i = some v) (k : Q v G) : RM U (rIxL K (.ref p) (.int i)) G Q := fun H j _ q => ⟨p, xs, i, v, rfl, rfl, ex_l j.up h, ha, q _ H G j k⟩
theorem rm_ixT {p : Addr} {xs : List V} {i : Int} (h : SqT K G p xs) (ha : atI xs i = some v) (k : Q v G) : RM U (rIxT K (.ref p) (.int i)) G Q := fun H j _ q => ⟨p, xs, i, v, rfl, rfl, ex_t j.up h, ha, q _ H G j k⟩
theorem rm_cat {l b : Addr} {xs zs : List V} (h1 : G l = some (.lst xs)) (h2 : G b = some (.lst zs)) (hs : xs.length + zs.length ≤ sizeLine) (k : ∀ p G', G p = none → Ex G G' → G' p = some (.lst (xs ++ zs)) → Q (.ref p) G') : RM U (rCat (.ref l) (.ref b)) G Q :=
  fun H j _ q => ⟨l, b, xs, zs, rfl, rfl, j.up _ _ h1, j.up _ _ h2, hs, fun p hp => q _ _ _ (j.alloc hp) (k p _ (j.free hp) (Ex.new (j.free hp)) upd_same)⟩
theorem rm_catT {a b : Addr} {xs ys : List V} (h1 : SqT K G a xs) (h2 : SqT K G b ys) (hx : xs ≠ []) (hs : xs.length + ys.length ≤ sizeLine) (k : ∀ p G', Ex G G' → SqT K G' p (xs ++ ys) → Q (.ref p) G') : RM U (rCatT K (.ref a) (.ref b)) G Q :=
  fun H j _ q => ⟨a, b, xs, ys, rfl, rfl, ex_t j.up h1, ex_t j.up h2, hx, hs, fun e => q _ _ _ j (k a G (Ex.refl G) (by rw [e, List.append_nil]; exact h1)), fun _ p hp => q _ _ _ (j.alloc hp) (k p _ (Ex.new (j.free hp)) (SqT.of upd_same))⟩
theorem em_orV (h : EM U ta σ G fun x G1 => BV x fun c => if c = true then Q (.bl true) G1 else EM U tb σ G1 Q) : EM U (tOrV ta tb) σ G Q := fun H j QH q => h H j _ fun x H1 G1 j1 ⟨c, e, h1⟩ => ⟨c, e, by
  cases c with
  | true => rw [if_pos rfl] at h1 ⊢; exact q _ _ _ j1 h1
  | false => rw [if_neg Bool.false_ne_true] at h1 ⊢; exact h1 H1 j1 QH q⟩
theorem em_andV (h : EM U ta σ G fun x G1 => BV x fun c => if c = true then EM U tb σ G1 Q else Q (.bl false) G1) : EM U (tAndV ta tb) σ G Q := fun H j QH q => h H j _ fun x H1 G1 j1 ⟨c, e, h1⟩ => ⟨c, e, by
  cases c with
  | true => rw [if_pos rfl] at h1 ⊢; exact h1 H1 j1 QH q
  | false => rw [if_neg Bool.false_ne_true] at h1 ⊢; exact q _ _ _ j1 h1⟩
theorem em_notV (h : EM U ta σ G fun x G1 => BV x fun c => Q (.bl (!c)) G1) : EM U (tNotV ta) σ G Q := fun H j QH q => h H j _ fun x H1 G1 j1 ⟨c, e, h1⟩ => ⟨c, e, q _ _ _ j1 h1⟩
theorem em_if (h : TM U t σ G fun c G1 => if c = true then EM U ta σ G1 Q else EM U tb σ G1 Q) : EM U (tIf t ta tb) σ G Q := fun H j QH q => h H j _ fun c H1 G1 j1 h1 => by
  cases c with
  | true => rw [if_pos rfl] at h1 ⊢; exact h1 H1 j1 QH q
  | false => rw [if_neg Bool.false_ne_true] at h1 ⊢; exact h1 H1 j1 QH q
theorem em_chain {r' : R2} (h : EM U ta σ G fun x G1 => EM U tb σ G1 fun y G2 => RM U (r x y) G2 fun z G3 => BV z fun k => if k = true then EM U tc σ G3 fun w G4 => RM U (r' y w) G4 Q else Q (.bl false) G3) : EM U (tChain r r' ta tb tc) σ G Q := fun H j QH q =>
  h H j _ fun x H1 G1 j1 h1 => h1 H1 j1 _ fun y H2 G2 j2 h2 => h2 H2 j2 _ fun z H3 G3 j3 ⟨k, e, h3⟩ => ⟨k, e, by
    cases k with
    | true => rw [if_pos rfl] at h3 ⊢; exact h3 H3 j3 _ fun w H4 G4 j4 h4 => h4 H4 j4 QH q
    | false => rw [if_neg Bool.false_ne_true] at h3 ⊢; exact q _ _ _ j3 h3⟩
theorem em_lst {tas : TA} (h : AM U tas σ G fun vs G1 => vs.length ≤ sizeLine ∧ ∀ p G2, G1 p = none → Ex G1 G2 → G2 p = some (.lst vs) → Q (.ref p) G2) : EM U (tLst tas) σ G Q := fun H j QH q =>
  h H j _ fun vs H1 G1 j1 ⟨hz, h1⟩ => ⟨hz, fun p hp => q _ _ _ (j1.alloc hp) (h1 p _ (j1.free hp) (Ex.new (j1.free hp)) upd_same)⟩
theorem em_tup {tas : TA} (h : AM U tas σ G fun vs G1 => vs.length ≤ sizeLine ∧ ∀ p G2, G1 p = none → Ex G1 G2 → G2 p = some (.tup vs) → Q (.ref p) G2) : EM U (tTup tas) σ G Q := fun H j QH q =>
  h H j _ fun vs H1 G1 j1 ⟨hz, h1⟩ => ⟨hz, fun p hp => q _ _ _ (j1.alloc hp) (h1 p _ (j1.free hp) (Ex.new (j1.free hp)) upd_same)⟩
theorem am_nil {QA : List V → Hp → Prop} (k : QA [] G) : AM U tNil σ G QA := fun H j _ q => q _ H G j k
theorem am_cons {tr : TA} {QA : List V → Hp → Prop} (h : EM U ta σ G fun x G1 => AM U tr σ G1 fun vs G2 => QA (x :: vs) G2) : AM U (tCons ta tr) σ G QA := fun H j QH q =>
  h H j _ fun x H1 G1 j1 h1 => h1 H1 j1 _ fun vs H2 G2 j2 h2 => q _ _ _ j2 h2
theorem am_star {tr : TA} {QA : List V → Hp → Prop} (h : EM U ta σ G fun x G1 => ∃ p xs, x = V.ref p ∧ (SqT K G1 p xs ∨ SqL K G1 p xs) ∧ AM U tr σ G1 fun vs G2 => QA (xs ++ vs) G2) : AM U (tStar K ta tr) σ G QA := fun H j QH q =>
  h H j _ fun x H1 G1 j1 ⟨p, xs, e, s, h1⟩ => ⟨p, xs, e, s.elim (fun s => .inl (ex_t j1.up s)) (fun s => .inr (ex_l j1.up s)), h1 H1 j1 _ fun vs H2 G2 j2 h2 => q _ _ _ j2 h2⟩
theorem em_cb {rc : List V → Hp → VK → Prop} {tas : TA} (h : AM U tas σ G fun vs G1 => RM U (rc vs) G1 Q) : EM U (tCB rc tas) σ G Q := fun H j QH q => h H j _ fun vs H1 G1 j1 h1 => h1 H1 j1 QH q
def IV (x : V) (P : Int → Prop) : Prop := ∃ i : Int, x = .int i ∧ P i
theorem iv {i : Int} {P : Int → Prop} (h : P i) : IV (.int i) P := ⟨i, rfl, h⟩
theorem em_bits (h : EM U ta σ G fun x G1 => IV x fun i => Q (.int (Builtin.Int.intBits i : Nat)) G1) : EM U (tBits ta) σ G Q := fun H j QH q => h H j _ fun x H1 G1 j1 ⟨i, e, h1⟩ => ⟨i, e, q _ _ _ j1 h1⟩
theorem em_call {sp : Sp} {E : XK} {tas : TA} (h : AM U tas σ G fun vs G1 => CM U sp vs G1 Q) : EM U (tCall sp [] E tas) σ G Q := fun H j QH q => h H j _ fun vs H1 G1 j1 h1 => by
  show sp (vs ++ []) H1 QH E
  rw [List.append_nil]
  exact h1 H1 j1 QH q E
/-- a method of the instance at a; a field -/
def FM (K : PySem.W.Frag) (f : Str) (x : V) (G : Hp) (Q : VK) : Prop := ∃ a C dx fs v, x = .ref a ∧ G a = some (.ins C dx fs) ∧ Cls K C ∧ NoAttr K C f ∧ fs.lookup f = some v ∧ Q v G
theorem fm {C a dx : Addr} {fs : List (Str × V)} {f : Str} (h : G a = some (.ins C dx fs)) (c : Cls K C) (n : NoAttr K C f) (l : fs.lookup f = some v) (k : Q v G) : FM K f (.ref a) G Q := ⟨a, C, dx, fs, v, rfl, h, c, n, l, k⟩
theorem em_fld {f : Str} (h : EM U ta σ G fun x G1 => FM K f x G1 Q) : EM U (tFld K ta f) σ G Q := fun H j QH q =>
  h H j _ fun x H1 G1 j1 ⟨a, C, dx, fs, v, e, g, c, n, l, h1⟩ => ⟨a, C, dx, fs, v, e, j1.up _ _ g, c, n, l, q _ _ _ j1 h1⟩
def MM (C : Addr) (m : Str) (x : V) (G : Hp) (k : Prop) : Prop := ∃ a dx fs, x = V.ref a ∧ G a = some (.ins C dx fs) ∧ fs.lookup m = none ∧ k
theorem mm {C a dx : Addr} {fs : List (Str × V)} {m : Str} {k : Prop} (h : G a = some (.ins C dx fs)) (l : fs.lookup m = none) (q : k) : MM C m (.ref a) G k := ⟨a, dx, fs, rfl, h, l, q⟩
theorem em_meth {C : Addr} {m : Str} {sp : Sp} {E : XK} {tas : TA} (h : EM U ta σ G fun x G1 => MM C m x G1 (AM U tas σ G1 fun vs G2 => CM U sp (x :: vs) G2 Q)) : EM U (tMeth C m sp [] E ta tas) σ G Q := fun H j QH q =>
  h H j _ fun x H1 G1 j1 ⟨a, dx, fs, e, g, l, h1⟩ => ⟨a, dx, fs, e, j1.up _ _ g, l, h1 H1 j1 _ fun vs H2 G2 j2 h2 => by
    show sp (x :: (vs ++ [])) H2 QH E
    rw [List.append_nil]
    exact h2 H2 j2 QH q E⟩
/-! ### promises that keep what stood -/
def spP (pre : List V → Hp → Prop) (post : List V → Hp → V → Hp → Prop) : Sp := fun vs H Q _ => ∃ G, Ex G H ∧ pre vs G ∧ ∀ v H' G', Ex H H' → Ex G G' → Ex G' H' → (∀ a, G' a ≠ none → G a = none → H a = none) → post vs G v G' → Q v H'
theorem cm_p {pre : List V → Hp → Prop} {post : List V → Hp → V → Hp → Prop} {vs : List V} (h : pre vs G) (k : ∀ v G', Ex G G' → post vs G v G' → Q v G') : CM U (spP pre post) vs G Q := fun H j QH q E =>
  ⟨G, j.up, h, fun v H' G' e1 e2 e3 n p => q v H' G' (j.call e1 e3 n) (k v G' e2 p)⟩
/-- at a def's end -/
theorem kv_ret {p : V → Hp → Prop} {H0 G0 : Hp} (k : ∀ v H' G', Ex H0 H' → Ex G0 G' → Ex G' H' → (∀ a, G' a ≠ none → G0 a = none → H0 a = none) → p v G' → Q v H') (e : Ex G0 G) (h : p v G) : KV (V0 H0 G0) Q v G :=
  fun H j => k v H G j.keep e j.up j.new h
/-! ### tests -/
theorem tm_test (h : EM U te σ G fun x G1 => BV x fun k => QT k G1) : TM U (tTest te) σ G QT := fun H j QH q => h H j _ fun x H1 G1 j1 ⟨k, e, h1⟩ => ⟨k, e, q _ _ _ j1 h1⟩
theorem tm_B (h : EM U te σ G fun x G1 => BV x fun k => QT k G1) : TM U (tB te) σ G QT := fun H j QH q => h H j _ fun x H1 G1 j1 ⟨k, e, h1⟩ => ⟨k, e, q _ _ _ j1 h1⟩
theorem tm_and (h : TM U t σ G fun c G1 => if c = true then TM U u σ G1 QT else QT false G1) : TM U (tAnd t u) σ G QT := fun H j QH q => h H j _ fun c H1 G1 j1 h1 => by
  cases c with
  | true => rw [if_pos rfl] at h1 ⊢; exact h1 H1 j1 QH q
  | false => rw [if_neg Bool.false_ne_true] at h1 ⊢; exact q _ _ _ j1 h1
theorem tm_or (h : TM U t σ G fun c G1 => if c = true then QT true G1 else TM U u σ G1 QT) : TM U (tOr t u) σ G QT := fun H j QH q => h H j _ fun c H1 G1 j1 h1 => by
  cases c with
  | true => rw [if_pos rfl] at h1 ⊢; exact q _ _ _ j1 h1
  | false => rw [if_neg Bool.false_ne_true] at h1 ⊢; exact h1 H1 j1 QH q
theorem tm_not (h : TM U t σ G fun c G1 => QT (!c) G1) : TM U (tNot t) σ G QT := fun H j QH q => h H j _ fun c H1 G1 j1 h1 => q _ _ _ j1 h1
theorem tm_yes (k : QT true G) : TM U tYes σ G QT := fun H j QH q => q _ _ _ j k
/-! ### statements -/
variable {D : Ends} {t1 t2 ts : TS} {g : TG}
theorem gm_name {i : Nat} {QG : L2.St → Hp → Prop} (k : QG (σ.set i (some v)) G) : GM U (gName i) v σ G QG := fun H j QH q => q _ _ _ j k
theorem sm_seq (h : SM U t1 ⟨t2 D, D.rt, D.bk, D.ct⟩ σ G) : SM U (tSeq t1 t2) D σ G := h
theorem km_next (h : SM U ts D σ G) {r : VK} {b c : L2.St → Hp → Prop} : KM U (Ends.nx ⟨ts D, r, b, c⟩) σ G := h
theorem kv_rt {rt : VK} (h : KV U rt v G) {n b c : L2.St → Hp → Prop} : KV U (Ends.rt ⟨n, rt, b, c⟩) v G := h
theorem sm_next (h : KM U D.nx σ G) : SM U tNext D σ G := h
theorem sm_brk (h : KM U D.bk σ G) : SM U tBreak D σ G := h
theorem sm_cont (h : KM U D.ct σ G) : SM U tCont D σ G := h
theorem sm_asg (h : EM U te σ G fun v G1 => GM U g v σ G1 fun σ' G2 => KM U D.nx σ' G2) : SM U (tAsg te g) D σ G := fun H j => h H j _ fun v H1 G1 j1 h1 => h1 H1 j1 _ fun σ' H2 G2 j2 h2 => h2 H2 j2
theorem sm_drop (h : EM U te σ G fun _ G1 => KM U D.nx σ G1) : SM U (tDrop te) D σ G := fun H j => h H j _ fun v H1 G1 j1 h1 => h1 H1 j1
theorem sm_ret (h : EM U te σ G fun v G1 => KV U D.rt v G1) : SM U (tRet te) D σ G := fun H j => h H j _ fun v H1 G1 j1 h1 => h1 H1 j1
theorem sm_retN (h : KV U D.rt .non G) : SM U tRetN D σ G := fun H j => h H j
theorem sm_if (h : TM U t σ G fun c G1 => if c = true then SM U t1 D σ G1 else SM U t2 D σ G1) : SM U (tIfS t t1 t2) D σ G := fun H j => h H j _ fun c H1 G1 j1 h1 => by
  cases c with
  | true => rw [if_pos rfl] at h1 ⊢; exact h1 H1 j1
  | false => rw [if_neg Bool.false_ne_true] at h1 ⊢; exact h1 H1 j1
/-- xs.append(e) of a visible list of its own -/
theorem em_append {l : Addr} {xs : List V} (h : EM U ta σ G fun x G1 => x = .ref l ∧ G1 l = some (.lst xs) ∧ EM U te σ G1 fun y G2 => G2 l = some (.lst xs) ∧ U.Ge l = none ∧ xs.length < sizeLine ∧ Q .non (upd G2 l (.lst (xs ++ [y])))) : EM U (tBM K "list" rAppend ta (tCons te tNil)) σ G Q := fun H j QH q =>
  h H j _ fun x H1 G1 j1 ⟨e, g1, h1⟩ => by
    subst e
    exact ⟨.inl ⟨rfl, xs, SqL.of (j1.up _ _ g1)⟩, h1 H1 j1 _ fun y H2 G2 j2 ⟨g2, ge, hz, h2⟩ => ⟨l, xs, y, rfl, rfl, j2.up _ _ g2, hz, q _ _ _ (j2.write g2 ge) h2⟩⟩
/-! ### loops -/
def KJ (U : Vx) (P : L2.St → Hp → Prop) : L2.St → Hp → Prop := fun σ H => ∃ G, J U H G ∧ P σ G
theorem km_kj {P : L2.St → Hp → Prop} (h : P σ G) {r : VK} {b c : L2.St → Hp → Prop} : KM U (Ends.nx ⟨KJ U P, r, b, c⟩) σ G := fun _ j => ⟨G, j, h⟩
theorem km_kc {P : L2.St → Hp → Prop} (h : P σ G) {r : VK} {b n : L2.St → Hp → Prop} : KM U (Ends.ct ⟨n, r, b, KJ U P⟩) σ G := fun _ j => ⟨G, j, h⟩
theorem km_bk {P : L2.St → Hp → Prop} (h : KM U P σ G) {r : VK} {c n : L2.St → Hp → Prop} : KM U (Ends.bk ⟨n, r, P, c⟩) σ G := h
theorem sm_forL {tl : TE} (h : EM U tl σ G fun v G1 => ∃ a xs, v = .ref a ∧ SqL K G1 a xs ∧ ∃ P : Nat → L2.St → Hp → Prop, P 0 σ G1 ∧ (∀ i σ' G', i ≤ xs.length → P i σ' G' → SqL K G' a xs) ∧
    (∀ i x σ' G', xs[i]? = some x → P i σ' G' → GM U g x σ' G' fun σ2 G2 => SM U ts ⟨KJ U (P (i + 1)), D.rt, D.nx, KJ U (P (i + 1))⟩ σ2 G2) ∧ (∀ σ' G', P xs.length σ' G' → KM U D.nx σ' G')) : SM U (tFor (iList K tl) g ts) D σ G := fun H j =>
  h H j _ fun v H1 G1 j1 ⟨a, xs, e, hx, P, h0, hl, hs, hd⟩ => ⟨a, e, ⟨xs, ex_l j1.up hx⟩, for_list (fun i => KJ U (P i)) ⟨G1, j1, h0⟩ (fun i σ' H' hi ⟨G', j', p⟩ => ex_l j'.up (hl i σ' G' hi p))
    (fun i x σ' H' hi ⟨G', j', p⟩ => hs i x σ' G' hi p H' j' _ fun σ2 H2 G2 j2 h2 => h2 H2 j2) (fun σ' H' ⟨G', j', p⟩ => hd σ' G' p H' j')⟩
theorem sm_forT {tl : TE} (h : EM U tl σ G fun v G1 => ∃ a xs, v = .ref a ∧ SqT K G1 a xs ∧ ∃ P : Nat → L2.St → Hp → Prop, P 0 σ G1 ∧ (∀ i σ' G', i ≤ xs.length → P i σ' G' → SqT K G' a xs) ∧
    (∀ i x σ' G', xs[i]? = some x → P i σ' G' → GM U g x σ' G' fun σ2 G2 => SM U ts ⟨KJ U (P (i + 1)), D.rt, D.nx, KJ U (P (i + 1))⟩ σ2 G2) ∧ (∀ σ' G', P xs.length σ' G' → KM U D.nx σ' G')) : SM U (tFor (iTup K tl) g ts) D σ G := fun H j =>
  h H j _ fun v H1 G1 j1 ⟨a, xs, e, hx, P, h0, hl, hs, hd⟩ => ⟨a, e, ⟨xs, ex_t j1.up hx⟩, for_tup (fun i => KJ U (P i)) ⟨G1, j1, h0⟩ (fun i σ' H' hi ⟨G', j', p⟩ => ex_t j'.up (hl i σ' G' hi p))
    (fun i x σ' H' hi ⟨G', j', p⟩ => hs i x σ' G' hi p H' j' _ fun σ2 H2 G2 j2 h2 => h2 H2 j2) (fun σ' H' ⟨G', j', p⟩ => hd σ' G' p H' j')⟩
theorem sm_forR1 {ta : TA} {i0 : Nat} (h : AM U ta σ G fun vs G1 => ∃ n : Int, vs = [.int n] ∧ -(2 ^ 62) ≤ n ∧ n < 2 ^ 62 ∧ ∃ P : Nat → L2.St → Hp → Prop, P 0 σ G1 ∧
    (∀ (i : Nat) σ' G', (i : Int) < n → P i σ' G' → SM U ts ⟨KJ U (P (i + 1)), D.rt, D.nx, KJ U (P (i + 1))⟩ (σ'.set i0 (some (.int (i : Int)))) G') ∧ (∀ σ' G', P n.toNat σ' G' → KM U D.nx σ' G')) : SM U (tFor (iRng1 ta) (gName i0) ts) D σ G := fun H j =>
  h H j _ fun vs H1 G1 j1 ⟨n, e, b1, b2, P, h0, hs, hd⟩ => ⟨n, e, b1, b2, for_range (lo := 0) (n := n.toNat) (fun i => KJ U (P i)) ⟨G1, j1, h0⟩
    (fun i σ' H' hi ⟨G', j', p⟩ => by
      have e0 : (0 : Int) + (i : Int) = (i : Int) := Int.zero_add _
      show ts ⟨KJ U (P (i + 1)), D.rt, D.nx, KJ U (P (i + 1))⟩ (σ'.set i0 (some (.int ((0 : Int) + (i : Int))))) H'
      rw [e0]
      exact hs i σ' G' (by omega) p H' j') (fun σ' H' ⟨G', j', p⟩ => hd σ' G' p H' j')⟩
theorem sm_forR2 {ta : TA} {i0 : Nat} (h : AM U ta σ G fun vs G1 => ∃ lo n : Int, vs = [.int lo, .int n] ∧ (-(2 ^ 62) ≤ lo ∧ lo < 2 ^ 62 ∧ -(2 ^ 62) ≤ n ∧ n < 2 ^ 62) ∧ ∃ P : Nat → L2.St → Hp → Prop, P 0 σ G1 ∧
    (∀ (i : Nat) σ' G', lo + (i : Int) < n → P i σ' G' → SM U ts ⟨KJ U (P (i + 1)), D.rt, D.nx, KJ U (P (i + 1))⟩ (σ'.set i0 (some (.int (lo + (i : Int))))) G') ∧ (∀ σ' G', P (n - lo).toNat σ' G' → KM U D.nx σ' G')) : SM U (tFor (iRng2 ta) (gName i0) ts) D σ G := fun H j =>
  h H j _ fun vs H1 G1 j1 ⟨lo, n, e, b, P, h0, hs, hd⟩ => ⟨lo, n, e, b, for_range (lo := lo) (n := (n - lo).toNat) (fun i => KJ U (P i)) ⟨G1, j1, h0⟩
    (fun i σ' H' hi ⟨G', j', p⟩ => hs i σ' G' (by omega) p H' j') (fun σ' H' ⟨G', j', p⟩ => hd σ' G' p H' j')⟩
theorem sm_while (W : Nat → L2.St → Hp → Prop) (m0 : Nat) (h0 : W m0 σ G)
    (hs : ∀ m σ' G', W m σ' G' → TM U t σ' G' fun b G1 => if b = true then SM U ts ⟨KJ U (fun σ2 G2 => ∃ m', m' < m ∧ W m' σ2 G2), D.rt, D.nx, KJ U (fun σ2 G2 => ∃ m', m' < m ∧ W m' σ2 G2)⟩ σ' G1 else KM U D.nx σ' G1) : SM U (tWhile t ts) D σ G := fun H j =>
  ⟨fun m => KJ U (W m), ⟨m0, G, j, h0⟩, fun m σ' H' ⟨G', j', w⟩ => hs m σ' G' w H' j' _ fun b H1 G1 j1 h1 => by
    cases b with
    | true =>
      rw [if_pos rfl] at h1 ⊢
      exact ⟨KJ U (fun σ2 G2 => ∃ m', m' < m ∧ W m' σ2 G2), fun σ2 H2 ⟨G2, j2, m', hm, w'⟩ => ⟨m', hm, G2, j2, w'⟩, h1 H1 j1⟩
    | false => rw [if_neg Bool.false_ne_true] at h1 ⊢; exact h1 H1 j1⟩
/-! ### comprehensions -/
theorem em_lcR1 {ta : TA} {i0 : Nat} {vs : List Nat} (h : AM U ta σ G fun ws G1 => ∃ n : Int, ws = [.int n] ∧ 0 ≤ n ∧ n ≤ 16000000 ∧ (∀ x, wipe ((wipe σ vs).set i0 (some x)) vs = wipe σ vs) ∧ ∃ P : Nat → List V → Hp → Prop, P 0 [] G1 ∧ (∀ i acc G', P i acc G' → acc.length ≤ i) ∧
    (∀ (i : Nat) acc G' (D : Addr) (U' : Vx), U' = U.hide D (.lst acc) → ¬ U.m D → (i : Int) < n → P i acc G' → TM U' tt ((wipe σ vs).set i0 (some (.int (i : Int)))) G' fun b G2 => if b = true then EM U' te ((wipe σ vs).set i0 (some (.int (i : Int)))) G2 fun y G3 => P (i + 1) (acc ++ [y]) G3 else P (i + 1) acc G2) ∧
    (∀ acc D G' G'', P n.toNat acc G' → Ex G' G'' → G' D = none → G'' D = some (.lst acc) → Q (.ref D) G'')) : EM U (tLc (iRng1 ta) (gName i0) tt te vs) σ G Q := fun H j QH q =>
  h H j _ fun ws H1 G1 j1 ⟨n, e, b1, b2, hw, P, h0, hz, hs, hd⟩ => ⟨n, e, by omega, by omega, fun D hD => by
    have nm : ¬ U.m D := fun z => (j1.msk D z).2 hD
    have nh : U.He D = none := none_of_ex j1.keep hD
    refine lc_range (lo := 0) (n := n.toNat) (fun i H' => ∃ acc G', J (U.hide D (.lst acc)) H' G' ∧ P i acc G') ⟨[], G1, ?_, h0⟩ (fun i H' hi ⟨acc, G', j', p⟩ => ?_) (fun H' ⟨acc, G', j', p⟩ => ?_)
    · have ja := j1.alloc (o := .lst []) hD
      refine ⟨fun a u e => ?_, ja.keep, j1.new, ⟨ja.hid, upd_same⟩, fun a ma => ?_⟩
      · rw [upd_ne (fun z => by subst z; rw [j1.free hD] at e; cases e)]; exact j1.up a u e
      · rcases ma with ma | rfl
        · obtain ⟨q1, q2⟩ := j1.msk a ma
          refine ⟨q1, ?_⟩
          rw [upd_ne (fun z => by subst z; exact q2 hD)]; exact q2
        · exact ⟨j1.free hD, by rw [upd_same]; exact fun q => by cases q⟩
    · have e0 : (0 : Int) + (i : Int) = (i : Int) := Int.zero_add _
      show wipe ((wipe σ vs).set i0 (some (.int ((0 : Int) + (i : Int))))) vs = wipe σ vs ∧ tt ((wipe σ vs).set i0 (some (.int ((0 : Int) + (i : Int))))) H' fun b H3 => if b = true then te ((wipe σ vs).set i0 (some (.int ((0 : Int) + (i : Int))))) H3 fun y H4 => ∃ acc, H4 D = some (.lst acc) ∧ acc.length < sizeLine ∧ ∃ acc' G', J (U.hide D (.lst acc')) (upd H4 D (.lst (acc ++ [y]))) G' ∧ P (i + 1) acc' G' else ∃ acc' G', J (U.hide D (.lst acc')) H3 G' ∧ P (i + 1) acc' G'
      rw [e0]
      refine ⟨hw _, hs i acc G' D _ rfl nm (by omega) p H' j' _ fun b H3 G3 j3 h3 => ?_⟩
      cases b with
      | true =>
        rw [if_pos rfl] at h3 ⊢
        refine h3 H3 j3 _ fun y H4 G4 j4 h4 => ⟨acc, j4.hid.2, ?_, acc ++ [y], G4, j4.rehide nm nh, h4⟩
        have := hz i acc G' p
        exact Nat.lt_of_le_of_lt this (Nat.lt_of_lt_of_le (show i < 16000000 by omega) (by decide))
      | false =>
        rw [if_neg Bool.false_ne_true] at h3 ⊢
        exact ⟨acc, G3, j3, h3⟩
    · have gd : G' D = none := (j'.msk D (.inr rfl)).1
      exact q _ _ _ (j'.unhide nm nh) (hd acc D G' _ p (Ex.new gd) gd upd_same)⟩
end
/-! ### built-ins by named readings -/
section
variable {X : Cx}
def rLenQ (K : PySem.W.Frag) : List V → Hp → VK → Prop := fun xs H Q => ∃ p ys, xs = [.ref p] ∧ (SqL K H p ys ∨ SqT K H p ys) ∧ Q (.int ys.length) H
def rIntQ : List V → Hp → VK → Prop := fun xs H Q => (∃ i, xs = [.int i] ∧ Q (.int i) H) ∨ ∃ k, xs = [.bl k] ∧ Q (.int (if k then 1 else 0)) H
def rMaxQ : List V → Hp → VK → Prop := fun xs H Q => ∃ i j, xs = [.int i, .int j] ∧ Q (.int (if j > i then j else i)) H
def rMinQ : List V → Hp → VK → Prop := fun xs H Q => ∃ i j, xs = [.int i, .int j] ∧ Q (.int (if j < i then j else i)) H
def rListQ (K : PySem.W.Frag) : List V → Hp → VK → Prop := fun xs H Q => ∃ p ys, xs = [.ref p] ∧ (SqL K H p ys ∨ SqT K H p ys) ∧ ∀ l, H l = none → Q (.ref l) (upd H l (.lst ys))
def rTupQ (K : PySem.W.Frag) : List V → Hp → VK → Prop := fun xs H Q => ∃ p ys, xs = [.ref p] ∧ ((SqL K H p ys ∧ ∀ l, H l = none → Q (.ref l) (upd H l (.tup ys))) ∨ (SqT K H p ys ∧ Q (.ref p) H))
theorem cq_len : CallR X (.builtin "len") (rLenQ X.K) := call_len_seq
theorem cq_int : CallR X (.type "int") rIntQ := call_int1
theorem cq_max (hc : X.calm = true := by rfl) : CallR X (.builtin "max") rMaxQ := call_max2 hc
theorem cq_min (hc : X.calm = true := by rfl) : CallR X (.builtin "min") rMinQ := call_min2 hc
theorem cq_list : CallR X (.type "list") (rListQ X.K) := call_list_of
theorem cq_tuple : CallR X (.type "tuple") (rTupQ X.K) := call_tuple_of
end
section
variable {U : Vx} {σ : L2.St} {G : Hp} {Q : VK} {K : PySem.W.Frag}
theorem rm_lenL {p : Addr} {ys : List V} (h : SqL K G p ys) (k : Q (.int ys.length) G) : RM U (rLenQ K [.ref p]) G Q := fun H j _ q => ⟨p, ys, rfl, .inl (ex_l j.up h), q _ H G j k⟩
theorem rm_lenT {p : Addr} {ys : List V} (h : SqT K G p ys) (k : Q (.int ys.length) G) : RM U (rLenQ K [.ref p]) G Q := fun H j _ q => ⟨p, ys, rfl, .inr (ex_t j.up h), q _ H G j k⟩
theorem rm_int {i : Int} (k : Q (.int i) G) : RM U (rIntQ [.int i]) G Q := fun H j _ q => .inl ⟨i, rfl, q _ H G j k⟩
theorem rm_max {i l : Int} (k : Q (.int (if l > i then l else i)) G) : RM U (rMaxQ [.int i, .int l]) G Q := fun H j _ q => ⟨i, l, rfl, q _ H G j k⟩
theorem rm_min {i l : Int} (k : Q (.int (if l < i then l else i)) G) : RM U (rMinQ [.int i, .int l]) G Q := fun H j _ q => ⟨i, l, rfl, q _ H G j k⟩
theorem rm_list {p : Addr} {ys : List V} (h : SqL K G p ys ∨ SqT K G p ys) (k : ∀ l G', G l = none → Ex G G' → G' l = some (.lst ys) → Q (.ref l) G') : RM U (rListQ K [.ref p]) G Q := fun H j _ q => ⟨p, ys, rfl, h.elim (fun h => .inl (ex_l j.up h)) (fun h => .inr (ex_t j.up h)), fun l hl => q _ _ _ (j.alloc hl) (k l _ (j.free hl) (Ex.new (j.free hl)) upd_same)⟩
theorem rm_tupL {p : Addr} {ys : List V} (h : SqL K G p ys) (k : ∀ l G', G l = none → Ex G G' → G' l = some (.tup ys) → Q (.ref l) G') : RM U (rTupQ K [.ref p]) G Q := fun H j _ q => ⟨p, ys, rfl, .inl ⟨ex_l j.up h, fun l hl => q _ _ _ (j.alloc hl) (k l _ (j.free hl) (Ex.new (j.free hl)) upd_same)⟩⟩
theorem rm_tupT {p : Addr} {ys : List V} (h : SqT K G p ys) (k : Q (.ref p) G) : RM U (rTupQ K [.ref p]) G Q := fun H j _ q => ⟨p, ys, rfl, .inr ⟨ex_t j.up h, q _ _ _ j k⟩⟩
theorem rm_sum {a : Addr} {ns : List Int} (h : SqL K G a (ns.map V.int)) (k : Q (.int ns.sum) G) : RM U (rSum K [.ref a]) G Q := fun H j _ q => ⟨a, ns, rfl, ex_l j.up h, q _ H G j k⟩
theorem rm_all {a : Addr} {bs : List Bool} (h : SqL K G a (bs.map V.bl)) (k : Q (.bl (bs.all id)) G) : RM U (rAll K [.ref a]) G Q := fun H j _ q => ⟨a, bs, rfl, ex_l j.up h, q _ H G j k⟩
theorem rm_any {a : Addr} {bs : List Bool} (h : SqL K G a (bs.map V.bl)) (k : Q (.bl (bs.any id)) G) : RM U (rAny K [.ref a]) G Q := fun H j _ q => ⟨a, bs, rfl, ex_l j.up h, q _ H G j k⟩
theorem rm_isB {a b : Bool} (k : Q (.bl (decide (a = b))) G) : RM U (rIsB (.bl a) (.bl b)) G Q := fun H j _ q => ⟨a, b, rfl, rfl, q _ H G j k⟩
theorem rm_notB {a b : Bool} (k : Q (.bl (!decide (a = b))) G) : RM U (rNotB (.bl a) (.bl b)) G Q := fun H j _ q => ⟨a, b, rfl, rfl, q _ H G j k⟩
/-- isinstance(n, int), isinstance(n, bool) of an int -/
theorem rm_isiI {i : Int} (k : Q (.bl true) G) : RM U (rIsi K [.int i, .ty "int"]) G Q := fun H j _ q => ⟨.int i, .ty "int", .type "int", .type "int", true, rfl, .ty "int", .base (by constructor), kit_ty (by decide +kernel), q _ H G j k⟩
theorem rm_isiB {i : Int} (k : Q (.bl false) G) : RM U (rIsi K [.int i, .ty "bool"]) G Q := fun H j _ q => ⟨.int i, .ty "bool", .type "int", .type "bool", false, rfl, .ty "bool", .base (by constructor), kit_ty (by decide +kernel), q _ H G j k⟩
end
/-! ### defs and methods of the text -/
structure Def (K : PySem.W.Frag) (mg : Str → Option Value) (x qual : Str) (st : Stmt) (ps : List Str) (f : Addr) (fd : FuncData) : Prop where
  F : FunD K x qual (defArgs st) (defBody st) (defScope st) [] [] f fd
  g : mg x = some (.ref f)
  b : Binds K fd ps []
structure MDef (K : PySem.W.Frag) (mg : Str → Option Value) (x qual : Str) (st : Stmt) (ps : List Str) (f : Addr) (fd : FuncData) : Prop where
  F : FunD K x qual (defArgs st) (defBody st) (defScope st) [] [] f fd
  b : Binds K fd ps []
/-! ### the law's draws: a list of two ints that is hidden -/
def wo (st : Addr) (G : Hp) : Hp := fun a => if a = st then none else G a
theorem wo_same {st : Addr} {G : Hp} : wo st G st = none := by unfold wo; rw [if_pos rfl]
theorem wo_ne {st a : Addr} {G : Hp} (h : a ≠ st) : wo st G a = G a := by unfold wo; rw [if_neg h]
def spDraw (K : PySem.W.Frag) : Sp := fun vs H Q _ => ∃ (st sc : Addr) (ns : List Int) (a b sz : Int), vs = [.ref st, .ref sc, .int sz] ∧ H st = some (.lst [.int a, .int b]) ∧ 0 ≤ a ∧ 0 ≤ b ∧ SqL K (wo st H) sc (ns.map V.int) ∧ 0 < sz ∧ sz.natAbs.log2 < 9000 ∧
  ∀ (d a' b' : Int) (H' : Hp), 0 ≤ d → d < sz → 0 ≤ a' → 0 ≤ b' → (∀ x o, x ≠ st → H x = some o → H' x = some o) → H' st = some (.lst [.int a', .int b']) → Q (.int d) H'
def StAt (H : Hp) (st : Addr) : Prop := ∃ a b : Int, H st = some (.lst [.int a, .int b]) ∧ 0 ≤ a ∧ 0 ≤ b
structure DrawOk (U : Vx) (st : Addr) : Prop where
  m : U.m st
  ne : U.He st = none
  at_ : ∀ H, U.I H → StAt H st
  to : ∀ H H', U.I H → (∀ x, U.m x → x ≠ st → H' x = H x) → StAt H' st → U.I H'
theorem DrawOk.hide {U : Vx} {st D : Addr} {o : HO} (d : DrawOk U st) (h : ¬ U.m D) : DrawOk (U.hide D o) st where
  m := .inl d.m
  ne := d.ne
  at_ := fun H i => d.at_ H i.1
  to := fun H H' i e s => ⟨d.to H H' i.1 (fun x mx nx => e x (.inl mx) nx) s, by
    rw [e D (.inr rfl) (fun z => by subst z; exact h d.m)]; exact i.2⟩
section
variable {U : Vx} {σ : L2.St} {G : Hp} {Q : VK} {K : PySem.W.Frag}
theorem cm_draw {st sc : Addr} {ns : List Int} {sz : Int} (d : DrawOk U st) (h : SqL K G sc (ns.map V.int)) (h0 : 0 < sz) (hz : sz.natAbs.log2 < 9000) (k : ∀ n : Int, 0 ≤ n → n < sz → Q (.int n) G) : CM U (spDraw K) [.ref st, .ref sc, .int sz] G Q := fun H j QH q E => by
  obtain ⟨a, b, e, ha, hb⟩ := d.at_ H j.hid
  refine ⟨st, sc, ns, a, b, sz, rfl, e, ha, hb, ex_l (H := G) (fun x o ex => by
    have nx : x ≠ st := fun z => by subst z; rw [(j.msk x d.m).1] at ex; cases ex
    rw [wo_ne nx]; exact j.up x o ex) h, h0, hz, fun n a' b' H' n0 n1 ha' hb' hx he => q _ H' G ?_ (k n n0 n1)⟩
  have gs := (j.msk st d.m).1
  exact {
    up := fun x o ex => hx x o (fun z => by subst z; rw [gs] at ex; cases ex) (j.up x o ex)
    keep := fun x o ex => hx x o (fun z => by subst z; rw [d.ne] at ex; cases ex) (j.keep x o ex)
    new := j.new
    hid := d.to H H' j.hid (fun x mx nx => by
      cases z : H x with
      | none => exact absurd z (j.msk x mx).2
      | some o => exact hx x o nx z) ⟨a', b', he, ha', hb'⟩
    msk := fun x mx => ⟨(j.msk x mx).1, by
      by_cases nx : x = st
      · subst nx; rw [he]; exact fun q => by cases q
      · cases z : H x with
        | none => exact absurd z (j.msk x mx).2
        | some o => rw [hx x o nx z]; exact fun q => by cases q⟩ }
end
/-- the law's own view: its script shown, the draws' list hidden -/
def V1 (H G : Hp) (st : Addr) : Vx := ⟨H, G, fun H' => StAt H' st, fun a => a = st, fun H1 H2 ⟨a, b, e, h⟩ k => ⟨a, b, by rw [k st rfl]; exact e, h⟩⟩
theorem V1.draw {H G : Hp} {st : Addr} (h : H st = none) : DrawOk (V1 H G st) st := ⟨rfl, h, fun _ i => i, fun _ _ _ _ s => s⟩
theorem J.draws {H0 G0 H G : Hp} {st : Addr} (j : J (V0 H0 G0) H G) (h : H st = some (.lst [.int 0, .int 0])) : J (V1 H0 G0 st) H (wo st G) where
  up := fun a o e => by
    by_cases z : a = st
    · rw [z, wo_same] at e; cases e
    · rw [wo_ne z] at e; exact j.up a o e
  keep := j.keep
  new := fun a q gg => by
    by_cases z : a = st
    · rw [z, wo_same] at q; exact absurd rfl q
    · rw [wo_ne z] at q; exact j.new a q gg
  hid := ⟨0, 0, h, Int.le_refl 0, Int.le_refl 0⟩
  msk := fun a z => by
    have z' : a = st := z
    subst z'
    exact ⟨wo_same, by rw [h]; exact fun q => by cases q⟩
/-- from the statement that makes the draws' list on: the rest under the view V1 -/
theorem sm_draws {H0 G0 G : Hp} {t : TS} {D : Ends} {σ : L2.St} {st : Addr} (h : G st = some (.lst [.int 0, .int 0])) (g : G0 st = none) (k : ∀ G1, (∀ a o, a ≠ st → G a = some o → G1 a = some o) → H0 st = none → G1 st = none → SM (V1 H0 G0 st) t D σ G1) : SM (V0 H0 G0) t D σ G := fun H j =>
  k (wo st G) (fun a o z e => by rw [wo_ne z]; exact e) (j.new st (by rw [h]; exact fun q => by cases q) g) wo_same H (j.draws (j.up _ _ h))
section
variable {U : Vx} {σ : L2.St} {G : Hp} {Q : VK} {K : PySem.W.Frag} {te : TE} {tt : TT}
/-- [e for i in range(n)], [.. if t]: a list whose items are told by the turn alone -/
theorem em_filtR1 {ta : TA} {i0 : Nat} {vs : List Nat} (f : Nat → Bool) (v : Nat → V) (h : AM U ta σ G fun ws G1 => ∃ n : Int, ws = [.int n] ∧ 0 ≤ n ∧ n ≤ 16000000 ∧ (∀ x, wipe ((wipe σ vs).set i0 (some x)) vs = wipe σ vs) ∧
    (∀ (i : Nat) G' (U' : Vx), Ex G1 G' → (i : Int) < n → TM U' tt ((wipe σ vs).set i0 (some (.int (i : Int)))) G' fun b G2 => b = f i ∧ Ex G' G2 ∧ (b = true → EM U' te ((wipe σ vs).set i0 (some (.int (i : Int)))) G2 fun y G3 => y = v i ∧ Ex G2 G3)) ∧
    (∀ D G'', Ex G1 G'' → G1 D = none → G'' D = some (.lst (given n.toNat f v)) → Q (.ref D) G'')) : EM U (tLc (iRng1 ta) (gName i0) tt te vs) σ G Q := by
  refine em_lcR1 (fun H j QH q => h H j QH fun ws H' G1 j1 ⟨n, e, b1, b2, hw, hs, hd⟩ => q ws H' G1 j1 ⟨n, e, b1, b2, hw, fun i acc G' => acc = given i f v ∧ Ex G1 G', ⟨rfl, Ex.refl G1⟩, fun i acc G' p => by rw [p.1]; exact given_len i f v, ?_, ?_⟩)
  · intro i acc G' D U' _ _ hi ⟨p1, p2⟩ H j QT qt
    refine hs i G' U' p2 hi H j _ fun b H1 G2 j1 ⟨hb, e1, k⟩ => qt b H1 G2 j1 ?_
    cases b with
    | true =>
      rw [if_pos rfl]
      intro H2 j2 QE qe
      refine k rfl H2 j2 _ fun y H3 G3 j3 ⟨hy, e3⟩ => qe y H3 G3 j3 ⟨?_, (p2.trans e1).trans e3⟩
      rw [given_yes hb.symm, p1, hy]
    | false =>
      rw [if_neg Bool.false_ne_true]
      refine ⟨?_, p2.trans e1⟩
      rw [given_no hb.symm, p1]
  · intro acc D G' G'' ⟨p1, p2⟩ e g1 g2
    refine hd D G'' (p2.trans e) (none_of_ex p2 g1) ?_
    rw [← p1]; exact g2
theorem given_all (n : Nat) (v : Nat → V) : given n (fun _ => true) v = (List.range n).map v := by
  unfold given
  rw [List.filter_eq_self.mpr (fun _ _ => rfl)]
theorem em_mapR1 {ta : TA} {i0 : Nat} {vs : List Nat} (v : Nat → V) (h : AM U ta σ G fun ws G1 => ∃ n : Int, ws = [.int n] ∧ 0 ≤ n ∧ n ≤ 16000000 ∧ (∀ x, wipe ((wipe σ vs).set i0 (some x)) vs = wipe σ vs) ∧
    (∀ (i : Nat) G' (U' : Vx), Ex G1 G' → (i : Int) < n → EM U' te ((wipe σ vs).set i0 (some (.int (i : Int)))) G' fun y G3 => y = v i ∧ Ex G' G3) ∧
    (∀ D G'', Ex G1 G'' → G1 D = none → G'' D = some (.lst ((List.range n.toNat).map v)) → Q (.ref D) G'')) : EM U (tLc (iRng1 ta) (gName i0) tYes te vs) σ G Q := by
  refine em_filtR1 (fun _ => true) v (fun H j QH q => h H j QH fun ws H' G1 j1 ⟨n, e, b1, b2, hw, hs, hd⟩ => q ws H' G1 j1 ⟨n, e, b1, b2, hw, fun i G' U' p hi => tm_yes ⟨rfl, Ex.refl G', fun _ => hs i G' U' p hi⟩, fun D G'' e1 g1 g2 => hd D G'' e1 g1 ?_⟩)
  rw [← given_all]; exact g2
/-- over a list that stands -/
theorem em_lcL {tl : TE} {g : TG} {vs : List Nat} (h : EM U tl σ G fun w G1 => ∃ a xs, w = .ref a ∧ SqL K G1 a xs ∧ xs.length < 16000000 ∧ ∃ P : Nat → List V → Hp → Prop, P 0 [] G1 ∧ (∀ i acc G', P i acc G' → acc.length ≤ i ∧ SqL K G' a xs) ∧
    (∀ (i : Nat) x acc G' (D : Addr) (U' : Vx), U' = U.hide D (.lst acc) → ¬ U.m D → xs[i]? = some x → P i acc G' → GM U' g x (wipe σ vs) G' fun σ2 G0 => wipe σ2 vs = wipe σ vs ∧ TM U' tt σ2 G0 fun b G2 => if b = true then EM U' te σ2 G2 fun y G3 => P (i + 1) (acc ++ [y]) G3 else P (i + 1) acc G2) ∧
    (∀ acc D G' G'', P xs.length acc G' → Ex G' G'' → G' D = none → G'' D = some (.lst acc) → Q (.ref D) G'')) : EM U (tLc (iList K tl) g tt te vs) σ G Q := fun H j QH q =>
  h H j _ fun w H1 G1 j1 ⟨a, xs, e, hx, hlen, P, h0, hz, hs, hd⟩ => ⟨a, e, ⟨xs, ex_l j1.up hx⟩, fun D hD => by
    have nm : ¬ U.m D := fun z => (j1.msk D z).2 hD
    have nh : U.He D = none := none_of_ex j1.keep hD
    refine lc_list (K := K) (a := a) (xs := xs) (fun i H' => i ≤ xs.length ∧ ∃ acc G', J (U.hide D (.lst acc)) H' G' ∧ P i acc G') ⟨Nat.zero_le _, [], G1, ?_, h0⟩ (fun i H' _ ⟨_, acc, G', j', p⟩ => ex_l j'.up (hz i acc G' p).2) (fun i x H' hi ⟨_, acc, G', j', p⟩ => ?_) (fun H' ⟨_, acc, G', j', p⟩ => ?_)
    · have ja := j1.alloc (o := .lst []) hD
      refine ⟨fun a u e => ?_, ja.keep, j1.new, ⟨ja.hid, upd_same⟩, fun a ma => ?_⟩
      · rw [upd_ne (fun z => by subst z; rw [j1.free hD] at e; cases e)]; exact j1.up a u e
      · rcases ma with ma | rfl
        · obtain ⟨q1, q2⟩ := j1.msk a ma
          refine ⟨q1, ?_⟩
          rw [upd_ne (fun z => by subst z; exact q2 hD)]; exact q2
        · exact ⟨j1.free hD, by rw [upd_same]; exact fun q => by cases q⟩
    · have hil : i < xs.length := (List.getElem?_eq_some_iff.mp hi).1
      refine hs i x acc G' D _ rfl nm hi p H' j' _ fun σ2 H2 G2 j2 ⟨w2, k2⟩ => ⟨w2, k2 H2 j2 _ fun b H3 G3 j3 h3 => ?_⟩
      cases b with
      | true =>
        rw [if_pos rfl] at h3 ⊢
        refine h3 H3 j3 _ fun y H4 G4 j4 h4 => ⟨acc, j4.hid.2, ?_, hil, acc ++ [y], G4, j4.rehide nm nh, h4⟩
        have := (hz i acc G' p).1
        exact Nat.lt_of_le_of_lt this (Nat.lt_of_lt_of_le (show i < 16000000 by omega) (by decide))
      | false =>
        rw [if_neg Bool.false_ne_true] at h3 ⊢
        exact ⟨hil, acc, G3, j3, h3⟩
    · have gd : G' D = none := (j'.msk D (.inr rfl)).1
      exact q _ _ _ (j'.unhide nm nh) (hd acc D G' _ p (Ex.new gd) gd upd_same)⟩
theorem em_mapL {tl : TE} {g : TG} {vs : List Nat} (v : V → V) (h : EM U tl σ G fun w G1 => ∃ a xs, w = .ref a ∧ SqL K G1 a xs ∧ xs.length < 16000000 ∧
    (∀ (i : Nat) x G' (U' : Vx), Ex G1 G' → xs[i]? = some x → GM U' g x (wipe σ vs) G' fun σ2 G2 => wipe σ2 vs = wipe σ vs ∧ Ex G' G2 ∧ EM U' te σ2 G2 fun y G3 => y = v x ∧ Ex G2 G3) ∧
    (∀ D G'', Ex G1 G'' → G1 D = none → G'' D = some (.lst (xs.map v)) → Q (.ref D) G'')) : EM U (tLc (iList K tl) g tYes te vs) σ G Q := by
  refine em_lcL (fun H j QH q => h H j QH fun w H' G1 j1 ⟨a, xs, e, hx, hlen, hs, hd⟩ => q w H' G1 j1 ⟨a, xs, e, hx, hlen, fun i acc G' => i ≤ xs.length ∧ acc = (xs.take i).map v ∧ Ex G1 G', ⟨Nat.zero_le _, rfl, Ex.refl G1⟩, fun i acc G' p => ⟨by rw [p.2.1, List.length_map, List.length_take]; omega, ex_l p.2.2 hx⟩, ?_, ?_⟩)
  · intro i x acc G' D U' _ _ hi ⟨p0, p1, p2⟩ H j QT qt
    have hil : i < xs.length := (List.getElem?_eq_some_iff.mp hi).1
    refine hs i x G' U' p2 hi H j _ fun σ2 H1 G2 j1 ⟨hw, e1, k⟩ => qt σ2 H1 G2 j1 ⟨hw, tm_yes ?_⟩
    rw [if_pos rfl]
    intro H2 j2 QE qe
    refine k H2 j2 _ fun y H3 G3 j3 ⟨hy, e3⟩ => qe y H3 G3 j3 ⟨hil, ?_, (p2.trans e1).trans e3⟩
    rw [p1, hy, List.take_add_one, hi]
    simp
  · intro acc D G' G'' ⟨_, p1, p2⟩ e g1 g2
    refine hd D G'' (p2.trans e) (none_of_ex p2 g1) ?_
    rw [p1, List.take_length] at g2; exact g2
end
/-! ### where ways meet -/
def tCut (t : TS) : TS := fun D σ H => ∃ P : L2.St → Hp → Prop, (∀ σ' H', P σ' H' → D.nx σ' H') ∧ t ⟨P, D.rt, D.bk, D.ct⟩ σ H
theorem ps_cut {X : Cx} {st : Stmt} {t : TS} (h : PS X st t) : PS X st (tCut t) := by
  refine ⟨fun pins s σ H D I ⟨P, hP, ht⟩ => ?_⟩
  refine thn (h.run pins s σ H _ I ht) fun f s1 q => ?_
  cases f with
  | next => obtain ⟨σ', H', I', q'⟩ := q; exact ⟨σ', H', I', hP σ' H' q'⟩
  | ret v => exact q
  | brk => exact q
  | cont => exact q
section
variable {U : Vx} {σ : L2.St} {G : Hp} {Q : VK} {K : PySem.W.Frag} {te to ti : TE} {tt : TT} {t ts : TS} {D : Ends} {v : V}
theorem sm_cut (P : L2.St → Hp → Prop) (h1 : ∀ σ' G', P σ' G' → KM U D.nx σ' G') (h2 : SM U t ⟨KJ U P, D.rt, D.bk, D.ct⟩ σ G) : SM U (tCut t) D σ G := fun H j =>
  ⟨KJ U P, fun σ' H' ⟨G', j', p⟩ => h1 σ' G' p H' j', h2 H j⟩
def SLM (U : Vx) (o i v : V) (G : Hp) (k : Hp → Prop) : Prop := ∃ l xs n j, o = .ref l ∧ i = .int n ∧ G l = some (.lst xs) ∧ U.Ge l = none ∧ ixN xs.length n = some j ∧ k (upd G l (.lst (xs.set j v)))
theorem slm {l : Addr} {xs : List V} {n : Int} {j : Nat} {k : Hp → Prop} (h : G l = some (.lst xs)) (g : U.Ge l = none) (hj : ixN xs.length n = some j) (q : k (upd G l (.lst (xs.set j v)))) : SLM U (.ref l) (.int n) v G k := ⟨l, xs, n, j, rfl, rfl, h, g, hj, q⟩
theorem gm_subL {QG : L2.St → Hp → Prop} (h : EM U to σ G fun o G1 => EM U ti σ G1 fun i G2 => SLM U o i v G2 fun G3 => QG σ G3) : GM U (gSub to ti rSetL) v σ G QG := fun H j QH q =>
  h H j _ fun o H1 G1 j1 h1 => h1 H1 j1 _ fun i H2 G2 j2 ⟨l, xs, n, k, e1, e2, g, ge, hk, h2⟩ => ⟨l, xs, n, k, e1, e2, j2.up _ _ g, hk, q _ _ _ (j2.write g ge) h2⟩
end
/-- the view of a draw: all but the draws' list stays -/
def VD (st : Addr) (H : Hp) : Vx := ⟨wo st H, wo st H, fun _ => True, fun _ => False, fun _ _ _ _ => trivial⟩
theorem wo_ex {st : Addr} {H : Hp} : Ex (wo st H) H := fun x o e => by
  by_cases z : x = st
  · rw [z, wo_same] at e; cases e
  · rw [wo_ne z] at e; exact e
theorem VD.start {st : Addr} {H : Hp} : J (VD st H) H H := ⟨Ex.refl H, wo_ex, fun _ _ g => g, trivial, fun _ z => z.elim⟩
theorem sql_wo {K : PySem.W.Frag} {st a : Addr} {H : Hp} {xs : List V} (h : SqL K H a xs) (ne : a ≠ st) : SqL K (wo st H) a xs := by
  rcases h with (h | ⟨o, h⟩) | h
  · exact .inl (.inl (by rw [wo_ne ne]; exact h))
  · exact .inl (.inr ⟨o, by rw [wo_ne ne]; exact h⟩)
  · exact .inr h
theorem wo_upd {st : Addr} {H G : Hp} {o : HO} (e : Ex (wo st H) G) : Ex (wo st H) (upd G st o) := fun x u ex => by
  have : x ≠ st := fun z => by rw [z, wo_same] at ex; cases ex
  rw [upd_ne this]; exact e x u ex
theorem kv_draw {st : Addr} {H G : Hp} {Q : VK} {sz d a' b' : Int} (q : ∀ (d a' b' : Int) (H' : Hp), 0 ≤ d → d < sz → 0 ≤ a' → 0 ≤ b' → (∀ x o, x ≠ st → H x = some o → H' x = some o) → H' st = some (.lst [.int a', .int b']) → Q (.int d) H')
    (h0 : 0 ≤ d) (h1 : d < sz) (ha : 0 ≤ a') (hb : 0 ≤ b') (g : G st = some (.lst [.int a', .int b'])) : KV (VD st H) Q (.int d) G := fun H' j =>
  q d a' b' H' h0 h1 ha hb (fun x o nx e => j.keep x o (by show wo st H x = some o; rw [wo_ne nx]; exact e)) (j.up _ _ g)
theorem ifd {p A B : Prop} [Decidable p] (h1 : p → A) (h2 : ¬ p → B) : if decide p = true then A else B := by
  by_cases h : p
  · rw [decide_eq_true h, if_pos rfl]; exact h1 h
  · rw [decide_eq_false h, if_neg Bool.false_ne_true]; exact h2 h
theorem ifn {p A B : Prop} [Decidable p] (h1 : ¬ p → A) (h2 : p → B) : if (!decide p) = true then A else B := by
  by_cases h : p
  · rw [decide_eq_true h, Bool.not_true, if_neg Bool.false_ne_true]; exact h2 h
  · rw [decide_eq_false h, Bool.not_false, if_pos rfl]; exact h1 h
theorem ifdT {p A B : Prop} [Decidable p] (h : p) (a : A) : if decide p = true then A else B := ifd (fun _ => a) fun z => absurd h z
theorem ifdF {p A B : Prop} [Decidable p] (h : ¬ p) (b : B) : if decide p = true then A else B := ifd (fun z => absurd z h) fun _ => b
theorem ifnT {p A B : Prop} [Decidable p] (h : ¬ p) (a : A) : if (!decide p) = true then A else B := ifn (fun _ => a) fun z => absurd z h
theorem ifnF {p A B : Prop} [Decidable p] (h : p) (b : B) : if (!decide p) = true then A else B := ifn (fun z => absurd h z) fun _ => b
/-! ### lists of ints as data -/
theorem dpAll_ints {K : PySem.W.Frag} {H : Hp} : ∀ ns : List Int, DpAll K H (ns.map V.int) (ns.map PyData.int)
  | [] => .nil
  | n :: ns => .cons (.int n) (dpAll_ints ns)
theorem canLay_ints : ∀ ns : List Int, PyData.canLayAll0 (ns.map PyData.int) = true
  | [] => by simp [PyData.canLayAll0]
  | n :: ns => by
    show PyData.canLayAll0 (PyData.int n :: ns.map PyData.int) = true
    rw [PyData.canLayAll0, canLay_ints ns]
    simp [PyData.canLay0]
theorem depth_ints : ∀ ns : List Int, PyData.depthAll (ns.map PyData.int) ≤ 1
  | [] => by simp [PyData.depthAll]
  | n :: ns => by
    have h := depth_ints ns
    show PyData.depthAll (PyData.int n :: ns.map PyData.int) ≤ 1
    rw [PyData.depthAll]
    simp only [PyData.depth]
    omega
theorem shaped_ints (ns : List Int) : SeqAt.shaped (.list (ns.map PyData.int)) = true := by
  unfold SeqAt.shaped
  have h := depth_ints ns
  rw [PyData.canLay0, canLay_ints, PyData.depth]
  simp
  omega
theorem shaped_intsT (ns : List Int) : SeqAt.shaped (.tuple (ns.map PyData.int)) = true := by
  unfold SeqAt.shaped
  have h := depth_ints ns
  rw [PyData.canLay0, canLay_ints, PyData.depth]
  simp
  omega
theorem eqv_ints : ∀ ns ms : List Int, PyData.eqvAll (ns.map PyData.int) (ms.map PyData.int) = decide (ns = ms)
  | [], [] => by simp [PyData.eqvAll]
  | [], m :: ms => by simp [PyData.eqvAll]
  | n :: ns, [] => by simp [PyData.eqvAll]
  | n :: ns, m :: ms => by
    show PyData.eqvAll (PyData.int n :: ns.map PyData.int) (PyData.int m :: ms.map PyData.int) = _
    rw [PyData.eqvAll, eqv_ints ns ms, PyData.eqv]
    simp [Bool.decide_and]
    by_cases h : n = m <;> simp [h]
theorem dp_ints {K : PySem.W.Frag} {H : Hp} {a : Addr} {ns : List Int} (h : SqL K H a (ns.map V.int)) : Dp K H (.ref a) (.list (ns.map PyData.int)) := .lst h (dpAll_ints ns)
theorem dp_intsT {K : PySem.W.Frag} {H : Hp} {a : Addr} {ns : List Int} (h : SqT K H a (ns.map V.int)) : Dp K H (.ref a) (.tuple (ns.map PyData.int)) := .tup h (dpAll_ints ns)
section
variable {U : Vx} {σ : L2.St} {G : Hp} {Q : VK} {K : PySem.W.Frag}
theorem rm_eqL {a b : Addr} {ns ms : List Int} (ha : SqL K G a (ns.map V.int)) (hb : SqL K G b (ms.map V.int)) (k : Q (.bl (decide (ns = ms))) G) : RM U (rEqD K (.ref a) (.ref b)) G Q :=
  rm_eqD (dp_ints ha) (dp_ints hb) (shaped_ints ns) (shaped_ints ms) (by rw [PyData.eqv, eqv_ints]; exact k)
theorem rm_neL {a b : Addr} {ns ms : List Int} (ha : SqL K G a (ns.map V.int)) (hb : SqL K G b (ms.map V.int)) (k : Q (.bl (!decide (ns = ms))) G) : RM U (rNeD K (.ref a) (.ref b)) G Q :=
  rm_neD (dp_ints ha) (dp_ints hb) (shaped_ints ns) (shaped_ints ms) (by rw [PyData.eqv, eqv_ints]; exact k)
theorem rm_eqT {a b : Addr} {ns ms : List Int} (ha : SqT K G a (ns.map V.int)) (hb : SqT K G b (ms.map V.int)) (k : Q (.bl (decide (ns = ms))) G) : RM U (rEqD K (.ref a) (.ref b)) G Q :=
  rm_eqD (dp_intsT ha) (dp_intsT hb) (shaped_intsT ns) (shaped_intsT ms) (by rw [PyData.eqv, eqv_ints]; exact k)
theorem rm_neT {a b : Addr} {ns ms : List Int} (ha : SqT K G a (ns.map V.int)) (hb : SqT K G b (ms.map V.int)) (k : Q (.bl (!decide (ns = ms))) G) : RM U (rNeD K (.ref a) (.ref b)) G Q :=
  rm_neD (dp_intsT ha) (dp_intsT hb) (shaped_intsT ns) (shaped_intsT ms) (by rw [PyData.eqv, eqv_ints]; exact k)
/-- an item at an unknown place within bounds -/
theorem atI_ex {xs : List V} {i : Int} (h0 : 0 ≤ i) (h1 : i < xs.length) : ∃ v, v ∈ xs ∧ atI xs i = some v ∧ xs[i.toNat]? = some v := by
  obtain ⟨k, rfl⟩ := Int.eq_ofNat_of_zero_le h0
  have hk : k < xs.length := by omega
  refine ⟨xs[k], List.getElem_mem hk, atI_nat (List.getElem?_eq_getElem hk), ?_⟩
  rw [Int.toNat_natCast]; exact List.getElem?_eq_getElem hk
theorem rm_ixM {p : Addr} {xs : List V} {i : Int} (h : SqL K G p xs) (h0 : 0 ≤ i) (h1 : i < xs.length) (k : ∀ v, v ∈ xs → Q v G) : RM U (rIxL K (.ref p) (.int i)) G Q := by
  obtain ⟨v, hv, e, _⟩ := atI_ex h0 h1
  exact rm_ixL h e (k v hv)
end
theorem log2_pow_lt {n : Nat} (h : n < 9000) : (2 ^ n : Nat).log2 < 9000 := by
  rw [Nat.log2_two_pow]; exact h
theorem pow_cast (n : Nat) : ((2 : Int) ^ n).natAbs = 2 ^ n := by rw [Int.natAbs_pow]; rfl
theorem sz_pow {w : Int} (h0 : 0 ≤ w) (h1 : w < 9000) : 0 < (1 : Int) * 2 ^ w.toNat ∧ ((1 : Int) * 2 ^ w.toNat).natAbs.log2 < 9000 := by
  rw [Int.one_mul]
  refine ⟨PySem.W.kbt_pos _, ?_⟩
  rw [pow_cast]
  exact log2_pow_lt (by omega)
theorem sz_small {n : Int} (h0 : 0 ≤ n) (h1 : n < 2 ^ 8999) : n.natAbs.log2 < 9000 := by
  by_cases z : n = 0
  · subst z; decide
  · have : n.natAbs < 2 ^ 8999 := by
      have e : ((n.natAbs : Nat) : Int) < ((2 ^ 8999 : Nat) : Int) := by
        rw [PySem.W.kbt_cast]; omega
      exact Int.ofNat_lt.mp e
    have := (Nat.log2_lt (by omega)).mpr this
    omega
theorem same_of {H G G1 : Hp} {st : Addr} (hs : H st = none) (e : Ex H G) (k : ∀ a o, a ≠ st → G a = some o → G1 a = some o) : Ex H G1 := fun a o h => k a o (fun z => by rw [z, hs] at h; cases h) (e a o h)
/-! ### rules with the written part by its own name -/
section
variable {X : Cx} {K : PySem.W.Frag} {e : Expr} {te : TE} {tg : Expr} {pos : Pos}
theorem kx_list (h : X.K = K := by rfl) : IxR X (rIxL K) := by subst h; exact ix_list
theorem kx_tup (h : X.K = K := by rfl) : IxR X (rIxT K) := by subst h; exact ix_tup
theorem kq_len (h : X.K = K := by rfl) : CallR X (.builtin "len") (rLenQ K) := by subst h; exact cq_len
theorem kq_list (h : X.K = K := by rfl) : CallR X (.type "list") (rListQ K) := by subst h; exact cq_list
theorem kq_tuple (h : X.K = K := by rfl) : CallR X (.type "tuple") (rTupQ K) := by subst h; exact cq_tuple
theorem kr_sum (h : X.K = K := by rfl) (hc : X.calm = true := by rfl) : CallR X (.builtin "sum") (rSum K) := by subst h; exact cr_sum hc
theorem kr_all (h : X.K = K := by rfl) (hc : X.calm = true := by rfl) : CallR X (.builtin "all") (rAll K) := by subst h; exact cr_all hc
theorem kr_any (h : X.K = K := by rfl) (hc : X.calm = true := by rfl) : CallR X (.builtin "any") (rAny K) := by subst h; exact cr_any hc
theorem kr_isi (h : X.K = K := by rfl) : CallR X (.builtin "isinstance") (rIsi K) := by subst h; exact call_isi
theorem kp_eqD (hu : X.A.units + 64 < cLine) (h : X.K = K := by rfl) : OpR X (compareOp .Eq) (rEqD K) := by subst h; exact op_eqD hu
theorem kp_neD (hu : X.A.units + 64 < cLine) (h : X.K = K := by rfl) : OpR X (compareOp .NotEq) (rNeD K) := by subst h; exact op_neD hu
theorem kp_catT (h : X.K = K := by rfl) : OpR X (binaryOp .Add) (rCatT K) := by subst h; exact op_catT
theorem kp_in (h : X.K = K := by rfl) : OpR X (compareOp .In) (rIn K false) := by subst h; exact op_in_seq
theorem kp_notIn (h : X.K = K := by rfl) : OpR X (compareOp .NotIn) (rIn K true) := by subst h; exact op_notIn_seq
theorem kl_list (h : X.K = K := by rfl) : SlR X (rSlL K) := by subst h; exact sl_list
theorem kl_tup (h : X.K = K := by rfl) : SlR X (rSlT K) := by subst h; exact sl_tup
theorem ke_fld {f : Str} (he : PE X e te) (hb : attributeBase e f X.env (eval e X.env) = eval e X.env := by rfl) (h : X.K = K := by rfl) : PE X (.Attribute e f pos) (tFld K te f) := by subst h; exact pe_fld he hb
theorem ki_list (hl : PE X e te) (h : X.K = K := by rfl) : PI X tg e (iList K te) := by subst h; exact pi_list hl
theorem ki_tup (hl : PE X e te) (h : X.K = K := by rfl) : PI X tg e (iTup K te) := by subst h; exact pi_tup hl
theorem ka_star {es : List Expr} {t : TA} {p : Pos} (he : PE X e te) (hr : PA X es t) (hs : starEach (.Starred e p :: es) X.env = (true, eval e X.env) :: starEach es X.env := by rfl) (h : X.K = K := by rfl) : PA X (.Starred e p :: es) (tStar K te t) := by subst h; exact pa_star he hr hs
end
/-! ### a list or a tuple -/
def SqS (K : PySem.W.Frag) (H : Hp) (a : Addr) (xs : List V) : Prop := SqL K H a xs ∨ SqT K H a xs
theorem ex_s {K : PySem.W.Frag} {H H' : Hp} {a : Addr} {xs : List V} (e : Ex H H') (h : SqS K H a xs) : SqS K H' a xs := h.elim (fun h => .inl (ex_l e h)) fun h => .inr (ex_t e h)
def iOr (w1 w2 : TI) : TI := fun σ H R => w1 σ H R ∨ w2 σ H R
theorem pi_or {X : Cx} {tg e : Expr} {w1 w2 : TI} (h1 : PI X tg e w1) (h2 : PI X tg e w2) : PI X tg e (iOr w1 w2) := ⟨fun pins s σ H R I h => h.elim (h1.run pins s σ H R I) (h2.run pins s σ H R I)⟩
def iSeq (K : PySem.W.Frag) (tl : TE) : TI := iOr (iList K tl) (iTup K tl)
theorem ki_seq {X : Cx} {K : PySem.W.Frag} {tg e : Expr} {te : TE} (hl : PE X e te) (h : X.K = K := by rfl) : PI X tg e (iSeq K te) := pi_or (ki_list hl h) (ki_tup hl h)
section
variable {U : Vx} {σ : L2.St} {G : Hp} {Q : VK} {K : PySem.W.Frag} {tl te ta : TE} {tt : TT} {g : TG} {ts : TS} {D : Ends}
/-- over a list or tuple of B, which stays -/
theorem sm_forS {a : Addr} {xs : List V} {B : Hp} (P : Nat → L2.St → Hp → Prop) (hx : SqS K B a xs) (hB : Ex B G) (h : EM U tl σ G fun v G1 => v = .ref a ∧ G1 = G) (h0 : P 0 σ G) (hp : ∀ i σ' G', P i σ' G' → Ex B G')
    (hs : ∀ i x σ' G', xs[i]? = some x → P i σ' G' → GM U g x σ' G' fun σ2 G2 => SM U ts ⟨KJ U (P (i + 1)), D.rt, D.nx, KJ U (P (i + 1))⟩ σ2 G2) (hd : ∀ σ' G', P xs.length σ' G' → KM U D.nx σ' G') : SM U (tFor (iSeq K tl) g ts) D σ G := by
  rcases hx with hx | hx
  · have k : SM U (tFor (iList K tl) g ts) D σ G := sm_forL (fun H j QH q => h H j QH fun v H' G1 j1 ⟨e, eg⟩ => q v H' G1 j1 ⟨a, xs, e, by rw [eg]; exact ex_l hB hx, P, by rw [eg]; exact h0, fun i σ' G' _ p => ex_l (hp i σ' G' p) hx, hs, hd⟩)
    exact fun H j => .inl (k H j)
  · have k : SM U (tFor (iTup K tl) g ts) D σ G := sm_forT (fun H j QH q => h H j QH fun v H' G1 j1 ⟨e, eg⟩ => q v H' G1 j1 ⟨a, xs, e, by rw [eg]; exact ex_t hB hx, P, by rw [eg]; exact h0, fun i σ' G' _ p => ex_t (hp i σ' G' p) hx, hs, hd⟩)
    exact fun H j => .inr (k H j)
theorem rm_lenS {p : Addr} {ys : List V} (h : SqS K G p ys) (k : Q (.int ys.length) G) : RM U (rLenQ K [.ref p]) G Q := h.elim (fun h => rm_lenL h k) fun h => rm_lenT h k
theorem rm_tupS {p : Addr} {ys : List V} (h : SqS K G p ys) (k : ∀ l G', Ex G G' → SqT K G' l ys → Q (.ref l) G') : RM U (rTupQ K [.ref p]) G Q :=
  h.elim (fun h => rm_tupL h fun l G' _ e g => k l G' e (st_of g)) fun h => rm_tupT h (k p G (Ex.refl G) h)
/-! ### making -/
theorem J.writeX {H G H' : Hp} {p : Addr} {o' : HO} (j : J U H G) (hk : ∀ b o, b ≠ p → H b = some o → H' b = some o) (hp : H' p = some o') (h : ∃ o, G p = some o) (g : U.Ge p = none) : J U H' (upd G p o') := by
  obtain ⟨o, h⟩ := h
  exact {
    up := fun a u e => by
      by_cases z : a = p
      · subst z; rw [upd_same] at e; rw [hp]; exact e
      · rw [upd_ne z] at e; exact hk a u z (j.up a u e)
    keep := fun a u e => by
      have : a ≠ p := fun z => by
        subst z
        rw [j.new a (by rw [h]; exact fun q => by cases q) g] at e; cases e
      exact hk a u this (j.keep a u e)
    new := fun a e q => by
      by_cases z : a = p
      · subst z; exact j.new a (by rw [h]; exact fun q => by cases q) q
      · rw [upd_ne z] at e; exact j.new a e q
    hid := U.st H _ j.hid fun a ma => by
      have q := (j.msk a ma)
      have : a ≠ p := fun z => by subst z; rw [h] at q; cases q.1
      cases z : H a with
      | none => exact absurd z q.2
      | some o => rw [hk a o this z]
    msk := fun a ma => by
      obtain ⟨q1, q2⟩ := j.msk a ma
      have : a ≠ p := fun z => by subst z; rw [h] at q1; cases q1
      rw [upd_ne this]
      refine ⟨q1, ?_⟩
      cases z : H a with
      | none => exact absurd z q2
      | some o => rw [hk a o this z]; exact fun q => by cases q }
theorem em_makeI {C : Addr} {fs : List (Str × V)} {sp : Sp} {E : XK} {tas : TA} (h : AM U tas σ G fun vs G1 => (∀ x dx H QI EI, H x = some (.ins C dx []) → (∀ H', (∀ b o, b ≠ x → H b = some o → H' b = some o) → H' x = some (.ins C dx fs) → QI .non H') → sp (.ref x :: vs) H QI EI) ∧
    ∀ x dx G2, G1 x = none → Ex G1 G2 → G2 x = some (.ins C dx fs) → Q (.ref x) G2) : EM U (tMake C sp [] E tas) σ G Q := fun H j QH q =>
  h H j _ fun vs H1 G1 j1 ⟨hi, hk⟩ x dx nx ndx ne => by
    show sp (.ref x :: (vs ++ [])) _ _ _
    rw [List.append_nil]
    have n2 : upd H1 dx (.own x) x = none := by rw [upd_ne (Ne.symm ne)]; exact nx
    have j2 := (j1.alloc (o := .own x) ndx).alloc (o := .ins C dx []) n2
    refine hi x dx _ _ _ upd_same fun H' hk' hx' => ⟨rfl, ?_⟩
    have gx : U.Ge x = none ∨ U.Ge x ≠ none := by cases U.Ge x <;> simp
    have gn : G1 x = none := j1.free nx
    refine q _ H' _ (?_ : J U H' (upd (upd G1 dx (.own x)) x (.ins C dx fs))) (hk x dx _ gn (fun a o e => ?_) upd_same)
    · have e1 : upd (upd (upd G1 dx (.own x)) x (.ins C dx [])) x (.ins C dx fs) = upd (upd G1 dx (.own x)) x (.ins C dx fs) := upd_upd
      exact {
        up := fun a u e => by
          by_cases z : a = x
          · subst z; rw [upd_same] at e; rw [hx']; exact e
          · rw [upd_ne z] at e; exact hk' a u z (j2.up a u (by rw [upd_ne z]; exact e))
        keep := fun a u e => by
          have e0 := j1.keep a u e
          have na : a ≠ x := ne_of_none e0 nx
          exact hk' a u na (j2.keep a u e)
        new := fun a e q => by
          by_cases z : a = x
          · subst z; exact none_of_ex j1.keep nx
          · exact j2.new a (by rw [upd_ne z] at e ⊢; exact e) q
        hid := U.st _ _ j2.hid fun a ma => by
          have q := j2.msk a ma
          have na : a ≠ x := fun z => by subst z; rw [upd_same] at q; cases q.1
          cases z : upd (upd H1 dx (HO.own x)) x (HO.ins C dx []) a with
          | none => exact absurd z q.2
          | some o => rw [hk' a o na z]
        msk := fun a ma => by
          obtain ⟨q1, q2⟩ := j2.msk a ma
          have na : a ≠ x := fun z => by subst z; rw [upd_same] at q1; cases q1
          refine ⟨by rw [upd_ne na] at q1 ⊢; exact q1, ?_⟩
          cases z : upd (upd H1 dx (HO.own x)) x (HO.ins C dx []) a with
          | none => exact absurd z q2
          | some o => rw [hk' a o na z]; exact fun q => by cases q }
    · have na : a ≠ x := ne_of_none e gn
      have nd : a ≠ dx := ne_of_none e (j1.free ndx)
      rw [upd_ne na, upd_ne nd]; exact e
/-! ### a law's own defs that draw -/
end
def spS (K : PySem.W.Frag) (pre : List V → Hp → Prop) (post : List V → V → Hp → Prop) : Sp := fun vs H Q _ => ∃ (st sc : Addr) (ns : List Int) (rest : List V) (G : Hp), vs = .ref st :: .ref sc :: rest ∧ StAt H st ∧ G st = none ∧ Ex G H ∧ SqL K G sc (ns.map V.int) ∧ pre rest G ∧
  ∀ v H' G', (∀ x o, x ≠ st → H x = some o → H' x = some o) → StAt H' st → Ex G G' → Ex G' H' → (∀ a, G' a ≠ none → G a = none → H a = none) → G' st = none → post rest v G' → Q v H'
/-- the view of such a def -/
def VS (st : Addr) (H G : Hp) : Vx := ⟨wo st H, G, fun H' => StAt H' st, fun a => a = st, fun H1 H2 ⟨a, b, e, h⟩ k => ⟨a, b, by rw [k st rfl]; exact e, h⟩⟩
theorem VS.draw {st : Addr} {H G : Hp} : DrawOk (VS st H G) st := ⟨rfl, wo_same, fun _ i => i, fun _ _ _ _ s => s⟩
theorem VS.start {st : Addr} {H G : Hp} (s : StAt H st) (g : G st = none) (e : Ex G H) : J (VS st H G) H G := ⟨e, wo_ex, fun a q z => absurd z q, s, fun a z => by
  have z' : a = st := z
  subst z'
  obtain ⟨x, y, h, _⟩ := s
  exact ⟨g, by rw [h]; exact fun q => by cases q⟩⟩
section
variable {U : Vx} {σ : L2.St} {G : Hp} {Q : VK} {K : PySem.W.Frag}
theorem kv_s {st : Addr} {H0 G0 : Hp} {p : V → Hp → Prop} {v : V} (k : ∀ v H' G', (∀ x o, x ≠ st → H0 x = some o → H' x = some o) → StAt H' st → Ex G0 G' → Ex G' H' → (∀ a, G' a ≠ none → G0 a = none → H0 a = none) → G' st = none → p v G' → Q v H') (e : Ex G0 G) (h : p v G) : KV (VS st H0 G0) Q v G := fun H j =>
  k v H G (fun x o nx ex => j.keep x o (by show wo st H0 x = some o; rw [wo_ne nx]; exact ex)) j.hid e j.up (fun a q z => by
    have n := j.new a q z
    have na : a ≠ st := fun w => by subst w; exact q (j.msk a rfl).1
    have n' : wo st H0 a = none := n
    rw [wo_ne na] at n'; exact n') (j.msk st rfl).1 h
theorem cm_s {pre : List V → Hp → Prop} {post : List V → V → Hp → Prop} {st sc : Addr} {ns : List Int} {rest : List V} (d : DrawOk U st) (hs : SqL K G sc (ns.map V.int)) (h : pre rest G) (k : ∀ v G', Ex G G' → post rest v G' → Q v G') : CM U (spS K pre post) (.ref st :: .ref sc :: rest) G Q := fun H j QH q E => by
  have gs := (j.msk st d.m).1
  refine ⟨st, sc, ns, rest, G, rfl, d.at_ H j.hid, gs, j.up, hs, h, fun v H' G' hx hst e1 e2 hn gn hp => q v H' G' ?_ (k v G' e1 hp)⟩
  obtain ⟨a0, b0, est, _⟩ := hst
  exact {
    up := e2
    keep := fun x o ex => hx x o (fun z => by subst z; rw [d.ne] at ex; cases ex) (j.keep x o ex)
    new := fun a z g => by
      cases w : G a with
      | none => exact none_of_ex j.keep (hn a z w)
      | some o => exact j.new a (by rw [w]; exact fun q => by cases q) g
    hid := d.to H H' j.hid (fun x mx nx => by
      cases z : H x with
      | none => exact absurd z (j.msk x mx).2
      | some o => exact hx x o nx z) ⟨a0, b0, est, by assumption⟩
    msk := fun x mx => by
      refine ⟨?_, ?_⟩
      · cases z : G' x with
        | none => rfl
        | some o => exact absurd (hn x (by rw [z]; exact fun q => by cases q) (j.msk x mx).1) (j.msk x mx).2
      · by_cases nx : x = st
        · subst nx; rw [est]; exact fun q => by cases q
        · cases z : H x with
          | none => exact absurd z (j.msk x mx).2
          | some o => rw [hx x o nx z]; exact fun q => by cases q }
end
/-! ### promises over a datum -/
def spA {α : Type} (pre : α → List V → Hp → Prop) (post : α → V → Hp → Prop) : Sp := fun vs H Q _ => ∃ (x : α) (G : Hp), Ex G H ∧ pre x vs G ∧ ∀ v H' G', Ex H H' → Ex G G' → Ex G' H' → (∀ a, G' a ≠ none → G a = none → H a = none) → post x v G' → Q v H'
def spSA {α : Type} (K : PySem.W.Frag) (pre : α → List V → Hp → Prop) (post : α → V → Hp → Prop) : Sp := fun vs H Q _ => ∃ (x : α) (st sc : Addr) (ns : List Int) (rest : List V) (G : Hp), vs = .ref st :: .ref sc :: rest ∧ StAt H st ∧ G st = none ∧ Ex G H ∧ SqL K G sc (ns.map V.int) ∧ pre x rest G ∧
  ∀ v H' G', (∀ x o, x ≠ st → H x = some o → H' x = some o) → StAt H' st → Ex G G' → Ex G' H' → (∀ a, G' a ≠ none → G a = none → H a = none) → G' st = none → post x v G' → Q v H'
section
variable {U : Vx} {σ : L2.St} {G : Hp} {Q : VK} {K : PySem.W.Frag} {α : Type}
theorem cm_a {pre : α → List V → Hp → Prop} {post : α → V → Hp → Prop} {vs : List V} (x : α) (h : pre x vs G) (k : ∀ v G', Ex G G' → post x v G' → Q v G') : CM U (spA pre post) vs G Q := fun H j QH q E =>
  ⟨x, G, j.up, h, fun v H' G' e1 e2 e3 n p => q v H' G' (j.call e1 e3 n) (k v G' e2 p)⟩
theorem cm_sa {pre : α → List V → Hp → Prop} {post : α → V → Hp → Prop} {st sc : Addr} {ns : List Int} {rest : List V} (x : α) (d : DrawOk U st) (hs : SqL K G sc (ns.map V.int)) (h : pre x rest G) (k : ∀ v G', Ex G G' → post x v G' → Q v G') : CM U (spSA K pre post) (.ref st :: .ref sc :: rest) G Q := fun H j QH q E =>
  have c := cm_s (K := K) (pre := pre x) (post := fun _ => post x) d hs h k H j QH q E
  let ⟨st', sc', ns', rest', G', e, r⟩ := c
  ⟨x, st', sc', ns', rest', G', e, r⟩
end
theorem ifNT {A B : Prop} (h : B) : if (!true) = true then A else B := h
theorem ifNF {A B : Prop} (h : A) : if (!false) = true then A else B := h
theorem kg_tup {X : Cx} {K : PySem.W.Frag} {es : List Expr} {k n : Nat} {t : TGs} {pos : Pos} (hc : X.calm = true) (h : PGs X es t) (hn : (assignEach es X.env).length = n := by rfl) (hst : (assignEach es X.env).findIdx? (·.1) = none := by rfl) (hk : X.K = K := by rfl) : PG X (.Tuple es k pos) (gTup K n t) := by
  subst hk; exact pg_tup hc h hn hst
section
variable {U : Vx} {σ : L2.St} {G : Hp} {Q : VK} {K : PySem.W.Frag} {QG : L2.St → Hp → Prop} {g : TG} {gs : TGs}
def GsM (U : Vx) (g : TGs) (vs : List V) (σ : L2.St) (G : Hp) (Q : L2.St → Hp → Prop) : Prop := ∀ H, J U H G → ∀ QH : L2.St → Hp → Prop, (∀ σ' H' G', J U H' G' → Q σ' G' → QH σ' H') → g vs σ H QH
theorem gm_tup {a : Addr} {xs : List V} {n : Nat} (h : SqT K G a xs) (hl : xs.length = n) (k : GsM U gs xs σ G QG) : GM U (gTup K n gs) (.ref a) σ G QG := fun H j QH q => ⟨a, xs, rfl, ex_t j.up h, hl, k H j QH q⟩
theorem gs_nil (k : QG σ G) : GsM U gNil [] σ G QG := fun H j QH q => ⟨rfl, q _ _ _ j k⟩
theorem gs_cons {v : V} {vs : List V} (k : GM U g v σ G fun σ' G' => GsM U gs vs σ' G' QG) : GsM U (gCons g gs) (v :: vs) σ G QG := fun H j QH q => ⟨v, vs, rfl, k H j _ fun σ' H' G' j' k' => k' H' j' QH q⟩
end
section
variable {U : Vx} {σ : L2.St} {G : Hp} {Q : VK} {K : PySem.W.Frag} {te : TE} {tt : TT}
/-- over a tuple that stands -/
theorem em_lcT {tl : TE} {g : TG} {vs : List Nat} (h : EM U tl σ G fun w G1 => ∃ a xs, w = .ref a ∧ SqT K G1 a xs ∧ xs.length < 16000000 ∧ ∃ P : Nat → List V → Hp → Prop, P 0 [] G1 ∧ (∀ i acc G', P i acc G' → acc.length ≤ i ∧ SqT K G' a xs) ∧
    (∀ (i : Nat) x acc G' (D : Addr) (U' : Vx), U' = U.hide D (.lst acc) → ¬ U.m D → xs[i]? = some x → P i acc G' → GM U' g x (wipe σ vs) G' fun σ2 G0 => wipe σ2 vs = wipe σ vs ∧ TM U' tt σ2 G0 fun b G2 => if b = true then EM U' te σ2 G2 fun y G3 => P (i + 1) (acc ++ [y]) G3 else P (i + 1) acc G2) ∧
    (∀ acc D G' G'', P xs.length acc G' → Ex G' G'' → G' D = none → G'' D = some (.lst acc) → Q (.ref D) G'')) : EM U (tLc (iTup K tl) g tt te vs) σ G Q := fun H j QH q =>
  h H j _ fun w H1 G1 j1 ⟨a, xs, e, hx, hlen, P, h0, hz, hs, hd⟩ => ⟨a, e, ⟨xs, ex_t j1.up hx⟩, fun D hD => by
    have nm : ¬ U.m D := fun z => (j1.msk D z).2 hD
    have nh : U.He D = none := none_of_ex j1.keep hD
    refine lc_tup (K := K) (a := a) (xs := xs) (fun i H' => i ≤ xs.length ∧ ∃ acc G', J (U.hide D (.lst acc)) H' G' ∧ P i acc G') ⟨Nat.zero_le _, [], G1, ?_, h0⟩ (fun i H' _ ⟨_, acc, G', j', p⟩ => ex_t j'.up (hz i acc G' p).2) (fun i x H' hi ⟨_, acc, G', j', p⟩ => ?_) (fun H' ⟨_, acc, G', j', p⟩ => ?_)
    · have ja := j1.alloc (o := .lst []) hD
      refine ⟨fun a u e => ?_, ja.keep, j1.new, ⟨ja.hid, upd_same⟩, fun a ma => ?_⟩
      · rw [upd_ne (fun z => by subst z; rw [j1.free hD] at e; cases e)]; exact j1.up a u e
      · rcases ma with ma | rfl
        · obtain ⟨q1, q2⟩ := j1.msk a ma
          refine ⟨q1, ?_⟩
          rw [upd_ne (fun z => by subst z; exact q2 hD)]; exact q2
        · exact ⟨j1.free hD, by rw [upd_same]; exact fun q => by cases q⟩
    · have hil : i < xs.length := (List.getElem?_eq_some_iff.mp hi).1
      refine hs i x acc G' D _ rfl nm hi p H' j' _ fun σ2 H2 G2 j2 ⟨w2, k2⟩ => ⟨w2, k2 H2 j2 _ fun b H3 G3 j3 h3 => ?_⟩
      cases b with
      | true =>
        rw [if_pos rfl] at h3 ⊢
        refine h3 H3 j3 _ fun y H4 G4 j4 h4 => ⟨acc, j4.hid.2, ?_, hil, acc ++ [y], G4, j4.rehide nm nh, h4⟩
        have := (hz i acc G' p).1
        exact Nat.lt_of_le_of_lt this (Nat.lt_of_lt_of_le (show i < 16000000 by omega) (by decide))
      | false =>
        rw [if_neg Bool.false_ne_true] at h3 ⊢
        exact ⟨hil, acc, G3, j3, h3⟩
    · have gd : G' D = none := (j'.msk D (.inr rfl)).1
      exact q _ _ _ (j'.unhide nm nh) (hd acc D G' _ p (Ex.new gd) gd upd_same)⟩
theorem em_mapT {tl : TE} {g : TG} {vs : List Nat} (v : V → V) (h : EM U tl σ G fun w G1 => ∃ a xs, w = .ref a ∧ SqT K G1 a xs ∧ xs.length < 16000000 ∧
    (∀ (i : Nat) x G' (U' : Vx), Ex G1 G' → xs[i]? = some x → GM U' g x (wipe σ vs) G' fun σ2 G2 => wipe σ2 vs = wipe σ vs ∧ Ex G' G2 ∧ EM U' te σ2 G2 fun y G3 => y = v x ∧ Ex G2 G3) ∧
    (∀ D G'', Ex G1 G'' → G1 D = none → G'' D = some (.lst (xs.map v)) → Q (.ref D) G'')) : EM U (tLc (iTup K tl) g tYes te vs) σ G Q := by
  refine em_lcT (fun H j QH q => h H j QH fun w H' G1 j1 ⟨a, xs, e, hx, hlen, hs, hd⟩ => q w H' G1 j1 ⟨a, xs, e, hx, hlen, fun i acc G' => i ≤ xs.length ∧ acc = (xs.take i).map v ∧ Ex G1 G', ⟨Nat.zero_le _, rfl, Ex.refl G1⟩, fun i acc G' p => ⟨by rw [p.2.1, List.length_map, List.length_take]; omega, ex_t p.2.2 hx⟩, ?_, ?_⟩)
  · intro i x acc G' D U' _ _ hi ⟨p0, p1, p2⟩ H j QT qt
    have hil : i < xs.length := (List.getElem?_eq_some_iff.mp hi).1
    refine hs i x G' U' p2 hi H j _ fun σ2 H1 G2 j1 ⟨hw, e1, k⟩ => qt σ2 H1 G2 j1 ⟨hw, tm_yes ?_⟩
    rw [if_pos rfl]
    intro H2 j2 QE qe
    refine k H2 j2 _ fun y H3 G3 j3 ⟨hy, e3⟩ => qe y H3 G3 j3 ⟨hil, ?_, (p2.trans e1).trans e3⟩
    rw [p1, hy, List.take_add_one, hi]
    simp
  · intro acc D G' G'' ⟨_, p1, p2⟩ e g1 g2
    refine hd D G'' (p2.trans e) (none_of_ex p2 g1) ?_
    rw [p1, List.take_length] at g2; exact g2
end
/-! ### slices, None, texts -/
section
variable {U : Vx} {σ : L2.St} {G : Hp} {Q : VK} {K : PySem.W.Frag} {te : TE} {tl th : TO} {x : V}
def OM (U : Vx) (to : TO) (σ : L2.St) (G : Hp) (Q : Option Int → Hp → Prop) : Prop := ∀ H, J U H G → ∀ QH : Option Int → Hp → Prop, (∀ v H' G', J U H' G' → Q v G' → QH v H') → to σ H QH
theorem om_none {QO : Option Int → Hp → Prop} (k : QO none G) : OM U tNoPart σ G QO := fun H j QH q => q _ _ _ j k
theorem om_some {QO : Option Int → Hp → Prop} (h : EM U te σ G fun x G1 => IV x fun i => QO (some i) G1) : OM U (tPart te) σ G QO := fun H j QH q => h H j _ fun x H1 G1 j1 ⟨i, e, k⟩ => ⟨i, e, q _ _ _ j1 k⟩
theorem em_sl {r : V → Option Int → Option Int → Hp → VK → Prop} (h : EM U te σ G fun x G1 => OM U tl σ G1 fun l G2 => OM U th σ G2 fun u G3 => RM U (r x l u) G3 Q) : EM U (tSl r te tl th) σ G Q := fun H j QH q =>
  h H j _ fun x H1 G1 j1 h1 => h1 H1 j1 _ fun l H2 G2 j2 h2 => h2 H2 j2 _ fun u H3 G3 j3 h3 => h3 H3 j3 QH q
theorem rm_slT {a : Addr} {xs : List V} {lo hi : Option Int} (h : SqT K G a xs) (hn : ¬ (HT.sIx xs.length 0 lo = 0 ∧ HT.sIx xs.length xs.length hi = xs.length)) (k : ∀ p G', Ex G G' → G' p = some (.tup (cutV xs lo hi)) → Q (.ref p) G') : RM U (rSlT K (.ref a) lo hi) G Q :=
  fun H j _ q => ⟨a, xs, rfl, ex_t j.up h, hn, fun p hp => q _ _ _ (j.alloc hp) (k p _ (Ex.new (j.free hp)) upd_same)⟩
theorem rm_slL {a : Addr} {xs : List V} {lo hi : Option Int} (h : SqL K G a xs) (k : ∀ p G', G p = none → Ex G G' → G' p = some (.lst (cutV xs lo hi)) → Q (.ref p) G') : RM U (rSlL K (.ref a) lo hi) G Q :=
  fun H j _ q => ⟨a, xs, rfl, ex_l j.up h, fun p hp => q _ _ _ (j.alloc hp) (k p _ (j.free hp) (Ex.new (j.free hp)) upd_same)⟩
theorem rm_isN_ref {a : Addr} (k : Q (.bl false) G) : RM U (rIsN (.ref a) .non) G Q := fun H j _ q => ⟨rfl, q _ _ _ j k⟩
theorem rm_isN_non (k : Q (.bl true) G) : RM U (rIsN .non .non) G Q := fun H j _ q => ⟨rfl, q _ _ _ j k⟩
theorem rm_isN_int {i : Int} (k : Q (.bl false) G) : RM U (rIsN (.int i) .non) G Q := fun H j _ q => ⟨rfl, q _ _ _ j k⟩
theorem rm_notN_ref {a : Addr} (k : Q (.bl true) G) : RM U (rNotN (.ref a) .non) G Q := fun H j _ q => ⟨rfl, q _ _ _ j k⟩
theorem rm_notN_non (k : Q (.bl false) G) : RM U (rNotN .non .non) G Q := fun H j _ q => ⟨rfl, q _ _ _ j k⟩
theorem rm_notN_int {i : Int} (k : Q (.bl true) G) : RM U (rNotN (.int i) .non) G Q := fun H j _ q => ⟨rfl, q _ _ _ j k⟩
theorem rm_eqS {s t : Str} (k : Q (.bl (decide (s = t))) G) : RM U (rEq (.str s) (.str t)) G Q := rm_eq rfl (by
  have e : decide (V.str s = V.str t) = decide (s = t) := by simp
  rw [e]; exact k)
theorem rm_neS {s t : Str} (k : Q (.bl (!decide (s = t))) G) : RM U (rNe (.str s) (.str t)) G Q := rm_ne rfl (by
  have e : decide (V.str s = V.str t) = decide (s = t) := by simp
  rw [e]; exact k)
theorem rm_eqB {s t : Bool} (k : Q (.bl (decide (s = t))) G) : RM U (rEq (.bl s) (.bl t)) G Q := rm_eq rfl (by
  have e : decide (V.bl s = V.bl t) = decide (s = t) := by simp
  rw [e]; exact k)
theorem rm_neB {s t : Bool} (k : Q (.bl (!decide (s = t))) G) : RM U (rNe (.bl s) (.bl t)) G Q := rm_ne rfl (by
  have e : decide (V.bl s = V.bl t) = decide (s = t) := by simp
  rw [e]; exact k)
end
end Wp

set_option Elab.async false
set_option linter.all false
set_option maxRecDepth 100000
set_option maxHeartbeats 4000000
set_option pp.maxSteps 250
namespace Pf
open PySem PySem.Spec PyProof.Rows L2 Evl Wp StX
set_option autoImplicit false

local macro_rules | `(tactic| walk_at "c") => `(tactic| first | assumption | exact ⟨by assumption, by assumption⟩ | omega | decide | exact .inr ⟨by omega, by omega⟩ | exact .inl ⟨by omega, by omega⟩ | exact ⟨by omega, by omega⟩ | exact ⟨by decide, by decide⟩ | exact ⟨by omega, by decide, by decide⟩)
local macro_rules | `(tactic| walk_at "sq") => `(tactic| first | assumption | exact sq_of (by assumption) | (refine' ex_l ?exh ?sqh; (case exh => assumption); (case sqh => walk_at "sq")))
local macro_rules | `(tactic| walk_at "st") => `(tactic| first | assumption | exact st_of (by assumption) | (refine' ex_t ?exh ?sqh; (case exh => assumption); (case sqh => walk_at "st")))
local macro_rules | `(tactic| walk_at "go1") => `(tactic| first
  | with_reducible refine iteT ?_
  | with_reducible refine iteF ?_
  | with_reducible refine ifNT ?_
  | with_reducible refine ifNF ?_
  | with_reducible refine sm_seq ?_
  | with_reducible refine sm_asg ?_
  | with_reducible refine gm_name ?_
  | with_reducible refine km_next ?_
  | with_reducible refine kv_rt ?_
  | with_reducible refine sm_if ?_
  | with_reducible refine sm_ret ?_
  | with_reducible refine sm_drop ?_
  | with_reducible refine tm_test ?_
  | with_reducible refine tm_B ?_
  | with_reducible refine tm_and ?_
  | with_reducible refine tm_or ?_
  | with_reducible refine tm_not ?_
  | with_reducible refine tm_yes ?_
  | ((with_reducible refine em_here ?_); refine ⟨_, rfl, ?_⟩)
  | with_reducible refine em_c ?_
  | with_reducible refine em_op ?_
  | with_reducible refine em_un ?_
  | with_reducible refine em_chain ?_
  | with_reducible refine rm_I0 ?_
  | ((with_reducible refine rm_I ?cch ?_); (case cch => walk_at "c"))
  | with_reducible refine rm_U ?_
  | with_reducible refine rm_eqI ?_
  | with_reducible refine rm_neI ?_
  | with_reducible refine bv ?_
  | with_reducible refine iv ?_
  | with_reducible refine am_nil ?_
  | with_reducible refine am_cons ?_
  | with_reducible refine em_cb ?_
  | with_reducible refine em_call ?_
  | with_reducible refine em_fld ?_
  | with_reducible refine em_meth ?_
  | with_reducible refine em_andV ?_
  | with_reducible refine em_orV ?_
  | with_reducible refine em_notV ?_
  | with_reducible refine em_if ?_
  | ((with_reducible refine em_bits ?_))
  | with_reducible refine rm_int ?_
  | with_reducible refine rm_max ?_
  | with_reducible refine rm_min ?_
  | ((with_reducible refine' rm_lenL ?sqh ?_); (case sqh => walk_at "sq"))
  | with_reducible refine gm_subL ?_
  | with_reducible refine gs_cons ?_
  | with_reducible refine gs_nil ?_
  | with_reducible refine rm_isN_ref ?_
  | with_reducible refine rm_isN_non ?_
  | with_reducible refine rm_isN_int ?_
  | with_reducible refine rm_notN_ref ?_
  | with_reducible refine rm_notN_non ?_
  | with_reducible refine rm_notN_int ?_
  | with_reducible refine rm_eqS ?_
  | with_reducible refine rm_neS ?_
  | with_reducible refine rm_eqB ?_
  | with_reducible refine rm_neB ?_
  | with_reducible refine em_sl ?_
  | with_reducible refine om_none ?_
  | with_reducible refine om_some ?_
  | with_reducible refine rm_isB ?_
  | with_reducible refine rm_notB ?_)
local macro_rules | `(tactic| walk_at "go") => `(tactic| repeat walk_at "go1")

def top (i : Nat) : Stmt := PySem.Challenge.pw_offing_k01_collisions.main.body.getD i (.Pass ⟨0, 0, 0, 0⟩)
abbrev s_Hasher___init__ : Stmt := inClass (top 13) 0
theorem sc_Hasher___init__ : FnScope ["self", "width"] ["self", "width"] (defScope s_Hasher___init__) := ⟨rfl, rfl, rfl, by decide +kernel, rfl, by decide +kernel, by decide +kernel⟩
abbrev s_Hasher_digest : Stmt := inClass (top 13) 1
theorem sc_Hasher_digest : FnScope ["self", "tag", "numbers", "mix"] ["self", "tag", "numbers"] (defScope s_Hasher_digest) := ⟨rfl, rfl, rfl, by decide +kernel, rfl, by decide +kernel, by decide +kernel⟩
abbrev s_limbs_of : Stmt := top 14
theorem sc_limbs_of : FnScope ["numbers", "limbs", "number", "many", "place"] ["numbers"] (defScope s_limbs_of) := ⟨rfl, rfl, rfl, by decide +kernel, rfl, by decide +kernel, by decide +kernel⟩
abbrev s_mixed : Stmt := top 15
theorem sc_mixed : FnScope ["limbs", "first", "second", "limb"] ["limbs"] (defScope s_mixed) := ⟨rfl, rfl, rfl, by decide +kernel, rfl, by decide +kernel, by decide +kernel⟩
abbrev s_collision : Stmt := top 16
theorem sc_collision : FnScope ["first", "second"] ["first", "second"] (defScope s_collision) := ⟨rfl, rfl, rfl, by decide +kernel, rfl, by decide +kernel, by decide +kernel⟩
abbrev s_is_collision : Stmt := top 17
theorem sc_is_collision : FnScope ["hasher", "answer", "first", "second"] ["hasher", "answer"] (defScope s_is_collision) := ⟨rfl, rfl, rfl, by decide +kernel, rfl, by decide +kernel, by decide +kernel⟩
abbrev s_is_input : Stmt := top 18
theorem sc_is_input : FnScope ["pair", "tag", "numbers", "number"] ["pair"] (defScope s_is_input) := ⟨rfl, rfl, rfl, by decide +kernel, rfl, by decide +kernel, by decide +kernel⟩
abbrev s__law_draw : Stmt := top 20
theorem sc__law_draw : FnScope ["state", "script", "size", "cell", "mixed_v", "digit"] ["state", "script", "size"] (defScope s__law_draw) := ⟨rfl, rfl, rfl, by decide +kernel, rfl, by decide +kernel, by decide +kernel⟩
abbrev s__law_digest : Stmt := top 21
theorem sc__law_digest : FnScope ["width", "tag", "numbers", "limbs", "number", "digits", "mask", "first", "second", "limb"] ["width", "tag", "numbers"] (defScope s__law_digest) := ⟨rfl, rfl, rfl, by decide +kernel, rfl, by decide +kernel, by decide +kernel⟩
abbrev s__law_input : Stmt := top 22
theorem sc__law_input : FnScope ["state", "script", "numbers", "k"] ["state", "script"] (defScope s__law_input) := ⟨rfl, rfl, rfl, by decide +kernel, rfl, by decide +kernel, by decide +kernel⟩
abbrev s_law : Stmt := top 23
theorem sc_law : FnScope ["script", "state", "width", "hasher", "inputs", "first", "second", "answer", "due", "bad", "k"] ["script"] (defScope s_law) := ⟨rfl, rfl, rfl, by decide +kernel, rfl, by decide +kernel, by decide +kernel⟩
structure Txt (K : PySem.W.Frag) (mg : Str → Option Value) where
  fd_Hasher___init__ : FuncData
  Hasher___init__ : MDef K mg "__init__" "Hasher.__init__" s_Hasher___init__ ["self", "width"] (He.fAd K ("Hasher", some "__init__")) fd_Hasher___init__
  fd_Hasher_digest : FuncData
  Hasher_digest : MDef K mg "digest" "Hasher.digest" s_Hasher_digest ["self", "tag", "numbers"] (He.fAd K ("Hasher", some "digest")) fd_Hasher_digest
  fd_limbs_of : FuncData
  limbs_of : Def K mg "limbs_of" "limbs_of" s_limbs_of ["numbers"] (He.fAd K ("limbs_of", none)) fd_limbs_of
  fd_mixed : FuncData
  mixed : Def K mg "mixed" "mixed" s_mixed ["limbs"] (He.fAd K ("mixed", none)) fd_mixed
  fd_collision : FuncData
  collision : Def K mg "collision" "collision" s_collision ["first", "second"] (He.fAd K ("collision", none)) fd_collision
  fd_is_collision : FuncData
  is_collision : Def K mg "is_collision" "is_collision" s_is_collision ["hasher", "answer"] (He.fAd K ("is_collision", none)) fd_is_collision
  fd_is_input : FuncData
  is_input : Def K mg "is_input" "is_input" s_is_input ["pair"] (He.fAd K ("is_input", none)) fd_is_input
  fd__law_draw : FuncData
  _law_draw : Def K mg "_law_draw" "_law_draw" s__law_draw ["state", "script", "size"] (He.fAd K ("_law_draw", none)) fd__law_draw
  fd__law_digest : FuncData
  _law_digest : Def K mg "_law_digest" "_law_digest" s__law_digest ["width", "tag", "numbers"] (He.fAd K ("_law_digest", none)) fd__law_digest
  fd__law_input : FuncData
  _law_input : Def K mg "_law_input" "_law_input" s__law_input ["state", "script"] (He.fAd K ("_law_input", none)) fd__law_input
  fd_law : FuncData
  law : Def K mg "law" "law" s_law ["script"] (He.fAd K ("law", none)) fd_law
  cl_Hasher : Cls K (He.ga K "Hasher")
  g_Hasher : mg "Hasher" = some (.ref (He.ga K "Hasher"))
  z_all : mg "all" = none
  z_int : mg "int" = none
  z_len : mg "len" = none
  z_list : mg "list" = none
  z_max : mg "max" = none
  z_range : mg "range" = none
  z_tuple : mg "tuple" = none
  c_FIRST_FACTOR : ∃ t, mg "FIRST_FACTOR" = some (.int 15241578750190521011 t)
  c_FIRST_SHIFT : ∃ t, mg "FIRST_SHIFT" = some (.int 31 t)
  c_FIRST_START : ∃ t, mg "FIRST_START" = some (.int 7263541890216354987 t)
  c_GREATEST_TAG : ∃ t, mg "GREATEST_TAG" = some (.int 15 t)
  c_LIMB_BITS : ∃ t, mg "LIMB_BITS" = some (.int 32 t)
  c_LIMB_MASK : ∃ t, mg "LIMB_MASK" = some (.int 4294967295 t)
  c_MIX_BITS : ∃ t, mg "MIX_BITS" = some (.int 128 t)
  c_SECOND_FACTOR : ∃ t, mg "SECOND_FACTOR" = some (.int 9764318250173649287 t)
  c_SECOND_SHIFT : ∃ t, mg "SECOND_SHIFT" = some (.int 29 t)
  c_SECOND_START : ∃ t, mg "SECOND_START" = some (.int 12985647301928374651 t)
  c_WORD_MASK : ∃ t, mg "WORD_MASK" = some (.int 18446744073709551615 t)
  me_Hasher_digest : Meth K (He.ga K "Hasher") "digest" (He.fAd K ("Hasher", some "digest"))
  mk_Hasher : Mk K (He.ga K "Hasher") (He.fAd K ("Hasher", some "__init__"))
  n_Hasher_width : NoAttr K (He.ga K "Hasher") "width"
section
variable {P : Program} {w : World} {K : PySem.W.Frag} {mg : Str → Option Value} {base : Heap}
/-! ### digests -/
def M64 : Int := 2 ^ 64 - 1
def stp (s : Int × Int) (l : Int) : Int × Int :=
  let f1 := Builtin.bitAnd (Builtin.bitXor s.1 l * 15241578750190521011) 18446744073709551615
  let f2 := Builtin.bitXor f1 (f1 / 2 ^ (31 : Int).toNat)
  let s1 := Builtin.bitAnd ((f2 + s.2) * 9764318250173649287) 18446744073709551615
  let s2 := Builtin.bitXor s1 (s1 / 2 ^ (29 : Int).toNat)
  (Builtin.bitAnd (f2 + s2) 18446744073709551615, s2)
def st0 : Int × Int := (7263541890216354987, 12985647301928374651)
def mixN (ls : List Int) : Int × Int := ls.foldl stp st0
def many (n : Int) : Nat := (Builtin.Int.intBits n + 31) / 32
def limb (n : Int) (p : Nat) : Int := Builtin.bitAnd (n / 2 ^ (p * 32)) 4294967295
def limbs1 (n : Int) : List Int := (many n : Int) :: (List.range (many n)).map (limb n)
def limbsN (ns : List Int) : List Int := ns.flatMap limbs1
def limbs (ns : List Int) : List Int := (ns.length : Int) :: limbsN ns
def dgst (w tag : Int) (ns : List Int) : Int := let m := mixN (tag :: limbs ns ++ [w, w]); (m.1 * 2 ^ 64 + m.2) / 2 ^ (128 - w).toNat
def U64 (x : Int) : Prop := 0 ≤ x ∧ x < 18446744073709551616
theorem and64 (x : Int) : Builtin.bitAnd x 18446744073709551615 = x % 18446744073709551616 := PySem.W.kbt_mask x 64
theorem and64_U (x : Int) : U64 (Builtin.bitAnd x 18446744073709551615) := by
  rw [and64]
  exact ⟨Int.emod_nonneg _ (by decide), Int.emod_lt_of_pos _ (by decide)⟩
theorem xorshr_U {x : Int} (h : U64 x) (k : Nat) : U64 (Builtin.bitXor x (x / 2 ^ k)) := by
  obtain ⟨a, rfl⟩ := Int.eq_ofNat_of_zero_le h.1
  have e : (a : Int) / 2 ^ k = ((a / 2 ^ k : Nat) : Int) := by rw [Int.natCast_ediv, PySem.W.kbt_cast]
  rw [e, Bits.bitXor_pp (Int.natCast_nonneg _) (Int.natCast_nonneg _), Int.toNat_natCast, Int.toNat_natCast]
  have ha : a < 2 ^ 64 := by have := h.2; omega
  have hb : a / 2 ^ k < 2 ^ 64 := Nat.lt_of_le_of_lt (Nat.div_le_self _ _) ha
  have := Nat.xor_lt_two_pow ha hb
  exact ⟨Int.natCast_nonneg _, by omega⟩
theorem stp_U (s : Int × Int) (l : Int) : U64 (stp s l).1 ∧ U64 (stp s l).2 := ⟨and64_U _, xorshr_U (and64_U _) _⟩
theorem fold_U : ∀ (ls : List Int) (s : Int × Int), U64 s.1 → U64 s.2 → U64 (ls.foldl stp s).1 ∧ U64 (ls.foldl stp s).2
  | [], s, h1, h2 => ⟨h1, h2⟩
  | l :: ls, s, _, _ => fold_U ls (stp s l) (stp_U s l).1 (stp_U s l).2
theorem st0_U : U64 st0.1 ∧ U64 st0.2 := ⟨⟨by decide, by decide⟩, ⟨by decide, by decide⟩⟩
theorem mix_U (ls : List Int) : U64 (mixN ls).1 ∧ U64 (mixN ls).2 := fold_U ls st0 st0_U.1 st0_U.2
theorem natAbs_U {x : Int} (h : U64 x) : x.natAbs < 2 ^ 64 := by obtain ⟨h1, h2⟩ := h; omega
theorem dgst_rng {w : Int} (h4 : 4 ≤ w) (h : w ≤ 128) (tag : Int) (ns : List Int) : 0 ≤ dgst w tag ns ∧ dgst w tag ns < 2 ^ w.toNat := by
  unfold dgst
  obtain ⟨⟨a0, a1⟩, ⟨b0, b1⟩⟩ := mix_U (tag :: limbs ns ++ [w, w])
  generalize mixN (tag :: limbs ns ++ [w, w]) = m at a0 a1 b0 b1 ⊢
  show 0 ≤ (m.1 * 2 ^ 64 + m.2) / 2 ^ (128 - w).toNat ∧ (m.1 * 2 ^ 64 + m.2) / 2 ^ (128 - w).toNat < 2 ^ w.toNat
  have hp : (0 : Int) < 2 ^ (128 - w).toNat := PySem.W.kbt_pos _
  refine ⟨Int.ediv_nonneg (by omega) (Int.le_of_lt hp), Int.ediv_lt_of_lt_mul hp ?_⟩
  rw [← Int.pow_add, show w.toNat + (128 - w).toNat = 128 by omega]
  omega
theorem limbs_snoc (ns : List Int) (n : Int) : limbsN (ns ++ [n]) = limbsN ns ++ limbs1 n := by
  unfold limbsN
  rw [List.flatMap_append]
  simp
def HsAt (C : Addr) (G : Hp) (h : Addr) (w : Int) : Prop := ∃ dx, G h = some (.ins C dx [("width", V.int w)])
theorem ex_h {C : Addr} {G G' : Hp} {h : Addr} {w : Int} (e : Ex G G') : HsAt C G h w → HsAt C G' h w := fun ⟨dx, g⟩ => ⟨dx, e _ _ g⟩
theorem limbs1_len (n : Int) : (limbs1 n).length = many n + 1 := by unfold limbs1; simp
theorem limbsN_le {ns : List Int} {b : Nat} (h : ∀ n ∈ ns, many n ≤ b) : (limbsN ns).length ≤ ns.length * (b + 1) := by
  induction ns with
  | nil => simp [limbsN]
  | cons n ns ih =>
    have h1 := h n (by simp)
    have h2 := ih fun m hm => h m (by simp [hm])
    have e : (limbsN (n :: ns)).length = (limbs1 n).length + (limbsN ns).length := by
      unfold limbsN
      rw [List.flatMap_cons, List.length_append]
    rw [e, limbs1_len, List.length_cons, Nat.add_mul]
    omega
theorem sz6 {n : Nat} (h : n ≤ 1000000) : n ≤ sizeLine := Nat.le_trans h (by decide)
theorem sz6' {n : Nat} (h : n < 1000000) : n < sizeLine := Nat.lt_of_lt_of_le h (by decide)
theorem sub_len {ns : List Int} {i : Nat} : (limbsN (ns.take i)).length ≤ (limbsN ns).length := by
  conv => rhs; rw [← List.take_append_drop i ns]
  unfold limbsN
  rw [List.flatMap_append, List.length_append]
  omega
theorem take_snoc {ns : List Int} {i : Nat} {n : Int} (h : ns[i]? = some n) : ns.take (i + 1) = ns.take i ++ [n] := by rw [List.take_add_one, h]; rfl
theorem int_at {ns : List Int} {i : Nat} {x : V} (h : (ns.map V.int)[i]? = some x) : ∃ n, x = .int n ∧ ns[i]? = some n := by
  rw [List.getElem?_map] at h
  obtain ⟨n, e, rfl⟩ := Option.map_eq_some_iff.mp h
  exact ⟨n, rfl, e⟩
def sp_limbs_of (K : PySem.W.Frag) : Sp := spA (fun (x : Addr × List Int) vs G => vs = [.ref x.1] ∧ SqS K G x.1 (x.2.map V.int) ∧ (limbs x.2).length ≤ 100000) fun x v G' => ∃ p, v = .ref p ∧ G' p = some (.lst ((limbs x.2).map V.int))
theorem ok_limbs_of (T : Txt K mg) : FnOk P w K mg base CX0 1 (He.fAd K ("limbs_of", none)) T.fd_limbs_of ["numbers"] (sp_limbs_of K) := by
  refine T.limbs_of.F.ok sc_limbs_of (fun vs H Q E h => ?_) (fun cdv A outer s H vs Q E hr h => ?_)
  · obtain ⟨_, _, _, ⟨rfl, _⟩, _⟩ := h
    rfl
  · obtain ⟨⟨a, ns⟩, G, e0, ⟨rfl, hS, hz⟩, q⟩ := h
    replace hz : (limbs ns).length ≤ 100000 := hz
    have hz' : (limbsN ns).length < 100000 := by unfold limbs at hz; rw [List.length_cons] at hz; omega
    replace hS : SqS K G a (ns.map V.int) := hS
    refine ⟨_, PSs.nox (pss_cons (ps_set (i := 1) sc_limbs_of.nd rfl (Or.inl rfl) (pe_lst (pa_cons (pe_callB (kq_len (K := K)) (by rfl) T.z_len (by decide +kernel) (pa_cons (pv 0) pa_nil)) pa_nil)))
  (pss_cons (ps_for PassesOwn.never rfl (ki_seq (K := K) (pv 0)) (pg_name (i := 2) sc_limbs_of.nd rfl (Or.inl rfl)) (pss_cons (ps_set (i := 3) sc_limbs_of.nd rfl (Or.inl rfl) (pe_op op_fdivW (pe_op op_sub (pe_op op_add (pe_bits (pv 2)) (pe_glob (v := .int 32) rfl T.c_LIMB_BITS.choose_spec ⟨_, rfl⟩)) pe_int) (pe_glob (v := .int 32) rfl T.c_LIMB_BITS.choose_spec ⟨_, rfl⟩)))
  (pss_cons (ps_expr (pe_bm PySem.F.plainAttrs_list PySem.F.slot_list_append PySem.F.type_list_append mt_append (pv 1) (pa_cons (pv 3) pa_nil)))
  (pss_one (ps_for PassesOwn.never rfl (pi_range1 rfl T.z_range (pa_cons (pv 3) pa_nil)) (pg_name (i := 4) sc_limbs_of.nd rfl (Or.inl rfl)) (pss_one (ps_expr (pe_bm PySem.F.plainAttrs_list PySem.F.slot_list_append PySem.F.type_list_append mt_append (pv 1) (pa_cons (pe_op op_and (pe_op op_shr (pv 2) (pe_op op_mul (pv 4) (pe_glob (v := .int 32) rfl T.c_LIMB_BITS.choose_spec ⟨_, rfl⟩))) (pe_glob (v := .int 4294967295) rfl T.c_LIMB_MASK.choose_spec ⟨_, rfl⟩)) pa_nil)))))))))
  (pss_one (ps_ret (pv 1))))), ?_⟩
    refine (show SM (V0 H G) _ _ _ G from ?_) H (J.start e0)
    walk_at "go"
    refine em_lst ?_
    walk_at "go"
    refine rm_lenS hS ?_
    walk_at "go"
    refine ⟨by show 1 ≤ sizeLine; decide, fun l G1 gl e1 gl1 => ?_⟩
    walk_at "go"
    have hge : (V0 H G).Ge l = none := gl
    refine sm_forS (fun i σ G' => ∃ v2 v3 v4, σ = [some (.ref a), some (.ref l), v2, v3, v4] ∧ Ex G G' ∧ G' l = some (.lst (((ns.length : Int) :: limbsN (ns.take i)).map V.int))) hS e1 ?_ ?_ (fun i σ' G' ⟨_, _, _, _, e, _⟩ => e) ?_ ?_
    · walk_at "go"
      exact ⟨rfl, rfl⟩
    · exact ⟨none, none, none, rfl, e1, by rw [gl1, List.length_map]; rfl⟩
    · rintro i x σ' G' hx ⟨v2, v3, v4, rfl, e2, g2⟩
      obtain ⟨n, rfl, hn⟩ := int_at hx
      have hle : (limbsN (ns.take (i + 1))).length ≤ (limbsN ns).length := sub_len
      rw [take_snoc hn, limbs_snoc, List.length_append, limbs1_len] at hle
      walk_at "go"
      have hm : ((Builtin.Int.intBits n : Nat) + 32 - 1 : Int) / 32 = (many n : Nat) := by unfold many; omega
      rw [hm]
      refine em_append (l := l) (xs := ((ns.length : Int) :: limbsN (ns.take i)).map V.int) ?_
      walk_at "go"
      refine ⟨rfl, g2, ?_⟩
      walk_at "go"
      refine ⟨g2, hge, ?_, ?_⟩
      · rw [List.length_map, List.length_cons]; exact sz6' (by omega)
      walk_at "go"
      refine sm_forR1 ?_
      walk_at "go"
      refine ⟨many n, rfl, by omega, by omega, fun p σ G'' => ∃ v4, σ = [some (.ref a), some (.ref l), some (.int n), some (.int (many n : Nat)), v4] ∧ Ex G G'' ∧ G'' l = some (.lst (((ns.length : Int) :: (limbsN (ns.take i) ++ ((many n : Int) :: (List.range p).map (limb n)))).map V.int)), ?_, ?_, ?_⟩
      · refine ⟨_, rfl, Ex.mut e2 gl, ?_⟩
        rw [upd_same]
        simp
      · rintro p σ' G'' hp ⟨v4, rfl, e3, g3⟩
        walk_at "go"
        refine em_append (l := l) (xs := ((ns.length : Int) :: (limbsN (ns.take i) ++ ((many n : Int) :: (List.range p).map (limb n)))).map V.int) ?_
        walk_at "go"
        refine ⟨rfl, g3, ?_⟩
        walk_at "go"
        refine ⟨g3, hge, ?_, ?_⟩
        · rw [List.length_map, List.length_cons, List.length_append, List.length_cons, List.length_map, List.length_range]; exact sz6' (by omega)
        · refine km_kj ⟨_, rfl, Ex.mut e3 gl, ?_⟩
          rw [upd_same, List.range_succ, List.map_append]
          have e : (((p : Nat) : Int) * 32).toNat = p * 32 := by omega
          rw [e]
          simp [limb]
      · rintro σ' G'' ⟨v4, rfl, e3, g3⟩
        refine km_kj ⟨_, _, _, rfl, e3, ?_⟩
        rw [g3, take_snoc hn, limbs_snoc, Int.toNat_natCast]
        rfl
    · rintro σ' G' ⟨v2, v3, v4, rfl, e2, g2⟩
      walk_at "go"
      refine kv_ret q e2 ⟨l, rfl, ?_⟩
      rw [g2, List.length_map, List.take_length]
      rfl
def sp_mixed (K : PySem.W.Frag) : Sp := spA (fun (x : Addr × List Int) vs G => vs = [.ref x.1] ∧ SqL K G x.1 (x.2.map V.int)) fun x v _ => v = .int ((mixN x.2).1 * 2 ^ 64 + (mixN x.2).2)
theorem ok_mixed (T : Txt K mg) : FnOk P w K mg base CX0 1 (He.fAd K ("mixed", none)) T.fd_mixed ["limbs"] (sp_mixed K) := by
  refine T.mixed.F.ok sc_mixed (fun vs H Q E h => ?_) (fun cdv A outer s H vs Q E hr h => ?_)
  · obtain ⟨_, _, _, ⟨rfl, _⟩, _⟩ := h
    rfl
  · obtain ⟨⟨a, ls⟩, G, e0, ⟨rfl, hS⟩, q⟩ := h
    replace hS : SqL K G a (ls.map V.int) := hS
    refine ⟨_, PSs.nox (pss_cons (ps_set (i := 1) sc_mixed.nd rfl (Or.inl rfl) (pe_glob (v := .int 7263541890216354987) rfl T.c_FIRST_START.choose_spec ⟨_, rfl⟩))
  (pss_cons (ps_set (i := 2) sc_mixed.nd rfl (Or.inl rfl) (pe_glob (v := .int 12985647301928374651) rfl T.c_SECOND_START.choose_spec ⟨_, rfl⟩))
  (pss_cons (ps_for PassesOwn.never rfl (ki_list (K := K) (pv 0)) (pg_name (i := 3) sc_mixed.nd rfl (Or.inl rfl)) (pss_cons (ps_set (i := 1) sc_mixed.nd rfl (Or.inl rfl) (pe_op op_and (pe_op op_mul (pe_op op_xor (pv 1) (pv 3)) (pe_glob (v := .int 15241578750190521011) rfl T.c_FIRST_FACTOR.choose_spec ⟨_, rfl⟩)) (pe_glob (v := .int 18446744073709551615) rfl T.c_WORD_MASK.choose_spec ⟨_, rfl⟩)))
  (pss_cons (ps_set (i := 1) sc_mixed.nd rfl (Or.inl rfl) (pe_op op_xor (pv 1) (pe_op op_shr (pv 1) (pe_glob (v := .int 31) rfl T.c_FIRST_SHIFT.choose_spec ⟨_, rfl⟩))))
  (pss_cons (ps_set (i := 2) sc_mixed.nd rfl (Or.inl rfl) (pe_op op_and (pe_op op_mul (pe_op op_add (pv 1) (pv 2)) (pe_glob (v := .int 9764318250173649287) rfl T.c_SECOND_FACTOR.choose_spec ⟨_, rfl⟩)) (pe_glob (v := .int 18446744073709551615) rfl T.c_WORD_MASK.choose_spec ⟨_, rfl⟩)))
  (pss_cons (ps_set (i := 2) sc_mixed.nd rfl (Or.inl rfl) (pe_op op_xor (pv 2) (pe_op op_shr (pv 2) (pe_glob (v := .int 29) rfl T.c_SECOND_SHIFT.choose_spec ⟨_, rfl⟩))))
  (pss_one (ps_set (i := 1) sc_mixed.nd rfl (Or.inl rfl) (pe_op op_and (pe_op op_add (pv 1) (pv 2)) (pe_glob (v := .int 18446744073709551615) rfl T.c_WORD_MASK.choose_spec ⟨_, rfl⟩)))))))))
  (pss_one (ps_ret (pe_op op_or (pe_op op_shl (pv 1) pe_int) (pv 2))))))), ?_⟩
    refine (show SM (V0 H G) _ _ _ G from ?_) H (J.start e0)
    walk_at "go"
    refine sm_forL ?_
    walk_at "go"
    refine ⟨a, _, rfl, hS, fun i σ G' => ∃ v3, σ = [some (.ref a), some (.int (mixN (ls.take i)).1), some (.int (mixN (ls.take i)).2), v3] ∧ G' = G, ⟨none, rfl, rfl⟩, fun i σ' G' _ ⟨_, _, e⟩ => by rw [e]; exact hS, ?_, ?_⟩
    · rintro i x σ' G' hx ⟨v3, rfl, rfl⟩
      obtain ⟨n, rfl, hn⟩ := int_at hx
      walk_at "go"
      refine km_kj ⟨some (.int n), ?_, rfl⟩
      have e : mixN (ls.take (i + 1)) = stp (mixN (ls.take i)) n := by
        unfold mixN
        rw [take_snoc hn, List.foldl_append]
        rfl
      rw [e]
      rfl
    · rintro σ' G' ⟨v3, rfl, rfl⟩
      rw [List.length_map, List.take_length]
      obtain ⟨u1, u2⟩ := mix_U ls
      walk_at "go"
      refine rm_I ⟨by decide, by decide, natAbs_U u1⟩ ?_
      walk_at "go"
      refine kv_ret q (Ex.refl _) ?_
      show V.int (Builtin.bitOr ((mixN ls).1 * 2 ^ 64) (mixN ls).2) = _
      rw [or_low (k := 64) u1.1 u2.1 (by have := u2.2; omega)]
def sp_Hasher___init__ (K : PySem.W.Frag) : Sp := fun vs H Q _ => ∃ (x dx C : Addr) (w : Int), vs = [.ref x, .int w] ∧ C = He.ga K "Hasher" ∧ H x = some (.ins C dx []) ∧ ∀ H', (∀ b o, b ≠ x → H b = some o → H' b = some o) → H' x = some (.ins C dx [("width", V.int w)]) → Q .non H'
theorem ok_Hasher___init__ (T : Txt K mg) : FnOk P w K mg base CX0 1 (He.fAd K ("Hasher", some "__init__")) T.fd_Hasher___init__ ["self", "width"] (sp_Hasher___init__ K) := by
  refine T.Hasher___init__.F.ok sc_Hasher___init__ (fun vs H Q E h => ?_) (fun cdv A outer s H vs Q E hr h => ?_)
  · obtain ⟨x, dx, C, w, rfl, _⟩ := h
    rfl
  · obtain ⟨x, dx, C, w, rfl, rfl, hx, q⟩ := h
    refine ⟨_, PSs.nox (pss_one (ps_fld (pv 0) (pv 1) rfl)), ?_⟩
    refine ⟨_, rfl, _, rfl, x, _, dx, [], rfl, hx, T.cl_Hasher, T.n_Hasher_width, (by show 0 < 1000; decide), ?_⟩
    exact q _ (fun b o nb e => by rw [upd_ne nb]; exact e) upd_same
def sp_Hasher_digest (K : PySem.W.Frag) : Sp := spA (fun (x : Addr × Int × Int × Addr × List Int) vs G => vs = [.ref x.1, .int x.2.2.1, .ref x.2.2.2.1] ∧ HsAt (He.ga K "Hasher") G x.1 x.2.1 ∧ 0 ≤ x.2.1 ∧ x.2.1 ≤ 128 ∧ SqS K G x.2.2.2.1 (x.2.2.2.2.map V.int) ∧ (limbs x.2.2.2.2).length ≤ 99000) fun x v _ => v = .int (dgst x.2.1 x.2.2.1 x.2.2.2.2)
theorem ok_Hasher_digest (T : Txt K mg) : FnOk P w K mg base CX0 2 (He.fAd K ("Hasher", some "digest")) T.fd_Hasher_digest ["self", "tag", "numbers"] (sp_Hasher_digest K) := by
  refine T.Hasher_digest.F.ok sc_Hasher_digest (fun vs H Q E h => ?_) (fun cdv A outer s H vs Q E hr h => ?_)
  · obtain ⟨_, _, _, ⟨rfl, _⟩, _⟩ := h
    rfl
  · obtain ⟨⟨a, w, t, b, ns⟩, G, e0, ⟨rfl, ⟨dx, hh⟩, hw0, hw1, hS, hz⟩, q⟩ := h
    replace hh : G a = some (.ins (He.ga K "Hasher") dx [("width", V.int w)]) := hh
    replace hw0 : 0 ≤ w := hw0
    replace hw1 : w ≤ 128 := hw1
    replace hS : SqS K G b (ns.map V.int) := hS
    replace hz : (limbs ns).length ≤ 99000 := hz
    refine ⟨_, PSs.nox (pss_cons (ps_set (i := 3) sc_Hasher_digest.nd rfl (Or.inl rfl) (pe_call (ok_mixed T) (hr.mono (by decide)) (by rfl) T.mixed.g T.mixed.F.kp T.mixed.b .nil pass0 (pa_cons (pe_lst (pa_cons (pv 1) (ka_star (K := K) (pe_call (ok_limbs_of T) (hr.mono (by decide)) (by rfl) T.limbs_of.g T.limbs_of.F.kp T.limbs_of.b .nil pass0 (pa_cons (pv 2) pa_nil)) (pa_cons (ke_fld (K := K) (pv 0)) (pa_cons (ke_fld (K := K) (pv 0)) pa_nil))))) pa_nil)))
  (pss_one (ps_ret (pe_op op_shr (pv 3) (pe_callB cq_max (by rfl) T.z_max (by decide +kernel) (pa_cons pe_int (pa_cons (pe_op op_sub (pe_glob (v := .int 128) rfl T.c_MIX_BITS.choose_spec ⟨_, rfl⟩) (ke_fld (K := K) (pv 0))) pa_nil))))))), ?_⟩
    refine (show SM (V0 H G) _ _ _ G from ?_) H (J.start e0)
    walk_at "go"
    refine em_lst ?_
    walk_at "go"
    refine am_star ?_
    walk_at "go"
    refine cm_a (b, ns) ⟨rfl, hS, by show (limbs ns).length ≤ 100000; omega⟩ fun v G1 e1 hv => ?_
    obtain ⟨p, rfl, gp⟩ := hv
    refine ⟨p, _, rfl, .inr (sq_of gp), ?_⟩
    walk_at "go"
    refine fm (e1 _ _ hh) T.cl_Hasher T.n_Hasher_width rfl ?_
    walk_at "go"
    refine fm (e1 _ _ hh) T.cl_Hasher T.n_Hasher_width rfl ?_
    walk_at "go"
    refine ⟨?_, fun l G2 gl e2 gl2 => ?_⟩
    · show (V.int t :: ((limbs ns).map V.int ++ [V.int w, V.int w])).length ≤ sizeLine
      rw [List.length_cons, List.length_append, List.length_map]
      exact sz6 (by show (limbs ns).length + 2 + 1 ≤ _; omega)
    have el : (V.int t :: ((limbs ns).map V.int ++ [V.int w, V.int w])) = (t :: limbs ns ++ [w, w]).map V.int := by simp
    walk_at "go"
    refine cm_a (l, t :: limbs ns ++ [w, w]) ⟨rfl, sq_of (by rw [gl2]; exact congrArg (fun z => some (HO.lst z)) el)⟩ fun v G3 e3 hv => ?_
    cases hv
    walk_at "go"
    refine fm (e3 _ _ (e2 _ _ (e1 _ _ hh))) T.cl_Hasher T.n_Hasher_width rfl ?_
    walk_at "go"
    refine kv_ret q (e1.trans (e2.trans e3)) ?_
    show V.int (_ / 2 ^ (if 128 - w > 0 then 128 - w else 0).toNat) = V.int (_ / 2 ^ (128 - w).toNat)
    rw [show (if 128 - w > 0 then 128 - w else 0).toNat = (128 - w).toNat by split <;> omega]

/-! ### the law's own digest -/
theorem many_pos {n : Int} (h : 0 ≤ n) (j : Nat) : n / 2 ^ (j * 32) > 0 ↔ j < many n := by
  obtain ⟨a, rfl⟩ := Int.eq_ofNat_of_zero_le h
  have e : (a : Int) / 2 ^ (j * 32) = ((a / 2 ^ (j * 32) : Nat) : Int) := by rw [Int.natCast_ediv, PySem.W.kbt_cast]
  rw [e]
  have hb : Builtin.Int.intBits (a : Int) = if a = 0 then 0 else a.log2 + 1 := by
    unfold Builtin.Int.intBits
    by_cases z : a = 0
    · subst z; rfl
    · rw [if_neg (show ¬ ((a : Int) == 0) = true by simpa using z), if_neg z]; rfl
  unfold many
  rw [hb]
  have hp : 0 < 2 ^ (j * 32) := Nat.pow_pos (by decide)
  by_cases z : a = 0
  · subst z
    rw [if_pos rfl]
    simp
  · rw [if_neg z]
    have h1 : 0 < a / 2 ^ (j * 32) ↔ 2 ^ (j * 32) ≤ a := by
      rw [Nat.div_pos_iff]
      exact ⟨fun q => q.2, fun q => ⟨hp, q⟩⟩
    have h2 : 2 ^ (j * 32) ≤ a ↔ j * 32 ≤ a.log2 := (Nat.le_log2 z).symm
    constructor
    · intro q
      have := h2.mp (h1.mp (by omega))
      omega
    · intro q
      have := h1.mpr (h2.mpr (by omega))
      omega
theorem shr32 (n : Int) (j : Nat) : n / 2 ^ (j * 32) / 2 ^ (Int.toNat 32) = n / 2 ^ ((j + 1) * 32) := by
  rw [Int.ediv_ediv_of_nonneg (Int.le_of_lt (PySem.W.kbt_pos _)), ← Int.pow_add, show j * 32 + Int.toNat 32 = (j + 1) * 32 by omega]
def sp__law_digest (K : PySem.W.Frag) : Sp := spA (fun (x : Int × Int × Addr × List Int) vs G => vs = [.int x.1, .int x.2.1, .ref x.2.2.1] ∧ 4 ≤ x.1 ∧ x.1 ≤ 128 ∧ SqS K G x.2.2.1 (x.2.2.2.map V.int) ∧ (∀ n ∈ x.2.2.2, 0 ≤ n) ∧ (limbs x.2.2.2).length ≤ 99000) fun x v _ => v = .int (dgst x.1 x.2.1 x.2.2.2)
theorem ok__law_digest (T : Txt K mg) : FnOk P w K mg base CX0 1 (He.fAd K ("_law_digest", none)) T.fd__law_digest ["width", "tag", "numbers"] (sp__law_digest K) := by
  refine T._law_digest.F.ok sc__law_digest (fun vs H Q E h => ?_) (fun cdv A outer s H vs Q E hr h => ?_)
  · obtain ⟨_, _, _, ⟨rfl, _⟩, _⟩ := h
    rfl
  · obtain ⟨⟨w, t, a, ns⟩, G, e0, ⟨rfl, hw0, hw1, hS, hn, hz⟩, q⟩ := h
    replace hw0 : 4 ≤ w := hw0
    replace hw1 : w ≤ 128 := hw1
    replace hS : SqS K G a (ns.map V.int) := hS
    replace hn : ∀ n ∈ ns, 0 ≤ n := hn
    replace hz : (limbs ns).length ≤ 99000 := hz
    have hz' : (limbsN ns).length < 99000 := by unfold limbs at hz; rw [List.length_cons] at hz; omega
    refine ⟨_, PSs.nox (pss_cons (ps_set (i := 3) sc__law_digest.nd rfl (Or.inl rfl) (pe_lst (pa_cons (pv 1) (pa_cons (pe_callB (kq_len (K := K)) (by rfl) T.z_len (by decide +kernel) (pa_cons (pv 2) pa_nil)) pa_nil))))
  (pss_cons (ps_for PassesOwn.never rfl (ki_seq (K := K) (pv 2)) (pg_name (i := 4) sc__law_digest.nd rfl (Or.inl rfl)) (pss_cons (ps_set (i := 5) sc__law_digest.nd rfl (Or.inl rfl) (pe_lst pa_nil))
  (pss_cons (ps_while PassesOwn.never (pt_cmpR (op_gt) (pv 4) pe_int (nomark _)) (pss_cons (ps_expr (pe_bm PySem.F.plainAttrs_list PySem.F.slot_list_append PySem.F.type_list_append mt_append (pv 5) (pa_cons (pe_op op_and (pv 4) pe_int) pa_nil)))
  (pss_one (ps_set (i := 4) sc__law_digest.nd rfl (Or.inl rfl) (pe_op op_shr (pv 4) pe_int)))))
  (pss_one (ps_set (i := 3) sc__law_digest.nd rfl (Or.inl rfl) (pe_op op_cat (pe_op op_cat (pv 3) (pe_lst (pa_cons (pe_callB (kq_len (K := K)) (by rfl) T.z_len (by decide +kernel) (pa_cons (pv 5) pa_nil)) pa_nil))) (pv 5)))))))
  (pss_cons (ps_set (i := 6) sc__law_digest.nd rfl (Or.inl rfl) (pe_op op_sub (pe_op op_shl pe_int pe_int) pe_int))
  (pss_cons (ps_set (i := 7) sc__law_digest.nd rfl (Or.inl rfl) pe_int)
  (pss_cons (ps_set (i := 8) sc__law_digest.nd rfl (Or.inl rfl) pe_int)
  (pss_cons (ps_for PassesOwn.never rfl (ki_list (K := K) (pe_op op_cat (pv 3) (pe_lst (pa_cons (pv 0) (pa_cons (pv 0) pa_nil))))) (pg_name (i := 9) sc__law_digest.nd rfl (Or.inl rfl)) (pss_cons (ps_set (i := 7) sc__law_digest.nd rfl (Or.inl rfl) (pe_op op_and (pe_op op_mul (pe_op op_xor (pv 7) (pv 9)) pe_int) (pv 6)))
  (pss_cons (ps_set (i := 7) sc__law_digest.nd rfl (Or.inl rfl) (pe_op op_xor (pv 7) (pe_op op_shr (pv 7) pe_int)))
  (pss_cons (ps_set (i := 8) sc__law_digest.nd rfl (Or.inl rfl) (pe_op op_and (pe_op op_mul (pe_op op_add (pv 8) (pv 7)) pe_int) (pv 6)))
  (pss_cons (ps_set (i := 8) sc__law_digest.nd rfl (Or.inl rfl) (pe_op op_xor (pv 8) (pe_op op_shr (pv 8) pe_int)))
  (pss_one (ps_set (i := 7) sc__law_digest.nd rfl (Or.inl rfl) (pe_op op_and (pe_op op_add (pv 7) (pv 8)) (pv 6)))))))))
  (pss_one (ps_ret (pe_op op_shr (pe_op op_add (pe_op op_shl (pv 7) pe_int) (pv 8)) (pe_op op_sub pe_int (pv 0))))))))))), ?_⟩
    refine (show SM (V0 H G) _ _ _ G from ?_) H (J.start e0)
    walk_at "go"
    refine em_lst ?_
    walk_at "go"
    refine rm_lenS hS ?_
    walk_at "go"
    refine ⟨by show 2 ≤ sizeLine; decide, fun l G1 gl e1 gl1 => ?_⟩
    walk_at "go"
    refine sm_forS (fun i σ G' => ∃ l v4 v5 v6 v7 v8 v9, σ = [some (.int w), some (.int t), some (.ref a), some (.ref l), v4, v5, v6, v7, v8, v9] ∧ Ex G G' ∧ G' l = some (.lst ((t :: (ns.length : Int) :: limbsN (ns.take i)).map V.int))) hS e1 ?_ ?_ (fun i σ' G' ⟨_, _, _, _, _, _, _, _, e, _⟩ => e) ?_ ?_
    · walk_at "go"
      exact ⟨rfl, rfl⟩
    · exact ⟨l, none, none, none, none, none, none, rfl, e1, by rw [gl1, List.length_map]; rfl⟩
    · rintro i x σ' G' hx ⟨l, v4, v5, v6, v7, v8, v9, rfl, e2, g2⟩
      obtain ⟨n, rfl, hni⟩ := int_at hx
      have n0 := hn n (List.mem_of_getElem? hni)
      have hle : (limbsN (ns.take (i + 1))).length ≤ (limbsN ns).length := sub_len
      rw [take_snoc hni, limbs_snoc, List.length_append, limbs1_len] at hle
      walk_at "go"
      refine em_lst ?_
      walk_at "go"
      refine ⟨by show 0 ≤ sizeLine; decide, fun d G2 gd e3 gd2 => ?_⟩
      have hge : (V0 H G).Ge d = none := none_of_ex e2 gd
      have g3 := e3 _ _ g2
      walk_at "go"
      refine sm_while (fun mm σ G'' => ∃ j, mm = many n - j ∧ j ≤ many n ∧ σ = [some (.int w), some (.int t), some (.ref a), some (.ref l), some (.int (n / 2 ^ (j * 32))), some (.ref d), v6, v7, v8, v9] ∧ Ex G' G'' ∧ G'' d = some (.lst (((List.range j).map (limb n)).map V.int))) (many n) ?_ ?_
      · refine ⟨0, rfl, Nat.zero_le _, ?_, e3, gd2⟩
        simp
      · rintro mm σ' G'' ⟨j, rfl, hj, rfl, e4, g4⟩
        walk_at "go"
        refine ifd (fun hm => ?_) (fun hm => ?_)
        · have hj2 := (many_pos n0 j).mp hm
          walk_at "go"
          refine em_append (l := d) (xs := ((List.range j).map (limb n)).map V.int) ?_
          walk_at "go"
          refine ⟨rfl, g4, ?_⟩
          walk_at "go"
          refine ⟨g4, hge, by rw [List.length_map, List.length_map, List.length_range]; exact sz6' (by omega), ?_⟩
          walk_at "go"
          rw [shr32]
          refine km_kj ⟨many n - (j + 1), by omega, j + 1, rfl, hj2, rfl, Ex.mut e4 gd, ?_⟩
          rw [upd_same, List.range_succ, List.map_append, List.map_append]
          rfl
        · have hj2 : j = many n := by
            have := mt (many_pos n0 j).mpr hm
            omega
          subst hj2
          have g5 := e4 _ _ g2
          walk_at "go"
          refine em_lst ?_
          walk_at "go"
          refine ⟨by show 1 ≤ sizeLine; decide, fun r G5 _ e5 gr => ?_⟩
          refine rm_cat (e5 _ _ g5) gr ?_ fun r2 G6 _ e6 gr2 => ?_
          · rw [List.length_map]; exact sz6 (by simp; have : (limbsN (ns.take i)).length ≤ (limbsN ns).length := sub_len
                                                omega)
          walk_at "go"
          refine rm_cat gr2 (e6 _ _ (e5 _ _ g4)) ?_ fun r3 G7 _ e7 gr3 => ?_
          · rw [List.length_append, List.length_map, List.length_map, List.length_map]; exact sz6 (by simp; have : (limbsN (ns.take i)).length ≤ (limbsN ns).length := sub_len
                                                                                                      omega)
          walk_at "go"
          refine km_kj ⟨r3, _, _, _, _, _, _, rfl, (e2.trans e4).trans ((e5.trans e6).trans e7), ?_⟩
          rw [gr3, take_snoc hni, limbs_snoc]
          simp [limbs1]
    · rintro σ' G' ⟨l, v4, v5, v6, v7, v8, v9, rfl, e2, g2⟩
      rw [List.length_map, List.take_length] at g2
      walk_at "go"
      refine sm_forL ?_
      walk_at "go"
      refine em_lst ?_
      walk_at "go"
      refine ⟨by show 2 ≤ sizeLine; decide, fun r G5 _ e5 gr => ?_⟩
      refine rm_cat (e5 _ _ g2) gr ?_ fun r2 G6 _ e6 gr2 => ?_
      · rw [List.length_map]; exact sz6 (by simp; omega)
      have el : (t :: (ns.length : Int) :: limbsN ns).map V.int ++ [V.int w, V.int w] = (t :: limbs ns ++ [w, w]).map V.int := by simp [limbs]
      rw [el] at gr2
      refine ⟨r2, _, rfl, sq_of gr2, fun i σ G' => ∃ v9, σ = [some (.int w), some (.int t), some (.ref a), some (.ref l), v4, v5, some (.int 18446744073709551615), some (.int (mixN ((t :: limbs ns ++ [w, w]).take i)).1), some (.int (mixN ((t :: limbs ns ++ [w, w]).take i)).2), v9] ∧ G' = G6, ⟨v9, ?_, rfl⟩, fun i σ' G' _ ⟨_, _, e⟩ => by rw [e]; exact sq_of gr2, ?_, ?_⟩
      · rfl
      · rintro i x σ' G' hx ⟨v9, rfl, rfl⟩
        obtain ⟨n, rfl, hni⟩ := int_at hx
        walk_at "go"
        refine km_kj ⟨some (.int n), ?_, rfl⟩
        have e : mixN ((t :: limbs ns ++ [w, w]).take (i + 1)) = stp (mixN ((t :: limbs ns ++ [w, w]).take i)) n := by
          unfold mixN
          rw [take_snoc hni, List.foldl_append]
          rfl
        rw [e, stp, Int.add_comm (Builtin.bitXor _ _) (mixN _).2]
        rfl
      · rintro σ' G' ⟨v9, rfl, rfl⟩
        rw [List.length_map, List.take_length]
        obtain ⟨u1, u2⟩ := mix_U (t :: limbs ns ++ [w, w])
        walk_at "go"
        refine rm_I ⟨by decide, by decide, natAbs_U u1⟩ ?_
        walk_at "go"
        refine kv_ret q (e2.trans (e5.trans e6)) rfl

def sp__law_draw (K : PySem.W.Frag) : Sp := spDraw K
theorem ok__law_draw (T : Txt K mg) : FnOk P w K mg base CX0 1 (He.fAd K ("_law_draw", none)) T.fd__law_draw ["state", "script", "size"] (sp__law_draw K) := by
  refine T._law_draw.F.ok sc__law_draw (fun vs H Q E h => ?_) (fun cdv A outer s H vs Q E hr h => ?_)
  · obtain ⟨st, sc, ns, a, b, sz, rfl, _⟩ := h
    rfl
  · obtain ⟨st, sc, ns, a, b, sz, rfl, hst, ha, hb, hS0, h0, hz, q⟩ := h
    refine ⟨_, PSs.nox (pss_cons (ps_cut (ps_if (pt_cmpR (op_eq) (pe_ix (kx_list (K := K)) (pv 0) pe_int (fun _ _ => rfl)) pe_int (nomark _)) (pss_cons (ps_set (i := 3) sc__law_draw.nd rfl (Or.inl rfl) pe_int)
  (pss_cons (ps_cut (ps_if (pt_cmpR (op_gt) (pe_callB (kq_len (K := K)) (by rfl) T.z_len (by decide +kernel) (pa_cons (pv 1) pa_nil)) pe_int (nomark _)) (pss_one (ps_set (i := 3) sc__law_draw.nd rfl (Or.inl rfl) (pe_ix (kx_list (K := K)) (pv 1) (pe_op op_mod (pe_ix (kx_list (K := K)) (pv 0) pe_int (fun _ _ => rfl)) (pe_callB (kq_len (K := K)) (by rfl) T.z_len (by decide +kernel) (pa_cons (pv 1) pa_nil))) (fun _ _ => rfl)))) pss_nil))
  (pss_cons (ps_cut (ps_if (pt_cmpR (op_lt) (pv 3) pe_int (nomark _)) (pss_one (ps_set (i := 3) sc__law_draw.nd rfl (Or.inl rfl) (pe_op op_sub pe_int (pe_op op_mul pe_int (pv 3))))) pss_nil))
  (pss_cons (ps_set (i := 4) sc__law_draw.nd rfl (Or.inl rfl) (pe_op op_mod (pe_callTy cq_int (by rfl) T.z_int (by decide +kernel) (pa_cons (pe_op op_mul (pe_op op_add (pe_op op_add (pv 3) (pe_op op_mul (pe_ix (kx_list (K := K)) (pv 0) pe_int (fun _ _ => rfl)) pe_int)) pe_int) pe_int) pa_nil)) pe_int))
  (pss_cons (ps_asg (pe_op op_mod (pe_callTy cq_int (by rfl) T.z_int (by decide +kernel) (pa_cons (pe_op op_add (pe_op op_mul (pv 4) pe_int) (pe_op op_mul (pe_ix (kx_list (K := K)) (pv 0) pe_int (fun _ _ => rfl)) pe_int)) pa_nil)) pe_int) (pg_sub (pv 0) pe_int set_list))
  (pss_cons (ps_cut (ps_if (PW.pt (pw_and (pt_cmpR (op_ge) (pv 3) (pe_op op_pow pe_int pe_int) (nomark _)) (pw_and1 (pt_cmpR (op_lt) (pe_ix (kx_list (K := K)) (pv 0) pe_int (fun _ _ => rfl)) (pe_callB (kq_len (K := K)) (by rfl) T.z_len (by decide +kernel) (pa_cons (pv 1) pa_nil)) (nomark _))))) (pss_one (ps_asg (pv 3) (pg_sub (pv 0) pe_int set_list))) pss_nil))
  (pss_one (ps_asg (pe_op op_add (pe_ix (kx_list (K := K)) (pv 0) pe_int (fun _ _ => rfl)) pe_int) (pg_sub (pv 0) pe_int set_list))))))))) pss_nil))
  (pss_cons (ps_set (i := 5) sc__law_draw.nd rfl (Or.inl rfl) (pe_op op_mod (pe_callTy cq_int (by rfl) T.z_int (by decide +kernel) (pa_cons (pe_ix (kx_list (K := K)) (pv 0) pe_int (fun _ _ => rfl)) pa_nil)) (pv 2)))
  (pss_cons (ps_asg (pe_op op_fdivW (pe_ix (kx_list (K := K)) (pv 0) pe_int (fun _ _ => rfl)) (pv 2)) (pg_sub (pv 0) pe_int set_list))
  (pss_one (ps_ret (pv 5)))))), ?_⟩
    refine (show SM (VD st H) _ _ _ H from ?_) H VD.start
    have gst : (VD st H).Ge st = none := wo_same
    have hS : SqL K H sc (ns.map V.int) := ex_l wo_ex hS0
    have hLen : (ns.map V.int).length = ns.length := List.length_map ..
    refine sm_seq (sm_cut (fun σ G => ∃ a1 b1 : Int, ∃ v3 v4 v5, σ = [some (.ref st), some (.ref sc), some (.int sz), v3, v4, v5] ∧ 0 ≤ a1 ∧ 0 ≤ b1 ∧ G st = some (.lst [.int a1, .int b1])) ?_ ?_)
    · rintro σ' G' ⟨a1, b1, v3, v4, v5, rfl, h1, h2, g1⟩
      walk_at "go"
      refine rm_ixL (sq_of g1) (v := .int b1) rfl ?_
      walk_at "go"
      refine rm_ixL (sq_of g1) (v := .int b1) rfl ?_
      walk_at "go"
      refine slm (j := 1) g1 gst rfl ?_
      walk_at "go"
      refine kv_draw (b' := b1 / sz) q (Int.emod_nonneg _ (by omega)) (Int.emod_lt_of_pos _ h0) h1 (Int.ediv_nonneg h2 (by omega)) ?_
      exact upd_same
    · walk_at "go"
      refine rm_ixL (sq_of hst) (v := .int b) rfl ?_
      walk_at "go"
      refine ifd (fun hb0 => ?_) (fun hb0 => ?_)
      · subst hb0
        walk_at "go"
        refine sm_cut (fun σ G => ∃ c : Int, ∃ v4 v5, σ = [some (.ref st), some (.ref sc), some (.int sz), some (.int c), v4, v5] ∧ G = H) ?_ ?_
        · rintro σ' G' ⟨c, v4, v5, rfl, rfl⟩
          walk_at "go"
          refine sm_cut (fun σ G => ∃ c : Int, ∃ v4 v5, σ = [some (.ref st), some (.ref sc), some (.int sz), some (.int c), v4, v5] ∧ 0 ≤ c ∧ G = G') ?_ ?_
          · rintro σ' G'' ⟨c, v4, v5, rfl, hc, rfl⟩
            walk_at "go"
            refine rm_ixL (sq_of hst) (v := .int a) rfl ?_
            walk_at "go"
            refine rm_ixL (sq_of hst) (v := .int a) rfl ?_
            walk_at "go"
            refine slm (j := 1) hst gst rfl ?_
            have b0 : (0 : Int) ≤ ((((c + a * 7919 + 1) * 48271) % 2147483647) * 69621 + a * 104729) % 4294967291 := Int.emod_nonneg _ (by decide)
            generalize ((((c + a * 7919 + 1) * 48271) % 2147483647) * 69621 + a * 104729) % 4294967291 = b1 at b0 ⊢
            have g1 : upd G'' st (.lst ([V.int a, V.int 0].set 1 (.int b1))) st = some (.lst [.int a, .int b1]) := upd_same
            have e1 : Ex (wo st G'') (upd G'' st (.lst ([V.int a, V.int 0].set 1 (.int b1)))) := wo_upd wo_ex
            generalize upd G'' st (.lst ([V.int a, V.int 0].set 1 (.int b1))) = G1 at g1 e1 ⊢
            walk_at "go"
            refine sm_cut (fun σ G => ∃ a1 b1 : Int, ∃ v3 v4 v5, σ = [some (.ref st), some (.ref sc), some (.int sz), v3, v4, v5] ∧ 0 ≤ a1 ∧ 0 ≤ b1 ∧ G st = some (.lst [.int a1, .int b1])) ?_ ?_
            · rintro σ' G' ⟨a1, b1, v3, v4, v5, rfl, h1, h2, g1⟩
              walk_at "go"
              refine rm_ixL (sq_of g1) (v := .int a1) rfl ?_
              walk_at "go"
              refine slm (j := 0) g1 gst rfl ?_
              refine km_kj ?_
              exact ⟨a1 + 1, b1, _, _, _, rfl, by omega, h2, upd_same⟩
            · walk_at "go"
              refine ifd (fun hcc => ?_) (fun hcc => ?_)
              · walk_at "go"
                refine rm_ixL (sq_of g1) (v := .int a) rfl ?_
                walk_at "go"
                refine ifd (fun _ => ?_) (fun _ => ?_)
                · walk_at "go"
                  refine slm (j := 1) g1 gst rfl ?_
                  refine km_kj ?_
                  exact ⟨a, c, _, _, _, rfl, ha, hc, upd_same⟩
                · walk_at "go"
                  refine sm_next ?_
                  refine km_kj ?_
                  exact ⟨a, b1, _, _, _, rfl, ha, b0, g1⟩
              · walk_at "go"
                refine sm_next ?_
                refine km_kj ?_
                exact ⟨a, b1, _, _, _, rfl, ha, b0, g1⟩
          · walk_at "go"
            refine ifd (fun hcc => ?_) (fun hcc => ?_)
            · walk_at "go"
              refine km_kj ?_
              exact ⟨_, _, _, rfl, by omega, rfl⟩
            · walk_at "go"
              refine sm_next ?_
              refine km_kj ?_
              exact ⟨_, _, _, rfl, by omega, rfl⟩
        · walk_at "go"
          refine ifd (fun hl => ?_) (fun hl => ?_)
          · walk_at "go"
            refine rm_ixL (sq_of hst) (v := .int a) rfl ?_
            walk_at "go"
            have hpos : (0 : Int) < (ns.map V.int).length := hl
            have k0 := Int.emod_nonneg a (show ((ns.map V.int).length : Int) ≠ 0 by omega)
            have k1 := Int.emod_lt_of_pos a hpos
            obtain ⟨k, hk⟩ := Int.eq_ofNat_of_zero_le k0
            have hkl : k < ns.length := by rw [hLen] at k1 hk; omega
            refine rm_ixL (v := .int ns[k]) hS ?_ ?_
            · rw [hk]
              exact atI_nat (by rw [List.getElem?_map, List.getElem?_eq_getElem hkl]; rfl)
            · walk_at "go"
              refine km_kj ?_
              exact ⟨_, _, _, rfl, rfl⟩
          · walk_at "go"
            refine sm_next ?_
            refine km_kj ?_
            exact ⟨_, _, _, rfl, rfl⟩
      · walk_at "go"
        refine sm_next ?_
        refine km_kj ?_
        exact ⟨a, b, _, _, _, rfl, ha, hb, hst⟩

/-! ### collisions -/
def strD (s : Str) : PyData := .str s
abbrev collStr : Str := "collision"
def inD (t : Int) (ns : List Int) : PyData := .tuple [.int t, .tuple (ns.map .int)]
def collD (a b : Int × List Int) : PyData := .tuple [.str collStr, inD a.1 a.2, inD b.1 b.2]
def InAt (K : PySem.W.Frag) (G : Hp) (p : Addr) (t : Int) (ns : List Int) : Prop := ∃ q, SqT K G p [.int t, .ref q] ∧ SqT K G q (ns.map V.int)
theorem ex_in {K : PySem.W.Frag} {G G' : Hp} {p : Addr} {t : Int} {ns : List Int} (e : Ex G G') : InAt K G p t ns → InAt K G' p t ns := fun ⟨q, a, b⟩ => ⟨q, ex_t e a, ex_t e b⟩
def CollAt (K : PySem.W.Frag) (G : Hp) (p : Addr) (a b : Int × List Int) : Prop := ∃ x y, SqT K G p [.str collStr, .ref x, .ref y] ∧ InAt K G x a.1 a.2 ∧ InAt K G y b.1 b.2
theorem ex_coll {K : PySem.W.Frag} {G G' : Hp} {p : Addr} {a b : Int × List Int} (e : Ex G G') : CollAt K G p a b → CollAt K G' p a b := fun ⟨x, y, h, h1, h2⟩ => ⟨x, y, ex_t e h, ex_in e h1, ex_in e h2⟩
theorem in_dp {K : PySem.W.Frag} {G : Hp} {p : Addr} {t : Int} {ns : List Int} : InAt K G p t ns → Dp K G (.ref p) (inD t ns) := fun ⟨_, a, b⟩ => .tup a (.cons (.int t) (.cons (dp_intsT b) .nil))
theorem coll_dp {K : PySem.W.Frag} {G : Hp} {p : Addr} {a b : Int × List Int} : CollAt K G p a b → Dp K G (.ref p) (collD a b) := fun ⟨_, _, h, h1, h2⟩ => .tup h (.cons (.str collStr) (.cons (in_dp h1) (.cons (in_dp h2) .nil)))
theorem shaped_in (t : Int) (ns : List Int) : SeqAt.shaped (inD t ns) = true := by
  have h := depth_ints ns
  unfold SeqAt.shaped inD
  simp only [PyData.canLay0, PyData.canLayAll0, canLay_ints, PyData.depth, PyData.depthAll, Bool.and_true, Bool.true_and, Bool.and_self]
  exact decide_eq_true (by omega)
theorem shaped_coll (a b : Int × List Int) : SeqAt.shaped (collD a b) = true := by
  have h1 := depth_ints a.2
  have h2 := depth_ints b.2
  unfold SeqAt.shaped collD inD
  have hs : PyData.strOk collStr = true := by decide +kernel
  simp only [PyData.canLay0, PyData.canLayAll0, canLay_ints, hs, PyData.depth, PyData.depthAll, Bool.and_true, Bool.true_and, Bool.and_self]
  exact decide_eq_true (by omega)
theorem eqv_in (t u : Int) (ns ms : List Int) : PyData.eqv (inD t ns) (inD u ms) = decide (t = u ∧ ns = ms) := by
  unfold inD
  rw [PyData.eqv, PyData.eqvAll, PyData.eqvAll, PyData.eqvAll, PyData.eqv, PyData.eqv, eqv_ints]
  simp [Bool.decide_and]
  by_cases h : t = u <;> simp [h]
theorem eqv_coll (a b c d : Int × List Int) : PyData.eqv (collD a b) (collD c d) = decide (a = c ∧ b = d) := by
  unfold collD
  rw [PyData.eqv, PyData.eqvAll, PyData.eqvAll, PyData.eqvAll, PyData.eqvAll, eqv_in, eqv_in, PyData.eqv]
  obtain ⟨a1, a2⟩ := a
  obtain ⟨b1, b2⟩ := b
  obtain ⟨c1, c2⟩ := c
  obtain ⟨d1, d2⟩ := d
  simp [Bool.decide_and]
def sp_is_input (K : PySem.W.Frag) : Sp := spA (fun (x : Addr × Int × List Int) vs G => vs = [.ref x.1] ∧ InAt K G x.1 x.2.1 x.2.2 ∧ x.2.2.length ≤ 100000) fun x v _ => v = .bl (decide ((0 ≤ x.2.1 ∧ x.2.1 ≤ 15) ∧ ∀ n ∈ x.2.2, 0 ≤ n))
theorem ok_is_input (T : Txt K mg) : FnOk P w K mg base CX0 1 (He.fAd K ("is_input", none)) T.fd_is_input ["pair"] (sp_is_input K) := by
  refine T.is_input.F.ok sc_is_input (fun vs H Q E h => ?_) (fun cdv A outer s H vs Q E hr h => ?_)
  · obtain ⟨_, _, _, ⟨rfl, _⟩, _⟩ := h
    rfl
  · obtain ⟨⟨a, t, ns⟩, G, e0, ⟨rfl, ⟨b, h1, h2⟩, hl⟩, q⟩ := h
    replace h1 : SqT K G a [.int t, .ref b] := h1
    replace h2 : SqT K G b (ns.map V.int) := h2
    replace hl : ns.length ≤ 100000 := hl
    refine ⟨_, PSs.nox (pss_cons (ps_asg (pv 0) (kg_tup (K := K) (n := 2) rfl (pgs_cons (pg_name (i := 1) sc_is_input.nd rfl (Or.inl rfl)) (pgs_cons (pg_name (i := 2) sc_is_input.nd rfl (Or.inl rfl)) pgs_nil))))
  (pss_one (ps_ret (pe_and (pe_chain (op_le) (op_le) pe_int (pv 1) (pe_glob (v := .int 15) rfl T.c_GREATEST_TAG.choose_spec ⟨_, rfl⟩)) (pe_one (pe_callB (kr_all (K := K)) (by rfl) T.z_all (by decide +kernel) (pa_cons (pe_lc (own := [("number", 3)]) rfl sc_is_input.nd (ki_tup (K := K) (pv 2)) (blkOk_by (own := [("number", 3)]) (N := ["pair", "tag", "numbers", "number"]) (sc := defScope s_is_input) (by decide +kernel)) (fun _ _ _ _ _ => pg_name (i := 3) sc_is_input.nd rfl (Or.inl rfl)) (fun _ _ _ _ _ => pts_nil) (fun _ _ _ _ _ => (pe_cmpR (op_ge) (pv 3) pe_int (nomark _)))) pa_nil))))))), ?_⟩
    refine (show SM (V0 H G) _ _ _ G from ?_) H (J.start e0)
    walk_at "go"
    refine gm_tup h1 rfl ?_
    walk_at "go"
    refine ifd (fun z0 => ?_) (fun z0 => ?_)
    · walk_at "go"
      by_cases z1 : t ≤ 15
      · rw [decide_eq_true z1]
        walk_at "go"
        refine em_mapT (fun x => match x with | .int d => .bl (decide (0 ≤ d)) | x => x) ?_
        walk_at "go"
        refine ⟨b, _, rfl, h2, by rw [List.length_map]; omega, fun i x G' U' e hx => ?_, fun D G1 e1 g1 g2 => ?_⟩
        · obtain ⟨d, rfl, _⟩ := int_at hx
          walk_at "go"
          refine ⟨rfl, Ex.refl _, ?_⟩
          walk_at "go"
          exact ⟨rfl, Ex.refl _⟩
        · walk_at "go"
          rw [List.map_map] at g2
          refine rm_all (bs := ns.map fun d => decide (0 ≤ d)) (sq_of (by rw [g2, List.map_map]; rfl)) ?_
          walk_at "go"
          refine kv_ret q e1 ?_
          show V.bl _ = V.bl (decide ((0 ≤ t ∧ t ≤ 15) ∧ ∀ n ∈ ns, 0 ≤ n))
          congr 1
          rw [Bool.eq_iff_iff]
          simp [z1, show 0 ≤ t from z0]
      · rw [decide_eq_false z1]
        walk_at "go"
        refine kv_ret q (Ex.refl _) ?_
        exact congrArg V.bl (decide_eq_false (fun z => z1 z.1.2)).symm
    · walk_at "go"
      refine kv_ret q (Ex.refl _) ?_
      exact congrArg V.bl (decide_eq_false (fun z => z0 z.1.1)).symm
def sp_collision (K : PySem.W.Frag) : Sp := spA (fun (x : (Addr × Int × Addr × List Int) × (Addr × Int × Addr × List Int)) vs G => vs = [.ref x.1.1, .ref x.2.1] ∧ (SqT K G x.1.1 [.int x.1.2.1, .ref x.1.2.2.1] ∧ SqS K G x.1.2.2.1 (x.1.2.2.2.map V.int)) ∧ (SqT K G x.2.1 [.int x.2.2.1, .ref x.2.2.2.1] ∧ SqS K G x.2.2.2.1 (x.2.2.2.2.map V.int))) fun x v G' => ∃ p, v = .ref p ∧ CollAt K G' p (x.1.2.1, x.1.2.2.2) (x.2.2.1, x.2.2.2.2)
theorem ok_collision (T : Txt K mg) : FnOk P w K mg base CX0 1 (He.fAd K ("collision", none)) T.fd_collision ["first", "second"] (sp_collision K) := by
  refine T.collision.F.ok sc_collision (fun vs H Q E h => ?_) (fun cdv A outer s H vs Q E hr h => ?_)
  · obtain ⟨_, _, _, ⟨rfl, _⟩, _⟩ := h
    rfl
  · obtain ⟨⟨⟨a, t, b, ns⟩, ⟨a', t', b', ns'⟩⟩, G, e0, ⟨rfl, ⟨h1, h2⟩, h3, h4⟩, q⟩ := h
    replace h1 : SqT K G a [.int t, .ref b] := h1
    replace h2 : SqS K G b (ns.map V.int) := h2
    replace h3 : SqT K G a' [.int t', .ref b'] := h3
    replace h4 : SqS K G b' (ns'.map V.int) := h4
    refine ⟨_, PSs.nox (pss_one (ps_ret (pe_tup (pa_cons pe_str (pa_cons (pe_tup (pa_cons (pe_ix (kx_tup (K := K)) (pv 0) pe_int (fun _ _ => rfl)) (pa_cons (pe_callTy (kq_tuple (K := K)) (by rfl) T.z_tuple (by decide +kernel) (pa_cons (pe_ix (kx_tup (K := K)) (pv 0) pe_int (fun _ _ => rfl)) pa_nil)) pa_nil))) (pa_cons (pe_tup (pa_cons (pe_ix (kx_tup (K := K)) (pv 1) pe_int (fun _ _ => rfl)) (pa_cons (pe_callTy (kq_tuple (K := K)) (by rfl) T.z_tuple (by decide +kernel) (pa_cons (pe_ix (kx_tup (K := K)) (pv 1) pe_int (fun _ _ => rfl)) pa_nil)) pa_nil))) pa_nil)))))), ?_⟩
    refine (show SM (V0 H G) _ _ _ G from ?_) H (J.start e0)
    walk_at "go"
    refine em_tup ?_
    walk_at "go"
    refine em_tup ?_
    walk_at "go"
    refine rm_ixT h1 (v := .int t) rfl ?_
    walk_at "go"
    refine rm_ixT h1 (v := .ref b) rfl ?_
    walk_at "go"
    refine rm_tupS h2 fun c G1 e1 gc => ?_
    walk_at "go"
    refine ⟨by show 2 ≤ sizeLine; decide, fun p1 G2 _ e2 gp1 => ?_⟩
    have h3' := ex_t (e1.trans e2) h3
    have h4' := ex_s (e1.trans e2) h4
    walk_at "go"
    refine em_tup ?_
    walk_at "go"
    refine rm_ixT h3' (v := .int t') rfl ?_
    walk_at "go"
    refine rm_ixT h3' (v := .ref b') rfl ?_
    walk_at "go"
    refine rm_tupS h4' fun c' G3 e3 gc' => ?_
    walk_at "go"
    refine ⟨by show 2 ≤ sizeLine; decide, fun p2 G4 _ e4 gp2 => ?_⟩
    walk_at "go"
    refine ⟨by show 3 ≤ sizeLine; decide, fun p3 G5 _ e5 gp3 => ?_⟩
    walk_at "go"
    refine kv_ret q ((e1.trans e2).trans (e3.trans (e4.trans e5))) ⟨p3, rfl, p1, p2, st_of gp3, ⟨c, st_of (e5 _ _ (e4 _ _ (e3 _ _ gp1))), ex_t (e2.trans (e3.trans (e4.trans e5))) gc⟩, ⟨c', st_of (e5 _ _ gp2), ex_t (e4.trans e5) gc'⟩⟩
/-- what is_collision may be asked -/
inductive CAns where
  | none
  | other (p : Addr) (s : Str) (rest : List V)
  | coll (p : Addr) (a b : Int × List Int)
def CAns.at_ (K : PySem.W.Frag) (G : Hp) : CAns → V → Prop
  | .none, v => v = .non
  | .other p s rest, v => v = .ref p ∧ SqT K G p (.str s :: rest) ∧ s ≠ collStr
  | .coll p a b, v => v = .ref p ∧ CollAt K G p a b ∧ (limbs a.2).length ≤ 90000 ∧ (limbs b.2).length ≤ 90000
def okIn (a : Int × List Int) : Prop := (0 ≤ a.1 ∧ a.1 ≤ 15) ∧ ∀ n ∈ a.2, 0 ≤ n
instance (a : Int × List Int) : Decidable (okIn a) := by unfold okIn; exact inferInstance
def isColl (w : Int) : CAns → Bool
  | .coll _ a b => decide (a ≠ b ∧ okIn a ∧ okIn b ∧ dgst w a.1 a.2 = dgst w b.1 b.2)
  | _ => false
theorem len_limbs (ns : List Int) : ns.length ≤ (limbs ns).length := by
  have : ns.length ≤ (limbsN ns).length := by
    unfold limbsN
    induction ns with
    | nil => simp
    | cons n ns ih =>
      rw [List.flatMap_cons, List.length_append, limbs1_len, List.length_cons]
      omega
  unfold limbs
  rw [List.length_cons]
  omega
def sp_is_collision (K : PySem.W.Frag) : Sp := spA (fun (x : Addr × Int × CAns) vs G => ∃ v, vs = [.ref x.1, v] ∧ HsAt (He.ga K "Hasher") G x.1 x.2.1 ∧ 0 ≤ x.2.1 ∧ x.2.1 ≤ 128 ∧ x.2.2.at_ K G v) fun x v _ => v = .bl (isColl x.2.1 x.2.2)
theorem ok_is_collision (T : Txt K mg) : FnOk P w K mg base CX0 3 (He.fAd K ("is_collision", none)) T.fd_is_collision ["hasher", "answer"] (sp_is_collision K) := by
  refine T.is_collision.F.ok sc_is_collision (fun vs H Q E h => ?_) (fun cdv A outer s H vs Q E hr h => ?_)
  · obtain ⟨_, _, _, ⟨_, rfl, _⟩, _⟩ := h
    rfl
  · obtain ⟨⟨hh, w, an⟩, G, e0, ⟨v, rfl, ⟨dx, gh⟩, hw0, hw1, ha⟩, q⟩ := h
    replace gh : G hh = some (.ins (He.ga K "Hasher") dx [("width", V.int w)]) := gh
    replace hw0 : 0 ≤ w := hw0
    replace hw1 : w ≤ 128 := hw1
    replace ha : an.at_ K G v := ha
    have lkD : ([("width", V.int w)] : List (Str × V)).lookup ("digest" : Str) = none := rfl
    refine ⟨_, PSs.nox (pss_cons (ps_if (PW.pt (pw_or (pt_cmpR (op_isN1) (pv 1) pe_non (nomark _)) (pw_or1 (pt_cmpR (op_ne) (pe_ix (kx_tup (K := K)) (pv 1) pe_int (fun _ _ => rfl)) pe_str (nomark _))))) (pss_one (ps_ret pe_bl)) pss_nil)
  (pss_cons (ps_asg (pe_slice (kl_tup (K := K)) (pv 1) (po_some pe_int) po_none) (kg_tup (K := K) (n := 2) rfl (pgs_cons (pg_name (i := 2) sc_is_collision.nd rfl (Or.inl rfl)) (pgs_cons (pg_name (i := 3) sc_is_collision.nd rfl (Or.inl rfl)) pgs_nil))))
  (pss_cons (ps_if (PW.pt (pw_or (pt_cmpR (kp_eqD (K := K) hr.units) (pv 2) (pv 3) (nomark _)) (pw_or (pt_not (pt_val (pe_call (ok_is_input T) (hr.mono (by decide)) (by rfl) T.is_input.g T.is_input.F.kp T.is_input.b .nil pass0 (pa_cons (pv 2) pa_nil)))) (pw_or1 (pt_not (pt_val (pe_call (ok_is_input T) (hr.mono (by decide)) (by rfl) T.is_input.g T.is_input.F.kp T.is_input.b .nil pass0 (pa_cons (pv 3) pa_nil)))))))) (pss_one (ps_ret pe_bl)) pss_nil)
  (pss_one (ps_ret (pe_cmpR (op_eq) (pe_meth (pv 0) T.cl_Hasher T.me_Hasher_digest (ok_Hasher_digest T) (hr.mono (by decide)) T.Hasher_digest.b .nil pass0 (pa_cons (pe_ix (kx_tup (K := K)) (pv 2) pe_int (fun _ _ => rfl)) (pa_cons (pe_ix (kx_tup (K := K)) (pv 2) pe_int (fun _ _ => rfl)) pa_nil))) (pe_meth (pv 0) T.cl_Hasher T.me_Hasher_digest (ok_Hasher_digest T) (hr.mono (by decide)) T.Hasher_digest.b .nil pass0 (pa_cons (pe_ix (kx_tup (K := K)) (pv 3) pe_int (fun _ _ => rfl)) (pa_cons (pe_ix (kx_tup (K := K)) (pv 3) pe_int (fun _ _ => rfl)) pa_nil))) (nomark _))))))), ?_⟩
    refine (show SM (V0 H G) _ _ _ G from ?_) H (J.start e0)
    cases an with
    | none =>
      cases ha
      walk_at "go"
      exact kv_ret q (Ex.refl _) rfl
    | other p s rest =>
      obtain ⟨rfl, h1, h2⟩ := ha
      walk_at "go"
      refine rm_ixT h1 (v := .str s) (atI_nat (j := 0) rfl) ?_
      walk_at "go"
      refine ifnT h2 ?_
      walk_at "go"
      exact kv_ret q (Ex.refl _) rfl
    | coll p a b =>
      obtain ⟨a1, a2⟩ := a
      obtain ⟨b1, b2⟩ := b
      obtain ⟨rfl, ⟨x, y, h1, hx, hy⟩, l1, l2⟩ := ha
      have la := len_limbs a2
      have lb := len_limbs b2
      replace l1 : (limbs a2).length ≤ 90000 := l1
      replace l2 : (limbs b2).length ≤ 90000 := l2
      walk_at "go"
      refine rm_ixT h1 (v := .str collStr) rfl ?_
      walk_at "go"
      refine ifnF rfl ?_
      refine sm_next ?_
      walk_at "go"
      refine rm_slT h1 (by show ¬ (HT.sIx 3 0 (some 1) = 0 ∧ HT.sIx 3 3 none = 3); decide) fun p' G1 e1 gp => ?_
      refine gm_tup (st_of gp) rfl ?_
      have ec : cutV [V.str collStr, V.ref x, V.ref y] (some 1) none = [.ref x, .ref y] := rfl
      rw [ec]
      walk_at "go"
      have hx1 := ex_in e1 hx
      have hy1 := ex_in e1 hy
      refine rm_eqD (in_dp hx1) (in_dp hy1) (shaped_in _ _) (shaped_in _ _) ?_
      rw [eqv_in]
      walk_at "go"
      refine ifd (fun z => ?_) (fun z => ?_)
      · walk_at "go"
        refine kv_ret q e1 (congrArg V.bl (decide_eq_false fun w => w.1 (Prod.ext z.1 z.2)).symm)
      walk_at "go"
      refine cm_a (x, a1, a2) ⟨rfl, hx1, by show a2.length ≤ 100000; omega⟩ fun v G2 e2 hv => ?_
      obtain rfl : v = .bl (decide (okIn (a1, a2))) := hv
      walk_at "go"
      refine ifn (fun z1 => ?_) (fun z1 => ?_)
      · walk_at "go"
        refine kv_ret q (e1.trans e2) (congrArg V.bl (decide_eq_false fun w => z1 w.2.1).symm)
      walk_at "go"
      refine cm_a (y, b1, b2) ⟨rfl, ex_in e2 hy1, by show b2.length ≤ 100000; omega⟩ fun v G3 e3 hv => ?_
      obtain rfl : v = .bl (decide (okIn (b1, b2))) := hv
      walk_at "go"
      refine ifn (fun z2 => ?_) (fun z2 => ?_)
      · walk_at "go"
        refine kv_ret q (e1.trans (e2.trans e3)) (congrArg V.bl (decide_eq_false fun w => z2 w.2.2.1).symm)
      refine sm_next ?_
      have e13 := e1.trans (e2.trans e3)
      obtain ⟨xq, hx2, hx3⟩ := ex_in e13 hx
      obtain ⟨yq, hy2, hy3⟩ := ex_in e13 hy
      have gh3 := e13 _ _ gh
      walk_at "go"
      refine mm gh3 lkD ?_
      walk_at "go"
      refine rm_ixT hx2 (v := .int a1) rfl ?_
      walk_at "go"
      refine rm_ixT hx2 (v := .ref xq) rfl ?_
      walk_at "go"
      refine cm_a (hh, w, a1, xq, a2) ⟨rfl, ⟨dx, gh3⟩, hw0, hw1, .inr hx3, by show (limbs a2).length ≤ 99000; omega⟩ fun v G4 e4 hv => ?_
      obtain rfl : v = .int (dgst w a1 a2) := hv
      walk_at "go"
      refine mm (e4 _ _ gh3) lkD ?_
      walk_at "go"
      refine rm_ixT (ex_t e4 hy2) (v := .int b1) rfl ?_
      walk_at "go"
      refine rm_ixT (ex_t e4 hy2) (v := .ref yq) rfl ?_
      walk_at "go"
      refine cm_a (hh, w, b1, yq, b2) ⟨rfl, ⟨dx, e4 _ _ gh3⟩, hw0, hw1, .inr (ex_t e4 hy3), by show (limbs b2).length ≤ 99000; omega⟩ fun v G5 e5 hv => ?_
      obtain rfl : v = .int (dgst w b1 b2) := hv
      walk_at "go"
      refine kv_ret q (e13.trans (e4.trans e5)) (congrArg V.bl ?_)
      exact decide_eq_decide.mpr ⟨fun zz => ⟨fun e => z (by injection e with e1 e2; exact ⟨e1, e2⟩), z1, z2, zz⟩, fun zz => zz.2.2.2⟩
def B5 (m : Int) : Prop := 0 ≤ m ∧ m < 5
def InpAt (K : PySem.W.Frag) (G : Hp) (v : V) (x : Int × List Int) : Prop := ∃ p l, v = .ref p ∧ SqT K G p [.int x.1, .ref l] ∧ SqL K G l (x.2.map V.int) ∧ (0 ≤ x.1 ∧ x.1 ≤ 15) ∧ x.2.length ≤ 7 ∧ ∀ m ∈ x.2, B5 m
theorem ex_inp {K : PySem.W.Frag} {G G' : Hp} {v : V} {x : Int × List Int} (e : Ex G G') : InpAt K G v x → InpAt K G' v x := fun ⟨p, l, h0, h1, h2, h3⟩ => ⟨p, l, h0, ex_t e h1, ex_l e h2, h3⟩
theorem b5_many {m : Int} (h : B5 m) : many m ≤ 1 := by
  have : m.natAbs < 2 ^ 3 := by obtain ⟨h1, h2⟩ := h; omega
  have := PyProof.Rows.intBits_le this
  unfold many
  omega
theorem inp_limbs {K : PySem.W.Frag} {G : Hp} {v : V} {x : Int × List Int} (h : InpAt K G v x) : (limbs x.2).length ≤ 90000 := by
  obtain ⟨_, _, _, _, _, _, hl, hb⟩ := h
  have := limbsN_le (b := 1) fun m hm => b5_many (hb m hm)
  unfold limbs
  rw [List.length_cons]
  omega
def sp__law_input (K : PySem.W.Frag) : Sp := spSA K (fun (_ : Unit) rest _ => rest = []) fun _ v G' => ∃ x, InpAt K G' v x
theorem ok__law_input (T : Txt K mg) : FnOk P w K mg base CX0 2 (He.fAd K ("_law_input", none)) T.fd__law_input ["state", "script"] (sp__law_input K) := by
  refine T._law_input.F.ok sc__law_input (fun vs H Q E h => ?_) (fun cdv A outer s H vs Q E hr h => ?_)
  · obtain ⟨_, st, sc, ns, rest, G, rfl, _, _, _, _, rfl, _⟩ := h
    rfl
  · obtain ⟨_, st, sc, ns, rest, G, rfl, hst, gst, e0, hS, rfl, q⟩ := h
    refine ⟨_, PSs.nox (pss_cons (ps_setLc (i := 2) (own := [("k", 3)]) rfl sc__law_input.nd rfl rfl (sw_true rfl rfl rfl (by decide +kernel)) (pi_range1 rfl T.z_range (pa_cons (pe_call (ok__law_draw T) (hr.mono (by decide)) (by rfl) T._law_draw.g T._law_draw.F.kp T._law_draw.b .nil pass0 (pa_cons (pv 0) (pa_cons (pv 1) (pa_cons pe_int pa_nil)))) pa_nil)) (blkOk_by (own := [("k", 3)]) (N := ["state", "script", "numbers", "k"]) (sc := defScope s__law_input) (by decide +kernel)) (fun _ _ _ _ _ => pg_name (i := 3) sc__law_input.nd rfl (Or.inl rfl)) (fun _ _ _ _ _ => pts_nil) (fun _ _ _ _ _ => (pe_call (ok__law_draw T) (hr.mono (by decide)) (by rfl) T._law_draw.g T._law_draw.F.kp T._law_draw.b .nil pass0 (pa_cons (pv 0) (pa_cons (pv 1) (pa_cons pe_int pa_nil))))))
  (pss_one (ps_ret (pe_tup (pa_cons (pe_call (ok__law_draw T) (hr.mono (by decide)) (by rfl) T._law_draw.g T._law_draw.F.kp T._law_draw.b .nil pass0 (pa_cons (pv 0) (pa_cons (pv 1) (pa_cons pe_int pa_nil)))) (pa_cons (pv 2) pa_nil)))))), ?_⟩
    refine (show SM (VS st H G) _ _ _ G from ?_) H (VS.start hst gst e0)
    have dk : DrawOk (VS st H G) st := VS.draw
    walk_at "go"
    refine em_lcR1 ?_
    walk_at "go"
    refine cm_draw dk hS (by decide) (by decide) fun c c0 c1 => ?_
    walk_at "go"
    refine ⟨c, rfl, c0, by omega, fun _ => rfl, fun i acc G'' => ∃ ms : List Int, acc = ms.map V.int ∧ ms.length = i ∧ (∀ m ∈ ms, B5 m) ∧ Ex G G'', ⟨[], rfl, rfl, by simp, Ex.refl _⟩, ?_, ?_, ?_⟩
    · rintro i acc G'' ⟨ms, rfl, rfl, _⟩
      rw [List.length_map]
      exact Nat.le_refl _
    · rintro i acc G'' D U' rfl hD hi ⟨ms, rfl, rfl, hm, e'⟩
      walk_at "go"
      refine cm_draw (dk.hide hD) (ex_l e' hS) (by decide) (by decide) fun n n0 n1 => ?_
      refine ⟨ms ++ [n], by rw [List.map_append]; rfl, by rw [List.length_append]; rfl, ?_, e'⟩
      intro m hmm
      rcases List.mem_append.mp hmm with z | z
      · exact hm m z
      · rw [List.mem_singleton.mp z]; exact ⟨n0, n1⟩
    · rintro acc l1 G1 G2 ⟨ms, rfl, hml, hm, e1⟩ e2 gl1 gl2
      walk_at "go"
      refine em_tup ?_
      walk_at "go"
      refine cm_draw dk (ex_l (e1.trans e2) hS) (by decide) (by decide) fun t t0 t1 => ?_
      walk_at "go"
      refine ⟨by show 2 ≤ sizeLine; decide, fun p G3 _ e3 gp => ?_⟩
      walk_at "go"
      exact kv_s q (e1.trans (e2.trans e3)) ⟨(t, ms), p, l1, rfl, st_of gp, sq_of (e3 _ _ gl2), ⟨t0, by show t ≤ 15; omega⟩, by show ms.length ≤ 7; omega, hm⟩
def sp_law (K : PySem.W.Frag) : Sp := fun vs H Q _ => ∃ (a : Addr) (ns : List Int), vs = [.ref a] ∧ SqL K H a (ns.map V.int) ∧ ns.length ≤ 63 ∧ ∀ H', Q (.bl true) H'
theorem law_starts (K : PySem.W.Frag) (H : Hp) (a : Addr) (ns : List Int) (hl : ns.length ≤ 63) (hS : SqL K H a (ns.map V.int)) : sp_law K [.ref a] H (fun v _ => v = .bl true) fun _ _ _ => False := ⟨a, ns, rfl, hS, hl, fun _ => rfl⟩

theorem cut_mem {xs : List V} {lo hi : Option Int} {v : V} (h : v ∈ cutV xs lo hi) : v ∈ xs := List.mem_of_mem_drop (List.mem_of_mem_take h)
theorem cut_len (xs : List V) (lo hi : Option Int) : (cutV xs lo hi).length ≤ xs.length := by
  unfold cutV
  rw [List.length_take, List.length_drop]
  omega
def inDL (t : Int) (ns : List Int) : PyData := .tuple [.int t, .list (ns.map .int)]
theorem shaped_inL (t : Int) (ns : List Int) : SeqAt.shaped (inDL t ns) = true := by
  have h := depth_ints ns
  unfold SeqAt.shaped inDL
  simp only [PyData.canLay0, PyData.canLayAll0, canLay_ints, PyData.depth, PyData.depthAll, Bool.and_true, Bool.true_and, Bool.and_self]
  exact decide_eq_true (by omega)
theorem eqv_inL (t u : Int) (ns ms : List Int) : PyData.eqv (inDL t ns) (inDL u ms) = decide (t = u ∧ ns = ms) := by
  unfold inDL
  rw [PyData.eqv, PyData.eqvAll, PyData.eqvAll, PyData.eqvAll, PyData.eqv, PyData.eqv, eqv_ints]
  simp [Bool.decide_and]
  by_cases h : t = u <;> simp [h]
def Inps (K : PySem.W.Frag) (G : Hp) (vs : List V) : Prop := (12 ≤ vs.length ∧ vs.length ≤ 13) ∧ ∀ v ∈ vs, ∃ x, InpAt K G v x
theorem ok_b5 {t : Int} {ns : List Int} (h1 : 0 ≤ t ∧ t ≤ 15) (h2 : ∀ m ∈ ns, B5 m) : okIn (t, ns) := ⟨h1, fun n hn => (h2 n hn).1⟩
theorem ok_law (T : Txt K mg) : FnOk P w K mg base CX0 4 (He.fAd K ("law", none)) T.fd_law ["script"] (sp_law K) := by
  refine T.law.F.ok sc_law (fun vs H Q E h => ?_) (fun cdv A outer s H vs Q E hr h => ?_)
  · obtain ⟨a, ns, rfl, _⟩ := h
    rfl
  · obtain ⟨sc, ns, rfl, hS, hlen, q⟩ := h
    refine ⟨_, PSs.nox (pss_cons (ps_set (i := 1) sc_law.nd rfl (Or.inr rfl) (pe_lst (pa_cons pe_int (pa_cons pe_int pa_nil))))
  (pss_cons (ps_set (i := 2) sc_law.nd rfl (Or.inl rfl) (pe_op op_add pe_int (pe_call (ok__law_draw T) (hr.mono (by decide)) (by rfl) T._law_draw.g T._law_draw.F.kp T._law_draw.b .nil pass0 (pa_cons (pv 1) (pa_cons (pv 0) (pa_cons pe_int pa_nil))))))
  (pss_cons (ps_set (i := 3) sc_law.nd rfl (Or.inl rfl) (pe_make T.mk_Hasher (ok_Hasher___init__ T) (hr.mono (by decide)) (by rfl) T.g_Hasher T.Hasher___init__.b .nil pass0 (pa_cons (pv 2) pa_nil)))
  (pss_cons (ps_setLc (i := 4) (own := [("k", 10)]) rfl sc_law.nd rfl rfl (sw_true rfl rfl rfl (by decide +kernel)) (pi_range1 rfl T.z_range (pa_cons pe_int pa_nil)) (blkOk_by (own := [("k", 10)]) (N := ["script", "state", "width", "hasher", "inputs", "first", "second", "answer", "due", "bad", "k"]) (sc := defScope s_law) (by decide +kernel)) (fun _ _ _ _ _ => pg_name (i := 10) sc_law.nd rfl (Or.inl rfl)) (fun _ _ _ _ _ => pts_nil) (fun _ _ _ _ _ => (pe_call (ok__law_input T) (hr.mono (by decide)) (by rfl) T._law_input.g T._law_input.F.kp T._law_input.b .nil pass0 (pa_cons (pv 1) (pa_cons (pv 0) pa_nil)))))
  (pss_cons (ps_cut (ps_if (pt_cmpR (op_eq) (pe_call (ok__law_draw T) (hr.mono (by decide)) (by rfl) T._law_draw.g T._law_draw.F.kp T._law_draw.b .nil pass0 (pa_cons (pv 1) (pa_cons (pv 0) (pa_cons pe_int pa_nil)))) pe_int (nomark _)) (pss_one (ps_expr (pe_bm PySem.F.plainAttrs_list PySem.F.slot_list_append PySem.F.type_list_append mt_append (pv 4) (pa_cons (pe_tup (pa_cons (pe_ix (kx_tup (K := K)) (pe_ix (kx_list (K := K)) (pv 4) pe_int (fun _ _ => rfl)) pe_int (fun _ _ => rfl)) (pa_cons (pe_callTy (kq_list (K := K)) (by rfl) T.z_list (by decide +kernel) (pa_cons (pe_ix (kx_tup (K := K)) (pe_ix (kx_list (K := K)) (pv 4) pe_int (fun _ _ => rfl)) pe_int (fun _ _ => rfl)) pa_nil)) pa_nil))) pa_nil)))) pss_nil))
  (pss_cons (ps_for PassesOwn.never rfl (ki_list (K := K) (pv 4)) (pg_name (i := 5) sc_law.nd rfl (Or.inl rfl)) (pss_one (ps_for PassesOwn.never rfl (ki_list (K := K) (pe_op op_cat (pe_slice (kl_list (K := K)) (pv 4) po_none (po_some pe_int)) (pe_slice (kl_list (K := K)) (pv 4) (po_some pe_int) po_none))) (pg_name (i := 6) sc_law.nd rfl (Or.inl rfl)) (pss_cons (ps_set (i := 7) sc_law.nd rfl (Or.inl rfl) (pe_call (ok_collision T) (hr.mono (by decide)) (by rfl) T.collision.g T.collision.F.kp T.collision.b .nil pass0 (pa_cons (pv 5) (pa_cons (pe_tup (pa_cons (pe_ix (kx_tup (K := K)) (pv 6) pe_int (fun _ _ => rfl)) (pa_cons (pe_callTy (kq_tuple (K := K)) (by rfl) T.z_tuple (by decide +kernel) (pa_cons (pe_ix (kx_tup (K := K)) (pv 6) pe_int (fun _ _ => rfl)) pa_nil)) pa_nil))) pa_nil))))
  (pss_cons (ps_if (pt_cmpR (kp_neD (K := K) hr.units) (pv 7) (pe_tup (pa_cons pe_str (pa_cons (pe_tup (pa_cons (pe_ix (kx_tup (K := K)) (pv 5) pe_int (fun _ _ => rfl)) (pa_cons (pe_callTy (kq_tuple (K := K)) (by rfl) T.z_tuple (by decide +kernel) (pa_cons (pe_ix (kx_tup (K := K)) (pv 5) pe_int (fun _ _ => rfl)) pa_nil)) pa_nil))) (pa_cons (pe_tup (pa_cons (pe_ix (kx_tup (K := K)) (pv 6) pe_int (fun _ _ => rfl)) (pa_cons (pe_callTy (kq_tuple (K := K)) (by rfl) T.z_tuple (by decide +kernel) (pa_cons (pe_ix (kx_tup (K := K)) (pv 6) pe_int (fun _ _ => rfl)) pa_nil)) pa_nil))) pa_nil)))) (nomark _)) (pss_one (ps_ret pe_bl)) pss_nil)
  (pss_cons (ps_set (i := 8) sc_law.nd rfl (Or.inl rfl) (pe_and (pe_cmpR (kp_neD (K := K) hr.units) (pv 5) (pv 6) (nomark _)) (pe_one (pe_cmpR (op_eq) (pe_call (ok__law_digest T) (hr.mono (by decide)) (by rfl) T._law_digest.g T._law_digest.F.kp T._law_digest.b .nil pass0 (pa_cons (pv 2) (pa_cons (pe_ix (kx_tup (K := K)) (pv 5) pe_int (fun _ _ => rfl)) (pa_cons (pe_ix (kx_tup (K := K)) (pv 5) pe_int (fun _ _ => rfl)) pa_nil)))) (pe_call (ok__law_digest T) (hr.mono (by decide)) (by rfl) T._law_digest.g T._law_digest.F.kp T._law_digest.b .nil pass0 (pa_cons (pv 2) (pa_cons (pe_ix (kx_tup (K := K)) (pv 6) pe_int (fun _ _ => rfl)) (pa_cons (pe_ix (kx_tup (K := K)) (pv 6) pe_int (fun _ _ => rfl)) pa_nil)))) (nomark _)))))
  (pss_one (ps_if (pt_cmpR (op_ne) (pe_call (ok_is_collision T) (hr.mono (by decide)) (by rfl) T.is_collision.g T.is_collision.F.kp T.is_collision.b .nil pass0 (pa_cons (pv 3) (pa_cons (pv 7) pa_nil))) (pv 8) (nomark _)) (pss_one (ps_ret pe_bl)) pss_nil))))))))
  (pss_cons (ps_if (PW.pt (pw_or (pt_cmpR (op_notBl) (pe_call (ok_is_collision T) (hr.mono (by decide)) (by rfl) T.is_collision.g T.is_collision.F.kp T.is_collision.b .nil pass0 (pa_cons (pv 3) (pa_cons pe_non pa_nil))) pe_bl (nomark _)) (pw_or1 (pt_cmpR (op_notBl) (pe_call (ok_is_collision T) (hr.mono (by decide)) (by rfl) T.is_collision.g T.is_collision.F.kp T.is_collision.b .nil pass0 (pa_cons (pv 3) (pa_cons (pe_tup (pa_cons pe_str (pa_cons pe_int (pa_cons pe_int (pa_cons pe_int (pa_cons pe_int pa_nil)))))) pa_nil))) pe_bl (nomark _))))) (pss_one (ps_ret pe_bl)) pss_nil)
  (pss_cons (ps_set (i := 9) sc_law.nd rfl (Or.inl rfl) (pe_ix (kx_list (K := K)) (pe_lst (pa_cons (pe_tup (pa_cons (pe_tup (pa_cons pe_int (pa_cons (pe_tup (pa_cons pe_int pa_nil)) pa_nil))) (pa_cons (pe_tup (pa_cons pe_int (pa_cons (pe_tup (pa_cons pe_int pa_nil)) pa_nil))) pa_nil))) (pa_cons (pe_tup (pa_cons (pe_tup (pa_cons (pe_un un_neg pe_int) (pa_cons (pe_tup pa_nil) pa_nil))) (pa_cons (pe_tup (pa_cons pe_int (pa_cons (pe_tup pa_nil) pa_nil))) pa_nil))) (pa_cons (pe_tup (pa_cons (pe_tup (pa_cons pe_int (pa_cons (pe_tup (pa_cons (pe_un un_neg pe_int) pa_nil)) pa_nil))) (pa_cons (pe_tup (pa_cons pe_int (pa_cons (pe_tup (pa_cons pe_int pa_nil)) pa_nil))) pa_nil))) (pa_cons (pe_tup (pa_cons (pe_tup (pa_cons pe_int (pa_cons (pe_tup (pa_cons pe_int pa_nil)) pa_nil))) (pa_cons (pe_tup (pa_cons pe_int (pa_cons (pe_tup (pa_cons (pe_un un_neg pe_int) (pa_cons pe_int pa_nil))) pa_nil))) pa_nil))) pa_nil))))) (pe_call (ok__law_draw T) (hr.mono (by decide)) (by rfl) T._law_draw.g T._law_draw.F.kp T._law_draw.b .nil pass0 (pa_cons (pv 1) (pa_cons (pv 0) (pa_cons pe_int pa_nil)))) (fun _ _ => rfl)))
  (pss_one (ps_ret (pe_and (pe_cmpR (op_isBl) (pe_call (ok_is_collision T) (hr.mono (by decide)) (by rfl) T.is_collision.g T.is_collision.F.kp T.is_collision.b .nil pass0 (pa_cons (pv 3) (pa_cons (pe_tup (pa_cons pe_str (pa_cons (pe_ix (kx_tup (K := K)) (pv 9) pe_int (fun _ _ => rfl)) (pa_cons (pe_ix (kx_tup (K := K)) (pv 9) pe_int (fun _ _ => rfl)) pa_nil)))) pa_nil))) pe_bl (nomark _)) (pe_one (pe_cmpR (op_isBl) (pe_call (ok_is_collision T) (hr.mono (by decide)) (by rfl) T.is_collision.g T.is_collision.F.kp T.is_collision.b .nil pass0 (pa_cons (pv 3) (pa_cons (pe_tup (pa_cons pe_str (pa_cons (pe_ix (kx_tup (K := K)) (pv 9) pe_int (fun _ _ => rfl)) (pa_cons (pe_ix (kx_tup (K := K)) (pv 9) pe_int (fun _ _ => rfl)) pa_nil)))) pa_nil))) pe_bl (nomark _)))))))))))))), ?_⟩
    refine (show SM (V0 H H) _ _ _ H from ?_) H (J.start (Ex.refl H))
    walk_at "go"
    refine em_lst ?_
    walk_at "go"
    refine ⟨by show 2 ≤ sizeLine; decide, fun st G1 gs e1 gst => ?_⟩
    refine gm_name (km_next (sm_draws gst gs fun G2 k2 hs g2 => ?_))
    have e2 : Ex H G2 := same_of gs e1 k2
    have hS2 : SqL K G2 sc (ns.map V.int) := ex_l e2 hS
    have dk : DrawOk (V1 H H st) st := V1.draw gs
    walk_at "go"
    refine cm_draw dk hS2 (by decide) (by decide) fun w3 w30 w31 => ?_
    obtain ⟨w, hw⟩ : ∃ w, w = 4 + w3 := ⟨_, rfl⟩
    walk_at "go"
    rw [← hw]
    have w4 : 4 ≤ w := by omega
    have w6 : w ≤ 6 := by omega
    refine em_makeI (fs := [("width", V.int w)]) ?_
    walk_at "go"
    refine ⟨fun x dx H' QI EI hx hq => ⟨x, dx, _, w, rfl, rfl, hx, hq⟩, fun hh dx G3 _ e3 gh => ?_⟩
    have hS3 := ex_l e3 hS2
    walk_at "go"
    refine em_lcR1 ?_
    walk_at "go"
    refine ⟨12, rfl, by decide, by decide, fun _ => rfl, fun i acc G' => acc.length = i ∧ (∀ v ∈ acc, ∃ x, InpAt K G' v x) ∧ Ex G3 G', ⟨rfl, by simp, Ex.refl _⟩, fun i acc G' p => Nat.le_of_eq p.1, ?_, ?_⟩
    · rintro i acc G' D U' rfl hD hi ⟨p1, p2, p3⟩
      walk_at "go"
      refine cm_sa () (dk.hide hD) (ex_l p3 hS3) rfl fun v G4 e4 hv => ?_
      refine ⟨by rw [List.length_append, p1]; rfl, fun u hu => ?_, p3.trans e4⟩
      rcases List.mem_append.mp hu with z | z
      · obtain ⟨x, hx⟩ := p2 u z
        exact ⟨x, ex_inp e4 hx⟩
      · rw [List.mem_singleton.mp z]; exact hv
    · rintro acc L G4 G5 ⟨p1, p2, p3⟩ e5 gL gL5
      have p2' : ∀ v ∈ acc, ∃ x, InpAt K G5 v x := fun v hv => let ⟨x, hx⟩ := p2 v hv; ⟨x, ex_inp e5 hx⟩
      have e25 := e2.trans (e3.trans (p3.trans e5))
      have gLH : (V1 H H st).Ge L = none := none_of_ex (e2.trans (e3.trans p3)) gL
      have gh5 := e5 _ _ (p3 _ _ gh)
      have hS5 := ex_l (p3.trans e5) hS3
      refine gm_name (km_next (sm_seq ?_))
      refine sm_cut (fun σ G => ∃ vs, σ = [some (.ref sc), some (.ref st), some (.int w), some (.ref hh), some (.ref L), none, none, none, none, none, none] ∧ G L = some (.lst vs) ∧ Inps K G vs ∧ HsAt (He.ga K "Hasher") G hh w ∧ SqL K G sc (ns.map V.int)) ?_ ?_
      · rintro σ' G6 ⟨vs, rfl, gL6, ⟨hl, hin⟩, ⟨dx, gh6⟩, hS6⟩
        have hB : ∀ {G' : Hp}, Ex G6 G' → ∀ v ∈ vs, ∃ x, InpAt K G' v x := fun e v hv => let ⟨x, hx⟩ := hin v hv; ⟨x, ex_inp e hx⟩
        refine km_next (sm_seq (sm_forL ?_))
        walk_at "go"
        refine ⟨L, vs, rfl, sq_of gL6, fun i σ G' => ∃ v5 v6 v7 v8, σ = [some (.ref sc), some (.ref st), some (.int w), some (.ref hh), some (.ref L), v5, v6, v7, v8, none, none] ∧ Ex G6 G', ⟨_, _, _, _, rfl, Ex.refl _⟩, fun i σ' G' _ ⟨_, _, _, _, _, e⟩ => sq_of (e _ _ gL6), ?_, ?_⟩
        · rintro i v1 σ' G7 hi1 ⟨v5, v6, v7, v8, rfl, e7⟩
          obtain ⟨⟨t1, n1⟩, q1, l1, rfl, h11, h12, h13, h14, h15⟩ := hB e7 v1 (List.mem_of_getElem? hi1)
          replace h14 : n1.length ≤ 7 := h14
          have lim1 : (limbs n1).length ≤ 90000 := inp_limbs (x := (t1, n1)) ⟨q1, l1, rfl, h11, h12, h13, h14, h15⟩
          walk_at "go"
          refine sm_forL ?_
          walk_at "go"
          refine rm_slL (sq_of (e7 _ _ gL6)) fun s1 G8 _ e8 gs1 => ?_
          walk_at "go"
          refine rm_slL (sq_of (e8 _ _ (e7 _ _ gL6))) fun s2 G9 _ e9 gs2 => ?_
          have c1 := cut_len vs none (some 4)
          have c2 := cut_len vs (some 11) none
          refine rm_cat (e9 _ _ gs1) gs2 (sz6 (by omega)) fun s3 G10 _ e10 gs3 => ?_
          have e710 := e7.trans (e8.trans (e9.trans e10))
          refine ⟨s3, _, rfl, sq_of gs3, fun i σ G' => ∃ v6 v7 v8, σ = [some (.ref sc), some (.ref st), some (.int w), some (.ref hh), some (.ref L), some (.ref q1), v6, v7, v8, none, none] ∧ Ex G10 G', ⟨_, _, _, rfl, Ex.refl _⟩, fun i σ' G' _ ⟨_, _, _, _, e⟩ => sq_of (e _ _ gs3), ?_, ?_⟩
          · rintro i2 v2 σ' G11 hi2 ⟨v6, v7, v8, rfl, e11⟩
            have hm2 : v2 ∈ vs := (List.mem_append.mp (List.mem_of_getElem? hi2)).elim cut_mem cut_mem
            obtain ⟨⟨t2, n2⟩, q2, l2, rfl, h21, h22, h23, h24, h25⟩ := hB (e710.trans e11) v2 hm2
            replace h24 : n2.length ≤ 7 := h24
            have lim2 : (limbs n2).length ≤ 90000 := inp_limbs (x := (t2, n2)) ⟨q2, l2, rfl, h21, h22, h23, h24, h25⟩
            have e611 := e710.trans e11
            have e7_11 := (e8.trans (e9.trans e10)).trans e11
            have h11' := ex_t e7_11 h11
            have h12' := ex_l e7_11 h12
            walk_at "go"
            refine em_tup ?_
            walk_at "go"
            refine rm_ixT h21 (v := .int t2) rfl ?_
            walk_at "go"
            refine rm_ixT h21 (v := .ref l2) rfl ?_
            walk_at "go"
            refine rm_tupL h22 fun u2 G12 _ e12 gu2 => ?_
            walk_at "go"
            refine ⟨by show 2 ≤ sizeLine; decide, fun u3 G13 _ e13 gu3 => ?_⟩
            walk_at "go"
            refine cm_a ((q1, t1, l1, n1), (u3, t2, u2, n2)) ⟨rfl, ⟨ex_t (e12.trans e13) h11', .inl (ex_l (e12.trans e13) h12')⟩, st_of gu3, .inr (ex_t e13 (st_of gu2))⟩ fun v G14 e14 hv => ?_
            obtain ⟨an, rfl, han⟩ : ∃ p, v = .ref p ∧ CollAt K G14 p (t1, n1) (t2, n2) := hv
            have e11_14 := e12.trans (e13.trans e14)
            have h11b := ex_t e11_14 h11'
            have h12b := ex_l e11_14 h12'
            have h21b := ex_t e11_14 h21
            have h22b := ex_l e11_14 h22
            walk_at "go"
            refine em_tup ?_
            walk_at "go"
            refine em_tup ?_
            walk_at "go"
            refine rm_ixT h11b (v := .int t1) rfl ?_
            walk_at "go"
            refine rm_ixT h11b (v := .ref l1) rfl ?_
            walk_at "go"
            refine rm_tupL h12b fun x1 G15 _ e15 gx1 => ?_
            walk_at "go"
            refine ⟨by show 2 ≤ sizeLine; decide, fun x2 G16 _ e16 gx2 => ?_⟩
            walk_at "go"
            refine em_tup ?_
            walk_at "go"
            refine rm_ixT (ex_t (e15.trans e16) h21b) (v := .int t2) rfl ?_
            walk_at "go"
            refine rm_ixT (ex_t (e15.trans e16) h21b) (v := .ref l2) rfl ?_
            walk_at "go"
            refine rm_tupL (ex_l (e15.trans e16) h22b) fun x3 G17 _ e17 gx3 => ?_
            walk_at "go"
            refine ⟨by show 2 ≤ sizeLine; decide, fun x4 G18 _ e18 gx4 => ?_⟩
            walk_at "go"
            refine ⟨by show 3 ≤ sizeLine; decide, fun x5 G19 _ e19 gx5 => ?_⟩
            have e14_19 := e15.trans (e16.trans (e17.trans (e18.trans e19)))
            have hc2 : CollAt K G19 x5 (t1, n1) (t2, n2) := ⟨x2, x4, st_of gx5, ⟨x1, ex_t (e17.trans (e18.trans e19)) (st_of gx2), ex_t (e16.trans (e17.trans (e18.trans e19))) (st_of gx1)⟩, ⟨x3, ex_t e19 (st_of gx4), ex_t (e18.trans e19) (st_of gx3)⟩⟩
            have han' := ex_coll e14_19 han
            refine rm_neD (coll_dp han') (coll_dp hc2) (shaped_coll _ _) (shaped_coll _ _) ?_
            rw [eqv_coll]
            walk_at "go"
            refine ifnF ⟨rfl, rfl⟩ ?_
            refine sm_next ?_
            have h11c := ex_t e14_19 h11b
            have h12c := ex_l e14_19 h12b
            have h21c := ex_t e14_19 h21b
            have h22c := ex_l e14_19 h22b
            have e6_19 := e611.trans (e11_14.trans e14_19)
            have e10_19 := e11.trans (e11_14.trans e14_19)
            have gh19 := e6_19 _ _ gh6
            have o1 := ok_b5 h13 h15
            have o2 := ok_b5 h23 h25
            walk_at "go"
            refine rm_neD (d := inDL t1 n1) (e := inDL t2 n2) (.tup h11c (.cons (.int t1) (.cons (dp_ints h12c) .nil)) : Dp K G19 (.ref q1) (inDL t1 n1)) (.tup h21c (.cons (.int t2) (.cons (dp_ints h22c) .nil)) : Dp K G19 (.ref q2) (inDL t2 n2)) (shaped_inL _ _) (shaped_inL _ _) ?_
            rw [eqv_inL]
            walk_at "go"
            refine ifn (fun z => ?_) (fun z => ?_)
            · walk_at "go"
              refine rm_ixT h11c (v := .int t1) rfl ?_
              walk_at "go"
              refine rm_ixT h11c (v := .ref l1) rfl ?_
              walk_at "go"
              refine cm_a (w, t1, l1, n1) ⟨rfl, w4, by show w ≤ 128; omega, .inl h12c, fun n hn => (h15 n hn).1, by show (limbs n1).length ≤ 99000; omega⟩ fun v G20 e20 hv => ?_
              obtain rfl : v = .int (dgst w t1 n1) := hv
              walk_at "go"
              refine rm_ixT (ex_t e20 h21c) (v := .int t2) rfl ?_
              walk_at "go"
              refine rm_ixT (ex_t e20 h21c) (v := .ref l2) rfl ?_
              walk_at "go"
              refine cm_a (w, t2, l2, n2) ⟨rfl, w4, by show w ≤ 128; omega, .inl (ex_l e20 h22c), fun n hn => (h25 n hn).1, by show (limbs n2).length ≤ 99000; omega⟩ fun v G21 e21 hv => ?_
              obtain rfl : v = .int (dgst w t2 n2) := hv
              walk_at "go"
              refine cm_a (hh, w, .coll an (t1, n1) (t2, n2)) ⟨_, rfl, ⟨dx, e21 _ _ (e20 _ _ gh19)⟩, by show 0 ≤ w; omega, by show w ≤ 128; omega, rfl, ex_coll (e20.trans e21) han', lim1, lim2⟩ fun v G22 e22 hv => ?_
              obtain rfl : v = .bl (decide (dgst w t1 n1 = dgst w t2 n2)) := hv.trans (congrArg V.bl (decide_eq_decide.mpr ⟨fun zz => zz.2.2.2, fun zz => ⟨fun e => z (by injection e with e1 e2; exact ⟨e1, e2⟩), o1, o2, zz⟩⟩))
              walk_at "go"
              refine ifnF rfl ?_
              refine sm_next (km_kj ⟨_, _, _, rfl, e10_19.trans (e20.trans (e21.trans e22))⟩)
            · walk_at "go"
              refine cm_a (hh, w, .coll an (t1, n1) (t2, n2)) ⟨_, rfl, ⟨dx, gh19⟩, by show 0 ≤ w; omega, by show w ≤ 128; omega, rfl, han', lim1, lim2⟩ fun v G22 e22 hv => ?_
              obtain rfl : v = .bl false := hv.trans (congrArg V.bl (decide_eq_false fun zz => zz.1 (Prod.ext z.1 z.2)))
              walk_at "go"
              refine ifnF rfl ?_
              refine sm_next (km_kj ⟨_, _, _, rfl, e10_19.trans e22⟩)
          · rintro σ' G' ⟨v6, v7, v8, rfl, e⟩
            exact km_kj ⟨_, _, _, _, rfl, e710.trans e⟩
        · rintro σ' G7 ⟨v5, v6, v7, v8, rfl, e7⟩
          have gh7 := e7 _ _ gh6
          have hw1 : 0 ≤ w := by omega
          have hw2 : w ≤ 128 := by omega
          walk_at "go"
          refine cm_a (hh, w, .none) ⟨_, rfl, ⟨dx, gh7⟩, hw1, hw2, rfl⟩ fun v G8 e8 hv => ?_
          obtain rfl : v = .bl false := hv
          walk_at "go"
          refine ifnF rfl ?_
          walk_at "go"
          refine em_tup ?_
          walk_at "go"
          refine ⟨by show 5 ≤ sizeLine; decide, fun f1 G9 _ e9 gf1 => ?_⟩
          walk_at "go"
          refine cm_a (hh, w, .other f1 "found" [.int 1, .int 0, .int 3, .int 4]) ⟨_, rfl, ⟨dx, e9 _ _ (e8 _ _ gh7)⟩, hw1, hw2, rfl, st_of gf1, by decide +kernel⟩ fun v G10 e10 hv => ?_
          obtain rfl : v = .bl false := hv
          walk_at "go"
          refine ifnF rfl ?_
          refine sm_next ?_
          have gh10 := e10 _ _ (e9 _ _ (e8 _ _ gh7))
          have hS10 := ex_l (e7.trans (e8.trans (e9.trans e10))) hS6
          -- bad
          walk_at "go"
          refine em_lst ?_
          walk_at "go"
          refine em_tup ?_
          walk_at "go"
          refine em_tup ?_
          walk_at "go"
          refine em_tup ?_
          walk_at "go"
          refine ⟨by show 1 ≤ sizeLine; decide, fun a1 g1 _ f1 ga1 => ?_⟩
          walk_at "go"
          refine ⟨by show 2 ≤ sizeLine; decide, fun a2 g2 _ f2 ga2 => ?_⟩
          walk_at "go"
          refine em_tup ?_
          walk_at "go"
          refine em_tup ?_
          walk_at "go"
          refine ⟨by show 1 ≤ sizeLine; decide, fun a3 g3 _ f3 ga3 => ?_⟩
          walk_at "go"
          refine ⟨by show 2 ≤ sizeLine; decide, fun a4 g4 _ f4 ga4 => ?_⟩
          walk_at "go"
          refine ⟨by show 2 ≤ sizeLine; decide, fun a5 g5 _ f5 ga5 => ?_⟩
          walk_at "go"
          refine em_tup ?_
          walk_at "go"
          refine em_tup ?_
          walk_at "go"
          refine em_tup ?_
          walk_at "go"
          refine ⟨by show 0 ≤ sizeLine; decide, fun b1 g6 _ f6 gb1 => ?_⟩
          walk_at "go"
          refine ⟨by show 2 ≤ sizeLine; decide, fun b2 g7 _ f7 gb2 => ?_⟩
          walk_at "go"
          refine em_tup ?_
          walk_at "go"
          refine em_tup ?_
          walk_at "go"
          refine ⟨by show 0 ≤ sizeLine; decide, fun b3 g8 _ f8 gb3 => ?_⟩
          walk_at "go"
          refine ⟨by show 2 ≤ sizeLine; decide, fun b4 g9 _ f9 gb4 => ?_⟩
          walk_at "go"
          refine ⟨by show 2 ≤ sizeLine; decide, fun b5 g10 _ f10 gb5 => ?_⟩
          walk_at "go"
          refine em_tup ?_
          walk_at "go"
          refine em_tup ?_
          walk_at "go"
          refine em_tup ?_
          walk_at "go"
          refine ⟨by show 1 ≤ sizeLine; decide, fun c1 g11 _ f11 gc1 => ?_⟩
          walk_at "go"
          refine ⟨by show 2 ≤ sizeLine; decide, fun c2 g12 _ f12 gc2 => ?_⟩
          walk_at "go"
          refine em_tup ?_
          walk_at "go"
          refine em_tup ?_
          walk_at "go"
          refine ⟨by show 1 ≤ sizeLine; decide, fun c3 g13 _ f13 gc3 => ?_⟩
          walk_at "go"
          refine ⟨by show 2 ≤ sizeLine; decide, fun c4 g14 _ f14 gc4 => ?_⟩
          walk_at "go"
          refine ⟨by show 2 ≤ sizeLine; decide, fun c5 g15 _ f15 gc5 => ?_⟩
          walk_at "go"
          refine em_tup ?_
          walk_at "go"
          refine em_tup ?_
          walk_at "go"
          refine em_tup ?_
          walk_at "go"
          refine ⟨by show 1 ≤ sizeLine; decide, fun d1 g16 _ f16 gd1 => ?_⟩
          walk_at "go"
          refine ⟨by show 2 ≤ sizeLine; decide, fun d2 g17 _ f17 gd2 => ?_⟩
          walk_at "go"
          refine em_tup ?_
          walk_at "go"
          refine em_tup ?_
          walk_at "go"
          refine ⟨by show 2 ≤ sizeLine; decide, fun d3 g18 _ f18 gd3 => ?_⟩
          walk_at "go"
          refine ⟨by show 2 ≤ sizeLine; decide, fun d4 g19 _ f19 gd4 => ?_⟩
          walk_at "go"
          refine ⟨by show 2 ≤ sizeLine; decide, fun d5 g20 _ f20 gd5 => ?_⟩
          walk_at "go"
          refine ⟨by show 4 ≤ sizeLine; decide, fun LL g21 _ f21 gLL => ?_⟩
          have eA : Ex G10 g5 := f1.trans (f2.trans (f3.trans (f4.trans f5)))
          have eB : Ex g5 g10 := f6.trans (f7.trans (f8.trans (f9.trans f10)))
          have eC : Ex g10 g15 := f11.trans (f12.trans (f13.trans (f14.trans f15)))
          have eD : Ex g15 g21 := f16.trans (f17.trans (f18.trans (f19.trans (f20.trans f21))))
          have gh21 := eD _ _ (eC _ _ (eB _ _ (eA _ _ gh10)))
          have hS21 := ex_l (eA.trans (eB.trans (eC.trans eD))) hS10
          walk_at "go"
          refine cm_draw dk hS21 (by decide) (by decide) fun dd dd0 dd1 => ?_
          refine rm_ixM (sq_of gLL) dd0 dd1 fun v hv => ?_
          obtain ⟨bp, x, y, a, b, rfl, hb, hx, hy, hno, la, lb⟩ : ∃ bp x y a b, v = .ref bp ∧ SqT K g21 bp [.ref x, .ref y] ∧ InAt K g21 x a.1 a.2 ∧ InAt K g21 y b.1 b.2 ∧ (¬ okIn a ∨ ¬ okIn b) ∧ (limbs a.2).length ≤ 90000 ∧ (limbs b.2).length ≤ 90000 := by
            have tA := eB.trans (eC.trans eD)
            have tB := eC.trans eD
            simp only [List.mem_cons, List.not_mem_nil, or_false] at hv
            rcases hv with rfl | rfl | rfl | rfl
            · exact ⟨a5, a2, a4, (16, [1]), (0, [1]), rfl, ex_t tA (st_of ga5), ⟨a1, ex_t tA (ex_t (f3.trans (f4.trans f5)) (st_of ga2)), ex_t tA (ex_t (f2.trans (f3.trans (f4.trans f5))) (st_of ga1))⟩, ⟨a3, ex_t tA (ex_t f5 (st_of ga4)), ex_t tA (ex_t (f4.trans f5) (st_of ga3))⟩, by decide +kernel, by decide +kernel, by decide +kernel⟩
            · exact ⟨b5, b2, b4, (-1, []), (0, []), rfl, ex_t tB (st_of gb5), ⟨b1, ex_t tB (ex_t (f8.trans (f9.trans f10)) (st_of gb2)), ex_t tB (ex_t (f7.trans (f8.trans (f9.trans f10))) (st_of gb1))⟩, ⟨b3, ex_t tB (ex_t f10 (st_of gb4)), ex_t tB (ex_t (f9.trans f10) (st_of gb3))⟩, by decide +kernel, by decide +kernel, by decide +kernel⟩
            · exact ⟨c5, c2, c4, (0, [-1]), (0, [1]), rfl, ex_t eD (st_of gc5), ⟨c1, ex_t eD (ex_t (f13.trans (f14.trans f15)) (st_of gc2)), ex_t eD (ex_t (f12.trans (f13.trans (f14.trans f15))) (st_of gc1))⟩, ⟨c3, ex_t eD (ex_t f15 (st_of gc4)), ex_t eD (ex_t (f14.trans f15) (st_of gc3))⟩, by decide +kernel, by decide +kernel, by decide +kernel⟩
            · exact ⟨d5, d2, d4, (3, [2]), (3, [-2, 5]), rfl, ex_t f21 (st_of gd5), ⟨d1, ex_t (f18.trans (f19.trans (f20.trans f21))) (st_of gd2), ex_t (f17.trans (f18.trans (f19.trans (f20.trans f21)))) (st_of gd1)⟩, ⟨d3, ex_t (f20.trans f21) (st_of gd4), ex_t (f19.trans (f20.trans f21)) (st_of gd3)⟩, by decide +kernel, by decide +kernel, by decide +kernel⟩
          have hno2 : ∀ p, isColl w (.coll p a b) = false ∧ isColl w (.coll p b a) = false := fun p => ⟨decide_eq_false fun z => hno.elim (fun n => n z.2.1) (fun n => n z.2.2.1), decide_eq_false fun z => hno.elim (fun n => n z.2.2.1) (fun n => n z.2.1)⟩
          walk_at "go"
          refine em_tup ?_
          walk_at "go"
          refine rm_ixT hb (v := .ref x) rfl ?_
          walk_at "go"
          refine rm_ixT hb (v := .ref y) rfl ?_
          walk_at "go"
          refine ⟨by show 3 ≤ sizeLine; decide, fun r1 g22 _ f22 gr1 => ?_⟩
          walk_at "go"
          refine cm_a (hh, w, .coll r1 a b) ⟨_, rfl, ⟨dx, f22 _ _ gh21⟩, hw1, hw2, rfl, ⟨x, y, st_of gr1, ex_in f22 hx, ex_in f22 hy⟩, la, lb⟩ fun v g23 f23 hv => ?_
          obtain rfl : v = .bl false := hv.trans (congrArg V.bl (hno2 r1).1)
          walk_at "go"
          refine ifdT rfl ?_
          have f2123 := f22.trans f23
          walk_at "go"
          refine em_tup ?_
          walk_at "go"
          refine rm_ixT (ex_t f2123 hb) (v := .ref y) rfl ?_
          walk_at "go"
          refine rm_ixT (ex_t f2123 hb) (v := .ref x) rfl ?_
          walk_at "go"
          refine ⟨by show 3 ≤ sizeLine; decide, fun r2 g24 _ f24 gr2 => ?_⟩
          walk_at "go"
          refine cm_a (hh, w, .coll r2 b a) ⟨_, rfl, ⟨dx, f24 _ _ (f2123 _ _ gh21)⟩, hw1, hw2, rfl, ⟨y, x, st_of gr2, ex_in (f2123.trans f24) hy, ex_in (f2123.trans f24) hx⟩, lb, la⟩ fun v g25 f25 hv => ?_
          obtain rfl : v = .bl false := hv.trans (congrArg V.bl (hno2 r2).2)
          walk_at "go"
          exact fun H' _ => q H'
      · walk_at "go"
        refine cm_draw dk hS5 (by decide) (by decide) fun d d0 d1 => ?_
        walk_at "go"
        refine ifd (fun z => ?_) (fun z => ?_)
        · walk_at "go"
          refine em_append (l := L) (xs := acc) ?_
          walk_at "go"
          refine ⟨rfl, gL5, ?_⟩
          refine em_tup ?_
          walk_at "go"
          obtain ⟨v0, hv0⟩ : ∃ v0, acc[0]? = some v0 := ⟨acc[0], List.getElem?_eq_getElem (by rw [p1]; decide)⟩
          obtain ⟨x, p, l, rfl, h1, h2, h3, h4, h5⟩ := p2' v0 (List.mem_of_getElem? hv0)
          refine rm_ixL (sq_of gL5) (atI_nat (j := 0) hv0) ?_
          walk_at "go"
          refine rm_ixT h1 (v := .int x.1) rfl ?_
          walk_at "go"
          refine rm_ixL (sq_of gL5) (atI_nat (j := 0) hv0) ?_
          walk_at "go"
          refine rm_ixT h1 (v := .ref l) rfl ?_
          walk_at "go"
          refine rm_list (.inl h2) fun l' G6 n6 e6 gl' => ?_
          walk_at "go"
          refine ⟨by show 2 ≤ sizeLine; decide, fun p' G7 _ e7 gp' => ?_⟩
          have gL7 := e7 _ _ (e6 _ _ gL5)
          refine ⟨gL7, gLH, by rw [p1]; decide, ?_⟩
          walk_at "go"
          have base4 : Ex G4 (upd G7 L (.lst (acc ++ [.ref p']))) := Ex.mut ((e5.trans e6).trans e7) gL
          have np : p' ≠ L := fun zz => by rw [zz, gL7] at gp'; cases gp'
          have nl' : l' ≠ L := (ne_of_none gL5 n6).symm
          refine km_kj ⟨acc ++ [.ref p'], rfl, upd_same, ⟨by rw [List.length_append, p1]; show 12 ≤ 12 + 1 ∧ 12 + 1 ≤ 13; decide, fun v hv => ?_⟩, ⟨dx, base4 _ _ (p3 _ _ gh)⟩, ex_l base4 (ex_l p3 hS3)⟩
          rcases List.mem_append.mp hv with zz | zz
          · obtain ⟨x, hx⟩ := p2 v zz
            exact ⟨x, ex_inp base4 hx⟩
          · rw [List.mem_singleton.mp zz]
            exact ⟨x, p', l', rfl, st_of (by rw [upd_ne np]; exact gp'), sq_of (by rw [upd_ne nl']; exact e7 _ _ gl'), h3, h4, h5⟩
        · refine sm_next (km_kj ⟨acc, rfl, gL5, ⟨⟨by omega, by omega⟩, p2'⟩, ⟨dx, gh5⟩, hS5⟩)

end
def dd_Hasher___init__ : He.DefD := ⟨("Hasher", some "__init__"), "__init__", "Hasher.__init__", defArgs s_Hasher___init__, defBody s_Hasher___init__, defScope s_Hasher___init__, [], []⟩
def dd_Hasher_digest : He.DefD := ⟨("Hasher", some "digest"), "digest", "Hasher.digest", defArgs s_Hasher_digest, defBody s_Hasher_digest, defScope s_Hasher_digest, [], []⟩
def dd_limbs_of : He.DefD := ⟨("limbs_of", none), "limbs_of", "limbs_of", defArgs s_limbs_of, defBody s_limbs_of, defScope s_limbs_of, [], []⟩
def dd_mixed : He.DefD := ⟨("mixed", none), "mixed", "mixed", defArgs s_mixed, defBody s_mixed, defScope s_mixed, [], []⟩
def dd_collision : He.DefD := ⟨("collision", none), "collision", "collision", defArgs s_collision, defBody s_collision, defScope s_collision, [], []⟩
def dd_is_collision : He.DefD := ⟨("is_collision", none), "is_collision", "is_collision", defArgs s_is_collision, defBody s_is_collision, defScope s_is_collision, [], []⟩
def dd_is_input : He.DefD := ⟨("is_input", none), "is_input", "is_input", defArgs s_is_input, defBody s_is_input, defScope s_is_input, [], []⟩
def dd__law_draw : He.DefD := ⟨("_law_draw", none), "_law_draw", "_law_draw", defArgs s__law_draw, defBody s__law_draw, defScope s__law_draw, [], []⟩
def dd__law_digest : He.DefD := ⟨("_law_digest", none), "_law_digest", "_law_digest", defArgs s__law_digest, defBody s__law_digest, defScope s__law_digest, [], []⟩
def dd__law_input : He.DefD := ⟨("_law_input", none), "_law_input", "_law_input", defArgs s__law_input, defBody s__law_input, defScope s__law_input, [], []⟩
def dd_law : He.DefD := ⟨("law", none), "law", "law", defArgs s_law, defBody s_law, defScope s_law, [], []⟩
def fn : List He.DefD := [dd_Hasher___init__, dd_Hasher_digest, dd_limbs_of, dd_mixed, dd_collision, dd_is_collision, dd_is_input, dd__law_draw, dd__law_digest, dd__law_input, dd_law]
def fa : List He.Fa := [.glo "limbs_of", .glo "mixed", .glo "collision", .glo "is_collision", .glo "is_input", .glo "_law_draw", .glo "_law_digest", .glo "_law_input", .glo "law", .cls "Hasher", .glo "Hasher", .free "all", .free "int", .free "len", .free "list", .free "max", .free "range", .free "tuple", .int "FIRST_FACTOR" 15241578750190521011, .int "FIRST_SHIFT" 31, .int "FIRST_START" 7263541890216354987, .int "GREATEST_TAG" 15, .int "LIMB_BITS" 32, .int "LIMB_MASK" 4294967295, .int "MIX_BITS" 128, .int "SECOND_FACTOR" 9764318250173649287, .int "SECOND_SHIFT" 29, .int "SECOND_START" 12985647301928374651, .int "WORD_MASK" 18446744073709551615, .meth "Hasher" "digest", .mkr "Hasher", .noat "Hasher" "width"]
abbrev R : PySem.W.OpenRow := PySem.W.OpenLaw.row PySem.Challenge.rw_offing_k01_collisions
abbrev hk : PySem.W.Hook := He.hookD 5 fa fn
def ob (s : PySem.W.SharedT) : He.AlD := He.obsDG 5 fa fn (HandSHeadRun.getT s)
theorem ob_eq (s : PySem.W.SharedT) : ob s = hk.obs s.abs := He.obsDG_eq (HandSHeadRun.getT_eq s)
theorem run (w : World) : HandSHeadRun.RunEq R (PySem.W.view R.prog [23]) hk ob 4000 ["_wall", "LIMB_BITS", "LIMB_MASK", "WORD_MASK", "MIX_BITS", "GREATEST_TAG", "FIRST_START", "SECOND_START", "FIRST_FACTOR", "SECOND_FACTOR", "FIRST_SHIFT", "SECOND_SHIFT", "Hasher", "limbs_of", "mixed", "collision", "is_collision", "is_input", "_law_draw", "_law_digest", "_law_input"] w := by
  intro os
  kernel_rfl
theorem facts {P : Program} {w : World} {K : PySem.W.Frag} {h : Heap} {mg : Str → Option Value} {f : Addr} (X : K.In h) (G : h.Ns mainGlobals mg) (hfa : mg ("law" : Str) = some (.ref f)) (c : He.SaysD fa fn K) :
    ∃ fd : FuncData, (∀ (s : Shared) (v : Value), BindsTo s fd ⟨[v], []⟩ [("script", v)]) ∧ ∀ base : Heap, K.In base → base.Ns mainGlobals mg → FnOk P w K mg base CX0 4 f fd ["script"] (sp_law K) := by
  obtain ⟨fd0, F0⟩ := c.def_ 0 (d := dd_Hasher___init__) rfl
  obtain ⟨fd1, F1⟩ := c.def_ 1 (d := dd_Hasher_digest) rfl
  obtain ⟨fd2, F2⟩ := c.def_ 2 (d := dd_limbs_of) rfl
  obtain ⟨fd3, F3⟩ := c.def_ 3 (d := dd_mixed) rfl
  obtain ⟨fd4, F4⟩ := c.def_ 4 (d := dd_collision) rfl
  obtain ⟨fd5, F5⟩ := c.def_ 5 (d := dd_is_collision) rfl
  obtain ⟨fd6, F6⟩ := c.def_ 6 (d := dd_is_input) rfl
  obtain ⟨fd7, F7⟩ := c.def_ 7 (d := dd__law_draw) rfl
  obtain ⟨fd8, F8⟩ := c.def_ 8 (d := dd__law_digest) rfl
  obtain ⟨fd9, F9⟩ := c.def_ 9 (d := dd__law_input) rfl
  obtain ⟨fd10, F10⟩ := c.def_ 10 (d := dd_law) rfl
  let T : Txt K mg := {
    fd_Hasher___init__ := fd0,
    Hasher___init__ := ⟨F0, (F0.bindsN (ps := ["self", "width"]) fun _ _ _ _ _ _ us hl => match us, hl with | [_, _], _ => rfl)⟩,
    fd_Hasher_digest := fd1,
    Hasher_digest := ⟨F1, (F1.bindsN (ps := ["self", "tag", "numbers"]) fun _ _ _ _ _ _ us hl => match us, hl with | [_, _, _], _ => rfl)⟩,
    fd_limbs_of := fd2,
    limbs_of := ⟨F2, He.glo_ok X G (c.fact 0 (f := .glo "limbs_of") rfl), (F2.bindsN (ps := ["numbers"]) fun _ _ _ _ _ _ us hl => match us, hl with | [_], _ => rfl)⟩,
    fd_mixed := fd3,
    mixed := ⟨F3, He.glo_ok X G (c.fact 1 (f := .glo "mixed") rfl), (F3.bindsN (ps := ["limbs"]) fun _ _ _ _ _ _ us hl => match us, hl with | [_], _ => rfl)⟩,
    fd_collision := fd4,
    collision := ⟨F4, He.glo_ok X G (c.fact 2 (f := .glo "collision") rfl), (F4.bindsN (ps := ["first", "second"]) fun _ _ _ _ _ _ us hl => match us, hl with | [_, _], _ => rfl)⟩,
    fd_is_collision := fd5,
    is_collision := ⟨F5, He.glo_ok X G (c.fact 3 (f := .glo "is_collision") rfl), (F5.bindsN (ps := ["hasher", "answer"]) fun _ _ _ _ _ _ us hl => match us, hl with | [_, _], _ => rfl)⟩,
    fd_is_input := fd6,
    is_input := ⟨F6, He.glo_ok X G (c.fact 4 (f := .glo "is_input") rfl), (F6.bindsN (ps := ["pair"]) fun _ _ _ _ _ _ us hl => match us, hl with | [_], _ => rfl)⟩,
    fd__law_draw := fd7,
    _law_draw := ⟨F7, He.glo_ok X G (c.fact 5 (f := .glo "_law_draw") rfl), (F7.bindsN (ps := ["state", "script", "size"]) fun _ _ _ _ _ _ us hl => match us, hl with | [_, _, _], _ => rfl)⟩,
    fd__law_digest := fd8,
    _law_digest := ⟨F8, He.glo_ok X G (c.fact 6 (f := .glo "_law_digest") rfl), (F8.bindsN (ps := ["width", "tag", "numbers"]) fun _ _ _ _ _ _ us hl => match us, hl with | [_, _, _], _ => rfl)⟩,
    fd__law_input := fd9,
    _law_input := ⟨F9, He.glo_ok X G (c.fact 7 (f := .glo "_law_input") rfl), (F9.bindsN (ps := ["state", "script"]) fun _ _ _ _ _ _ us hl => match us, hl with | [_, _], _ => rfl)⟩,
    fd_law := fd10,
    law := ⟨F10, He.glo_ok X G (c.fact 8 (f := .glo "law") rfl), (F10.bindsN (ps := ["script"]) fun _ _ _ _ _ _ us hl => match us, hl with | [_], _ => rfl)⟩,
    cl_Hasher := He.cls_ok (c.fact 9 (f := .cls "Hasher") rfl),
    g_Hasher := He.glo_ok X G (c.fact 10 (f := .glo "Hasher") rfl),
    z_all := He.free_ok X G (c.fact 11 (f := .free "all") rfl),
    z_int := He.free_ok X G (c.fact 12 (f := .free "int") rfl),
    z_len := He.free_ok X G (c.fact 13 (f := .free "len") rfl),
    z_list := He.free_ok X G (c.fact 14 (f := .free "list") rfl),
    z_max := He.free_ok X G (c.fact 15 (f := .free "max") rfl),
    z_range := He.free_ok X G (c.fact 16 (f := .free "range") rfl),
    z_tuple := He.free_ok X G (c.fact 17 (f := .free "tuple") rfl),
    c_FIRST_FACTOR := He.int_ok X G (c.fact 18 (f := .int "FIRST_FACTOR" 15241578750190521011) rfl),
    c_FIRST_SHIFT := He.int_ok X G (c.fact 19 (f := .int "FIRST_SHIFT" 31) rfl),
    c_FIRST_START := He.int_ok X G (c.fact 20 (f := .int "FIRST_START" 7263541890216354987) rfl),
    c_GREATEST_TAG := He.int_ok X G (c.fact 21 (f := .int "GREATEST_TAG" 15) rfl),
    c_LIMB_BITS := He.int_ok X G (c.fact 22 (f := .int "LIMB_BITS" 32) rfl),
    c_LIMB_MASK := He.int_ok X G (c.fact 23 (f := .int "LIMB_MASK" 4294967295) rfl),
    c_MIX_BITS := He.int_ok X G (c.fact 24 (f := .int "MIX_BITS" 128) rfl),
    c_SECOND_FACTOR := He.int_ok X G (c.fact 25 (f := .int "SECOND_FACTOR" 9764318250173649287) rfl),
    c_SECOND_SHIFT := He.int_ok X G (c.fact 26 (f := .int "SECOND_SHIFT" 29) rfl),
    c_SECOND_START := He.int_ok X G (c.fact 27 (f := .int "SECOND_START" 12985647301928374651) rfl),
    c_WORD_MASK := He.int_ok X G (c.fact 28 (f := .int "WORD_MASK" 18446744073709551615) rfl),
    me_Hasher_digest := He.meth_ok (c.fact 29 (f := .meth "Hasher" "digest") rfl),
    mk_Hasher := He.mkr_ok (c.fact 30 (f := .mkr "Hasher") rfl),
    n_Hasher_width := He.noat_ok (c.fact 31 (f := .noat "Hasher" "width") rfl) }
  have e := hfa.symm.trans T.law.g
  have e2 : f = He.fAd K ("law", none) := by injection e with e1; injection e1
  subst e2
  exact ⟨T.fd_law, fun s v => FunD.bindsA (ps := ["script"]) T.law.F (fun _ _ _ _ _ _ us hl => match us, hl with | [_], _ => rfl) s [v] rfl, fun base _ _ => ok_law T⟩
end Pf
open PySem PySem.W PySem.Calls PyProof.Rows
set_option maxRecDepth 100000 in
set_option maxHeartbeats 0 in
theorem PySem.Challenge.cw_offing_k01_collisions_holds : PySem.Challenge.rw_offing_k01_collisions.Holds := by
  w_on; o_law
  refine HandSHeadRun.head_any (r := OpenLaw.row PySem.Challenge.rw_offing_k01_collisions) (q := view (OpenLaw.row PySem.Challenge.rw_offing_k01_collisions).prog [23]) (H := Pf.hk) (ob := Pf.ob) (M := 4000) (loose := ["_wall", "LIMB_BITS", "LIMB_MASK", "WORD_MASK", "MIX_BITS", "GREATEST_TAG", "FIRST_START", "SECOND_START", "FIRST_FACTOR", "SECOND_FACTOR", "FIRST_SHIFT", "SECOND_SHIFT", "Hasher", "limbs_of", "mixed", "collision", "is_collision", "is_input", "_law_draw", "_law_digest", "_law_input"]) (d := HandSHeadRun.topDef (OpenLaw.row PySem.Challenge.rw_offing_k01_collisions).prog 23) (kwd := []) Pf.ob_eq
    (by kernel_rfl) (fun s => by kernel_rfl) Pf.run (by kernel_rfl) (by kernel_rfl) (by kernel_rfl) (by rfl) (by first | assumption | decide +kernel) (by decide +kernel) ⟨rfl, rfl, rfl, rfl, rfl, by decide +kernel⟩ ?hw ?hc
  case hw => w_witness2
  case hc =>
    refine L2.walk_ofE (l := PySem.Challenge.rw_offing_k01_collisions) (n := 63) (k := 4) (x := "script") (CX := L2.CX0) rfl (by decide) (by kernel_rfl) ⟨rfl, by decide, by decide⟩ ?F (fun _ _ _ _ z => z)
    intro w mg fa h Y G hmg0
    obtain ⟨K, KX, c⟩ := Y
    have hmg : mg ("law" : PySem.Str) = some (.ref fa) := by
      have e : (HandSHeadRun.topDef (OpenLaw.row PySem.Challenge.rw_offing_k01_collisions).prog 23).name = ("law" : PySem.Str) := by kernel_rfl
      rw [← e]
      exact hmg0
    obtain ⟨fd, hb, hF⟩ := Pf.facts (P := (PySem.Challenge.rw_offing_k01_collisions).prog) (w := w) KX G hmg c
    exact ⟨K, fd, Pf.sp_law K, KX, hb, fun H a ns hl _ hS => Pf.law_starts K H a ns hl hS, hF⟩

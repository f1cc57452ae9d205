import PyProof.Rows.All
import Wide.All
import OpenK.AllK
import Wide.FinOn
import HandS.ForMost
import HandS.Evl
import HandS.Flow
import HandS.Style
import HandS.Star
import HandS.Wide
import HandS.WideBits
import HandS.IsInst
import HandS.Defaults
import HandS.WordsExc
import HandS.Head0
import HandS.Head1
import HandS.Head2
import HandS.HeadEnd
import HandS.HeadHook1
import HandS.HeadHook2
import PySem.Challenge.RW_offing_k10_digits_of_messages
set_option Elab.async false
set_option linter.all false
set_option maxRecDepth 100000
set_option maxHeartbeats 4000000
/-! A calculus over readings: what a part of the heap shows (G), what is hidden, what must stay. -/
namespace Wp
open PySem L2 Evl StX
set_option autoImplicit false

structure Vx where
  He : Hp
  Ge : Hp
  I : Hp → Prop
  m : Addr → Prop
  st : ∀ H H', I H → (∀ a, m a → H' a = H a) → I H'

structure J (U : Vx) (H G : Hp) : Prop where
  up : Ex G H
  keep : Ex U.He H
  new : ∀ a, G a ≠ none → U.Ge a = none → U.He a = none
  hid : U.I H
  msk : ∀ a, U.m a → G a = none ∧ H a ≠ none

theorem none_of_ex {H H' : Hp} {a : Addr} (e : Ex H H') (h : H' a = none) : H a = none := fresh_back e h
theorem ex_upd2 {G H : Hp} {p : Addr} {o : HO} (e : Ex G H) : Ex (upd G p o) (upd H p o) := fun a u h => by
  by_cases z : a = p
  · subst z; rw [upd_same] at h ⊢; exact h
  · rw [upd_ne z] at h ⊢; exact e a u h
theorem J.alloc {U : Vx} {H G : Hp} {p : Addr} {o : HO} (j : J U H G) (h : H p = none) : J U (upd H p o) (upd G p o) where
  up := ex_upd2 j.up
  keep := fun a u e => by
    have e1 := j.keep a u e
    rw [upd_ne (ne_of_none e1 h)]; exact e1
  new := fun a e g => by
    by_cases z : a = p
    · subst z; exact none_of_ex j.keep h
    · rw [upd_ne z] at e; exact j.new a e g
  hid := U.st H _ j.hid fun a ma => by
    have q := (j.msk a ma).2
    have : a ≠ p := fun z => by subst z; exact q h
    rw [upd_ne this]
  msk := fun a ma => by
    obtain ⟨q1, q2⟩ := j.msk a ma
    have : a ≠ p := fun z => by subst z; exact q2 h
    rw [upd_ne this, upd_ne this]; exact ⟨q1, q2⟩
theorem J.write {U : Vx} {H G : Hp} {p : Addr} {o o' : HO} (j : J U H G) (h : G p = some o) (g : U.Ge p = none) : J U (upd H p o') (upd G p o') where
  up := ex_upd2 j.up
  keep := fun a u e => by
    have : a ≠ p := fun z => by
      subst z
      rw [j.new a (by rw [h]; exact fun q => by cases q) g] at e; cases e
    rw [upd_ne this]; exact j.keep a u e
  new := fun a e q => by
    by_cases z : a = p
    · subst z; exact j.new a (by rw [h]; exact fun q => by cases q) q
    · rw [upd_ne z] at e; exact j.new a e q
  hid := U.st H _ j.hid fun a ma => by
    have q := (j.msk a ma).1
    have : a ≠ p := fun z => by subst z; rw [h] at q; cases q
    rw [upd_ne this]
  msk := fun a ma => by
    obtain ⟨q1, q2⟩ := j.msk a ma
    have : a ≠ p := fun z => by subst z; rw [h] at q1; cases q1
    rw [upd_ne this, upd_ne this]; exact ⟨q1, q2⟩
theorem J.free {U : Vx} {H G : Hp} {p : Addr} (j : J U H G) (h : H p = none) : G p = none := none_of_ex j.up h
/-- behind a call that keeps what stood -/
theorem J.call {U : Vx} {H G H' G' : Hp} (j : J U H G) (e1 : Ex H H') (e3 : Ex G' H') (n : ∀ a, G' a ≠ none → G a = none → H a = none) : J U H' G' where
  up := e3
  keep := j.keep.trans e1
  new := fun a q g => by
    cases z : G a with
    | none => exact none_of_ex j.keep (n a q z)
    | some o => exact j.new a (by rw [z]; exact fun q => by cases q) g
  hid := U.st H _ j.hid fun a ma => by
    obtain ⟨_, q2⟩ := j.msk a ma
    cases z : H a with
    | none => exact absurd z q2
    | some o => exact e1 a o z
  msk := fun a ma => by
    obtain ⟨q1, q2⟩ := j.msk a ma
    constructor
    · cases z : G' a with
      | none => rfl
      | some o => exact absurd (n a (by rw [z]; exact fun q => by cases q) q1) q2
    · cases z : H a with
      | none => exact absurd z q2
      | some o => rw [e1 a o z]; exact fun q => by cases q
/-- the hidden part alone has changed, at p -/
theorem J.hidden {U : Vx} {H G : Hp} {p : Addr} {o : HO} (j : J U H G) (mp : U.m p) (hI : U.I (upd H p o)) (hne : U.He p = none) : J U (upd H p o) G where
  up := fun a u e => by
    have : a ≠ p := fun z => by subst z; rw [(j.msk a mp).1] at e; cases e
    rw [upd_ne this]; exact j.up a u e
  keep := fun a u e => by
    have : a ≠ p := fun z => by subst z; rw [hne] at e; cases e
    rw [upd_ne this]; exact j.keep a u e
  new := j.new
  hid := hI
  msk := fun a ma => by
    refine ⟨(j.msk a ma).1, ?_⟩
    by_cases z : a = p
    · subst z; rw [upd_same]; exact fun q => by cases q
    · rw [upd_ne z]; exact (j.msk a ma).2
/-- nothing hidden -/
def V0 (H G : Hp) : Vx := ⟨H, G, fun _ => True, fun _ => False, fun _ _ _ _ => trivial⟩
theorem J.start {H G : Hp} (e : Ex G H) : J (V0 H G) H G := ⟨e, Ex.refl H, fun a q g => absurd g q, trivial, fun _ z => z.elim⟩
/-- one more object hidden: the list at D -/
def Vx.hide (U : Vx) (D : Addr) (o : HO) : Vx := ⟨U.He, U.Ge, fun H => U.I H ∧ H D = some o, fun a => U.m a ∨ a = D, fun H H' ⟨i, d⟩ e => ⟨U.st H H' i fun a ma => e a (.inl ma), by rw [e D (.inr rfl)]; exact d⟩⟩
theorem J.hide {U : Vx} {H G : Hp} {D : Addr} {o : HO} (j : J U H G) (h : H D = some o) (g : G D = none) : J (U.hide D o) H G where
  up := j.up
  keep := j.keep
  new := j.new
  hid := ⟨j.hid, h⟩
  msk := fun a ma => by
    rcases ma with ma | rfl
    · exact j.msk a ma
    · exact ⟨g, by rw [h]; exact fun q => by cases q⟩
theorem J.unhide {U : Vx} {H G : Hp} {D : Addr} {o : HO} (j : J (U.hide D o) H G) (hm : ¬ U.m D) (hn : U.He D = none) : J U H (upd G D o) where
  up := fun a u e => by
    by_cases z : a = D
    · subst z; rw [upd_same] at e; rw [j.hid.2]; exact e
    · rw [upd_ne z] at e; exact j.up a u e
  keep := j.keep
  new := fun a q g => by
    by_cases z : a = D
    · subst z; exact hn
    · rw [upd_ne z] at q; exact j.new a q g
  hid := j.hid.1
  msk := fun a ma => by
    have : a ≠ D := fun z => by subst z; exact hm ma
    rw [upd_ne this]; exact j.msk a (.inl ma)
theorem J.rehide {U : Vx} {H G : Hp} {D : Addr} {o o' : HO} (j : J (U.hide D o) H G) (hm : ¬ U.m D) (hn : U.He D = none) : J (U.hide D o') (upd H D o') G where
  up := fun a u e => by
    have : a ≠ D := fun z => by subst z; rw [(j.msk a (.inr rfl)).1] at e; cases e
    rw [upd_ne this]; exact j.up a u e
  keep := fun a u e => by
    have : a ≠ D := fun z => by subst z; exact absurd (show U.He a = some u from e) (by rw [hn]; exact fun q => by cases q)
    rw [upd_ne this]; exact j.keep a u e
  new := j.new
  hid := ⟨U.st H _ j.hid.1 fun a ma => by
    have : a ≠ D := fun z => by subst z; exact hm ma
    rw [upd_ne this], upd_same⟩
  msk := fun a ma => by
    refine ⟨(j.msk a ma).1, ?_⟩
    by_cases z : a = D
    · subst z; rw [upd_same]; exact fun q => by cases q
    · rw [upd_ne z]; exact (j.msk a ma).2

/-! ### data that stands -/
theorem dp_mono {K : PySem.W.Frag} {H H' : Hp} (e : Ex H H') : ∀ (d : PyData) (v : V), Dp K H v d → Dp K H' v d
  | .none, v, h => by cases h; exact .non
  | .bool b, v, h => by cases h; exact .bl b
  | .int b, v, h => by cases h; exact .int b
  | .str b, v, h => by cases h; exact .str b
  | .list ds, v, h => by cases h with | lst a b => exact .lst (ex_l e a) (dpAll_mono e ds _ b)
  | .tuple ds, v, h => by cases h with | tup a b => exact .tup (ex_t e a) (dpAll_mono e ds _ b)
  | .dict _, v, h => by cases h
where
  dpAll_mono {K : PySem.W.Frag} {H H' : Hp} (e : Ex H H') : ∀ (ds : List PyData) (vs : List V), DpAll K H vs ds → DpAll K H' vs ds
  | [], vs, h => by cases h; exact .nil
  | d :: ds, vs, h => by cases h with | cons a b => exact .cons (dp_mono e d _ a) (dpAll_mono e ds _ b)

/-! ### the judgements -/
def EM (U : Vx) (te : TE) (σ : L2.St) (G : Hp) (Q : VK) : Prop := ∀ H, J U H G → ∀ QH : VK, (∀ v H' G', J U H' G' → Q v G' → QH v H') → te σ H QH
def TM (U : Vx) (tt : TT) (σ : L2.St) (G : Hp) (Q : Bool → Hp → Prop) : Prop := ∀ H, J U H G → ∀ QH : Bool → Hp → Prop, (∀ v H' G', J U H' G' → Q v G' → QH v H') → tt σ H QH
def AM (U : Vx) (ta : TA) (σ : L2.St) (G : Hp) (Q : List V → Hp → Prop) : Prop := ∀ H, J U H G → ∀ QH : List V → Hp → Prop, (∀ v H' G', J U H' G' → Q v G' → QH v H') → ta σ H QH
def GM (U : Vx) (g : TG) (v : V) (σ : L2.St) (G : Hp) (Q : L2.St → Hp → Prop) : Prop := ∀ H, J U H G → ∀ QH : L2.St → Hp → Prop, (∀ σ' H' G', J U H' G' → Q σ' G' → QH σ' H') → g v σ H QH
def RM (U : Vx) (r : Hp → VK → Prop) (G : Hp) (Q : VK) : Prop := ∀ H, J U H G → ∀ QH : VK, (∀ v H' G', J U H' G' → Q v G' → QH v H') → r H QH
def CM (U : Vx) (sp : Sp) (vs : List V) (G : Hp) (Q : VK) : Prop := ∀ H, J U H G → ∀ QH : VK, (∀ v H' G', J U H' G' → Q v G' → QH v H') → ∀ E, sp vs H QH E
def SM (U : Vx) (t : TS) (D : Ends) (σ : L2.St) (G : Hp) : Prop := ∀ H, J U H G → t D σ H
def KM (U : Vx) (nx : L2.St → Hp → Prop) (σ : L2.St) (G : Hp) : Prop := ∀ H, J U H G → nx σ H
def KV (U : Vx) (rt : VK) (v : V) (G : Hp) : Prop := ∀ H, J U H G → rt v H
/-- a bool's way on -/
def BV (x : V) (P : Bool → Prop) : Prop := ∃ k, x = .bl k ∧ P k

section
variable {U : Vx} {σ : L2.St} {G : Hp} {Q : VK} {te ta tb tc tx : TE} {t u tt : TT} {v x y z : V} {r : R2} {K : PySem.W.Frag} {QT : Bool → Hp → Prop}
theorem bv {b : Bool} {P : Bool → Prop} (h : P b) : BV (.bl b) P := ⟨b, rfl, h⟩
theorem em_var {i : Nat} (h : σ[i]? = some (some v)) (k : Q v G) : EM U (tVar i) σ G Q := fun H j _ q => ⟨v, h, q v H G j k⟩
theorem em_here {i : Nat} (h : ∃ v, σ[i]? = some (some v) ∧ Q v G) : EM U (tVar i) σ G Q := fun H j _ q => h.elim fun v e => ⟨v, e.1, q v H G j e.2⟩
theorem em_c (k : Q v G) : EM U (tC v) σ G Q := fun H j _ q => q v H G j k
theorem em_op (h : EM U ta σ G fun x G1 => EM U tb σ G1 fun y G2 => RM U (r x y) G2 Q) : EM U (tOp r ta tb) σ G Q := fun H j QH q =>
  h H j _ fun x H1 G1 j1 h1 => h1 H1 j1 _ fun y H2 G2 j2 h2 => h2 H2 j2 QH q
theorem em_un {ru : V → Hp → VK → Prop} (h : EM U ta σ G fun x G1 => RM U (ru x) G1 Q) : EM U (tUn ru ta) σ G Q := fun H j QH q => h H j _ fun x H1 G1 j1 h1 => h1 H1 j1 QH q
theorem rm_I0 {g : Int → Int → V} {i j : Int} (k : Q (g i j) G) : RM U (rI0 g (.int i) (.int j)) G Q := fun H jj _ q => ⟨i, j, rfl, rfl, q _ H G jj k⟩
theorem rm_I {C : Int → Int → Prop} {g : Int → Int → V} {i j : Int} (c : C i j) (k : Q (g i j) G) : RM U (rI C g (.int i) (.int j)) G Q := fun H jj _ q => ⟨i, j, rfl, rfl, c, q _ H G jj k⟩
theorem rm_U {g : Int → V} {i : Int} (k : Q (g i) G) : RM U (rU g (.int i)) G Q := fun H jj _ q => ⟨i, rfl, q _ H G jj k⟩
theorem rm_eq (h : scal x y = true) (k : Q (.bl (decide (x = y))) G) : RM U (rEq x y) G Q := fun H j _ q => ⟨h, q _ H G j k⟩
theorem rm_ne (h : scal x y = true) (k : Q (.bl (!decide (x = y))) G) : RM U (rNe x y) G Q := fun H j _ q => ⟨h, q _ H G j k⟩
theorem rm_eqI {i j : Int} (k : Q (.bl (decide (i = j))) G) : RM U (rEq (.int i) (.int j)) G Q := rm_eq rfl (by
  have e : decide (V.int i = V.int j) = decide (i = j) := by simp
  rw [e]; exact k)
theorem rm_neI {i j : Int} (k : Q (.bl (!decide (i = j))) G) : RM U (rNe (.int i) (.int j)) G Q := rm_ne rfl (by
  have e : decide (V.int i = V.int j) = decide (i = j) := by simp
  rw [e]; exact k)
theorem rm_eqD {d e : PyData} (hd : Dp K G x d) (he : Dp K G y e) (sd : SeqAt.shaped d = true) (se : SeqAt.shaped e = true) (k : Q (.bl (PyData.eqv d e)) G) : RM U (rEqD K x y) G Q := fun H j _ q =>
  ⟨d, e, dp_mono j.up d x hd, dp_mono j.up e y he, sd, se, q _ H G j k⟩
theorem rm_neD {d e : PyData} (hd : Dp K G x d) (he : Dp K G y e) (sd : SeqAt.shaped d = true) (se : SeqAt.shaped e = true) (k : Q (.bl (!PyData.eqv d e)) G) : RM U (rNeD K x y) G Q := fun H j _ q =>
  ⟨d, e, dp_mono j.up d x hd, dp_mono j.up e y he, sd, se, q _ H G j k⟩
theorem rm_ixL {p : Addr} {xs : List V} {i : Int} (h : SqL K G p xs) (ha : atI xs i = some v) (k : Q v G) : RM U (rIxL K (.ref p) (.int i)) G Q := fun H j _ q => ⟨p, xs, i, v, rfl, rfl, ex_l j.up h, ha, q _ H G j k⟩
theorem rm_ixT {p : Addr} {xs : List V} {i : Int} (h : SqT K G p xs) (ha : atI xs i = some v) (k : Q v G) : RM U (rIxT K (.ref p) (.int i)) G Q := fun H j _ q => ⟨p, xs, i, v, rfl, rfl, ex_t j.up h, ha, q _ H G j k⟩
theorem rm_cat {l b : Addr} {xs zs : List V} (h1 : G l = some (.lst xs)) (h2 : G b = some (.lst zs)) (hs : xs.length + zs.length ≤ sizeLine) (k : ∀ p G', G p = none → Ex G G' → G' p = some (.lst (xs ++ zs)) → Q (.ref p) G') : RM U (rCat (.ref l) (.ref b)) G Q :=
  fun H j _ q => ⟨l, b, xs, zs, rfl, rfl, j.up _ _ h1, j.up _ _ h2, hs, fun p hp => q _ _ _ (j.alloc hp) (k p _ (j.free hp) (Ex.new (j.free hp)) upd_same)⟩
theorem rm_catT {a b : Addr} {xs ys : List V} (h1 : SqT K G a xs) (h2 : SqT K G b ys) (hx : xs ≠ []) (hs : xs.length + ys.length ≤ sizeLine) (k : ∀ p G', Ex G G' → SqT K G' p (xs ++ ys) → Q (.ref p) G') : RM U (rCatT K (.ref a) (.ref b)) G Q :=
  fun H j _ q => ⟨a, b, xs, ys, rfl, rfl, ex_t j.up h1, ex_t j.up h2, hx, hs, fun e => q _ _ _ j (k a G (Ex.refl G) (by rw [e, List.append_nil]; exact h1)), fun _ p hp => q _ _ _ (j.alloc hp) (k p _ (Ex.new (j.free hp)) (SqT.of upd_same))⟩
theorem em_orV (h : EM U ta σ G fun x G1 => BV x fun c => if c = true then Q (.bl true) G1 else EM U tb σ G1 Q) : EM U (tOrV ta tb) σ G Q := fun H j QH q => h H j _ fun x H1 G1 j1 ⟨c, e, h1⟩ => ⟨c, e, by
  cases c with
  | true => rw [if_pos rfl] at h1 ⊢; exact q _ _ _ j1 h1
  | false => rw [if_neg Bool.false_ne_true] at h1 ⊢; exact h1 H1 j1 QH q⟩
theorem em_andV (h : EM U ta σ G fun x G1 => BV x fun c => if c = true then EM U tb σ G1 Q else Q (.bl false) G1) : EM U (tAndV ta tb) σ G Q := fun H j QH q => h H j _ fun x H1 G1 j1 ⟨c, e, h1⟩ => ⟨c, e, by
  cases c with
  | true => rw [if_pos rfl] at h1 ⊢; exact h1 H1 j1 QH q
  | false => rw [if_neg Bool.false_ne_true] at h1 ⊢; exact q _ _ _ j1 h1⟩
theorem em_notV (h : EM U ta σ G fun x G1 => BV x fun c => Q (.bl (!c)) G1) : EM U (tNotV ta) σ G Q := fun H j QH q => h H j _ fun x H1 G1 j1 ⟨c, e, h1⟩ => ⟨c, e, q _ _ _ j1 h1⟩
theorem em_if (h : TM U t σ G fun c G1 => if c = true then EM U ta σ G1 Q else EM U tb σ G1 Q) : EM U (tIf t ta tb) σ G Q := fun H j QH q => h H j _ fun c H1 G1 j1 h1 => by
  cases c with
  | true => rw [if_pos rfl] at h1 ⊢; exact h1 H1 j1 QH q
  | false => rw [if_neg Bool.false_ne_true] at h1 ⊢; exact h1 H1 j1 QH q
theorem em_chain {r' : R2} (h : EM U ta σ G fun x G1 => EM U tb σ G1 fun y G2 => RM U (r x y) G2 fun z G3 => BV z fun k => if k = true then EM U tc σ G3 fun w G4 => RM U (r' y w) G4 Q else Q (.bl false) G3) : EM U (tChain r r' ta tb tc) σ G Q := fun H j QH q =>
  h H j _ fun x H1 G1 j1 h1 => h1 H1 j1 _ fun y H2 G2 j2 h2 => h2 H2 j2 _ fun z H3 G3 j3 ⟨k, e, h3⟩ => ⟨k, e, by
    cases k with
    | true => rw [if_pos rfl] at h3 ⊢; exact h3 H3 j3 _ fun w H4 G4 j4 h4 => h4 H4 j4 QH q
    | false => rw [if_neg Bool.false_ne_true] at h3 ⊢; exact q _ _ _ j3 h3⟩
theorem em_lst {tas : TA} (h : AM U tas σ G fun vs G1 => vs.length ≤ sizeLine ∧ ∀ p G2, G1 p = none → Ex G1 G2 → G2 p = some (.lst vs) → Q (.ref p) G2) : EM U (tLst tas) σ G Q := fun H j QH q =>
  h H j _ fun vs H1 G1 j1 ⟨hz, h1⟩ => ⟨hz, fun p hp => q _ _ _ (j1.alloc hp) (h1 p _ (j1.free hp) (Ex.new (j1.free hp)) upd_same)⟩
theorem em_tup {tas : TA} (h : AM U tas σ G fun vs G1 => vs.length ≤ sizeLine ∧ ∀ p G2, G1 p = none → Ex G1 G2 → G2 p = some (.tup vs) → Q (.ref p) G2) : EM U (tTup tas) σ G Q := fun H j QH q =>
  h H j _ fun vs H1 G1 j1 ⟨hz, h1⟩ => ⟨hz, fun p hp => q _ _ _ (j1.alloc hp) (h1 p _ (j1.free hp) (Ex.new (j1.free hp)) upd_same)⟩
theorem am_nil {QA : List V → Hp → Prop} (k : QA [] G) : AM U tNil σ G QA := fun H j _ q => q _ H G j k
theorem am_cons {tr : TA} {QA : List V → Hp → Prop} (h : EM U ta σ G fun x G1 => AM U tr σ G1 fun vs G2 => QA (x :: vs) G2) : AM U (tCons ta tr) σ G QA := fun H j QH q =>
  h H j _ fun x H1 G1 j1 h1 => h1 H1 j1 _ fun vs H2 G2 j2 h2 => q _ _ _ j2 h2
theorem am_star {tr : TA} {QA : List V → Hp → Prop} (h : EM U ta σ G fun x G1 => ∃ p xs, x = V.ref p ∧ (SqT K G1 p xs ∨ SqL K G1 p xs) ∧ AM U tr σ G1 fun vs G2 => QA (xs ++ vs) G2) : AM U (tStar K ta tr) σ G QA := fun H j QH q =>
  h H j _ fun x H1 G1 j1 ⟨p, xs, e, s, h1⟩ => ⟨p, xs, e, s.elim (fun s => .inl (ex_t j1.up s)) (fun s => .inr (ex_l j1.up s)), h1 H1 j1 _ fun vs H2 G2 j2 h2 => q _ _ _ j2 h2⟩
theorem em_cb {rc : List V → Hp → VK → Prop} {tas : TA} (h : AM U tas σ G fun vs G1 => RM U (rc vs) G1 Q) : EM U (tCB rc tas) σ G Q := fun H j QH q => h H j _ fun vs H1 G1 j1 h1 => h1 H1 j1 QH q
def IV (x : V) (P : Int → Prop) : Prop := ∃ i : Int, x = .int i ∧ P i
theorem iv {i : Int} {P : Int → Prop} (h : P i) : IV (.int i) P := ⟨i, rfl, h⟩
theorem em_bits (h : EM U ta σ G fun x G1 => IV x fun i => Q (.int (Builtin.Int.intBits i : Nat)) G1) : EM U (tBits ta) σ G Q := fun H j QH q => h H j _ fun x H1 G1 j1 ⟨i, e, h1⟩ => ⟨i, e, q _ _ _ j1 h1⟩
theorem em_call {sp : Sp} {E : XK} {tas : TA} (h : AM U tas σ G fun vs G1 => CM U sp vs G1 Q) : EM U (tCall sp [] E tas) σ G Q := fun H j QH q => h H j _ fun vs H1 G1 j1 h1 => by
  show sp (vs ++ []) H1 QH E
  rw [List.append_nil]
  exact h1 H1 j1 QH q E
/-- a method of the instance at a -/
theorem em_meth {C a dx : Addr} {fs : List (PySem.Str × V)} {m : PySem.Str} {sp : Sp} {E : XK} {tas : TA} (h : EM U ta σ G fun x G1 => x = .ref a ∧ G1 a = some (.ins C dx fs) ∧ fs.lookup m = none ∧ AM U tas σ G1 fun vs G2 => CM U sp (x :: vs) G2 Q) : EM U (tMeth C m sp [] E ta tas) σ G Q := fun H j QH q =>
  h H j _ fun x H1 G1 j1 ⟨e, g, l, h1⟩ => ⟨a, dx, fs, e, j1.up _ _ g, l, h1 H1 j1 _ fun vs H2 G2 j2 h2 => by
    show sp (x :: (vs ++ [])) H2 QH E
    rw [List.append_nil]
    exact h2 H2 j2 QH q E⟩
theorem em_fld {C a dx : Addr} {fs : List (PySem.Str × V)} {f : PySem.Str} (h : EM U ta σ G fun x G1 => x = .ref a ∧ G1 a = some (.ins C dx fs) ∧ Cls K C ∧ NoAttr K C f ∧ fs.lookup f = some v ∧ Q v G1) : EM U (tFld K ta f) σ G Q := fun H j QH q =>
  h H j _ fun x H1 G1 j1 ⟨e, g, c, n, l, h1⟩ => ⟨a, C, dx, fs, v, e, j1.up _ _ g, c, n, l, q _ _ _ j1 h1⟩
/-! ### promises that keep what stood -/
def spP (pre : List V → Hp → Prop) (post : List V → Hp → V → Hp → Prop) : Sp := fun vs H Q _ => ∃ G, Ex G H ∧ pre vs G ∧ ∀ v H' G', Ex H H' → Ex G G' → Ex G' H' → (∀ a, G' a ≠ none → G a = none → H a = none) → post vs G v G' → Q v H'
theorem cm_p {pre : List V → Hp → Prop} {post : List V → Hp → V → Hp → Prop} {vs : List V} (h : pre vs G) (k : ∀ v G', Ex G G' → post vs G v G' → Q v G') : CM U (spP pre post) vs G Q := fun H j QH q E =>
  ⟨G, j.up, h, fun v H' G' e1 e2 e3 n p => q v H' G' (j.call e1 e3 n) (k v G' e2 p)⟩
/-- at a def's end -/
theorem kv_ret {p : V → Hp → Prop} {H0 G0 : Hp} (k : ∀ v H' G', Ex H0 H' → Ex G0 G' → Ex G' H' → (∀ a, G' a ≠ none → G0 a = none → H0 a = none) → p v G' → Q v H') (e : Ex G0 G) (h : p v G) : KV (V0 H0 G0) Q v G :=
  fun H j => k v H G j.keep e j.up j.new h
/-! ### tests -/
theorem tm_test (h : EM U te σ G fun x G1 => BV x fun k => QT k G1) : TM U (tTest te) σ G QT := fun H j QH q => h H j _ fun x H1 G1 j1 ⟨k, e, h1⟩ => ⟨k, e, q _ _ _ j1 h1⟩
theorem tm_B (h : EM U te σ G fun x G1 => BV x fun k => QT k G1) : TM U (tB te) σ G QT := fun H j QH q => h H j _ fun x H1 G1 j1 ⟨k, e, h1⟩ => ⟨k, e, q _ _ _ j1 h1⟩
theorem tm_and (h : TM U t σ G fun c G1 => if c = true then TM U u σ G1 QT else QT false G1) : TM U (tAnd t u) σ G QT := fun H j QH q => h H j _ fun c H1 G1 j1 h1 => by
  cases c with
  | true => rw [if_pos rfl] at h1 ⊢; exact h1 H1 j1 QH q
  | false => rw [if_neg Bool.false_ne_true] at h1 ⊢; exact q _ _ _ j1 h1
theorem tm_or (h : TM U t σ G fun c G1 => if c = true then QT true G1 else TM U u σ G1 QT) : TM U (tOr t u) σ G QT := fun H j QH q => h H j _ fun c H1 G1 j1 h1 => by
  cases c with
  | true => rw [if_pos rfl] at h1 ⊢; exact q _ _ _ j1 h1
  | false => rw [if_neg Bool.false_ne_true] at h1 ⊢; exact h1 H1 j1 QH q
theorem tm_not (h : TM U t σ G fun c G1 => QT (!c) G1) : TM U (tNot t) σ G QT := fun H j QH q => h H j _ fun c H1 G1 j1 h1 => q _ _ _ j1 h1
theorem tm_yes (k : QT true G) : TM U tYes σ G QT := fun H j QH q => q _ _ _ j k
/-! ### statements -/
variable {D : Ends} {t1 t2 ts : TS} {g : TG}
theorem gm_name {i : Nat} {QG : L2.St → Hp → Prop} (k : QG (σ.set i (some v)) G) : GM U (gName i) v σ G QG := fun H j QH q => q _ _ _ j k
theorem sm_seq (h : SM U t1 ⟨t2 D, D.rt, D.bk, D.ct⟩ σ G) : SM U (tSeq t1 t2) D σ G := h
theorem km_next (h : SM U ts D σ G) {r : VK} {b c : L2.St → Hp → Prop} : KM U (Ends.nx ⟨ts D, r, b, c⟩) σ G := h
theorem kv_rt {rt : VK} (h : KV U rt v G) {n b c : L2.St → Hp → Prop} : KV U (Ends.rt ⟨n, rt, b, c⟩) v G := h
theorem sm_next (h : KM U D.nx σ G) : SM U tNext D σ G := h
theorem sm_brk (h : KM U D.bk σ G) : SM U tBreak D σ G := h
theorem sm_cont (h : KM U D.ct σ G) : SM U tCont D σ G := h
theorem sm_asg (h : EM U te σ G fun v G1 => GM U g v σ G1 fun σ' G2 => KM U D.nx σ' G2) : SM U (tAsg te g) D σ G := fun H j => h H j _ fun v H1 G1 j1 h1 => h1 H1 j1 _ fun σ' H2 G2 j2 h2 => h2 H2 j2
theorem sm_drop (h : EM U te σ G fun _ G1 => KM U D.nx σ G1) : SM U (tDrop te) D σ G := fun H j => h H j _ fun v H1 G1 j1 h1 => h1 H1 j1
theorem sm_ret (h : EM U te σ G fun v G1 => KV U D.rt v G1) : SM U (tRet te) D σ G := fun H j => h H j _ fun v H1 G1 j1 h1 => h1 H1 j1
theorem sm_retN (h : KV U D.rt .non G) : SM U tRetN D σ G := fun H j => h H j
theorem sm_if (h : TM U t σ G fun c G1 => if c = true then SM U t1 D σ G1 else SM U t2 D σ G1) : SM U (tIfS t t1 t2) D σ G := fun H j => h H j _ fun c H1 G1 j1 h1 => by
  cases c with
  | true => rw [if_pos rfl] at h1 ⊢; exact h1 H1 j1
  | false => rw [if_neg Bool.false_ne_true] at h1 ⊢; exact h1 H1 j1
/-- xs.append(e) of a visible list of its own -/
theorem em_append {l : Addr} {xs : List V} (h : EM U ta σ G fun x G1 => x = .ref l ∧ G1 l = some (.lst xs) ∧ EM U te σ G1 fun y G2 => G2 l = some (.lst xs) ∧ U.Ge l = none ∧ xs.length < sizeLine ∧ Q .non (upd G2 l (.lst (xs ++ [y])))) : EM U (tBM K "list" rAppend ta (tCons te tNil)) σ G Q := fun H j QH q =>
  h H j _ fun x H1 G1 j1 ⟨e, g1, h1⟩ => by
    subst e
    exact ⟨.inl ⟨rfl, xs, SqL.of (j1.up _ _ g1)⟩, h1 H1 j1 _ fun y H2 G2 j2 ⟨g2, ge, hz, h2⟩ => ⟨l, xs, y, rfl, rfl, j2.up _ _ g2, hz, q _ _ _ (j2.write g2 ge) h2⟩⟩
/-! ### loops -/
def KJ (U : Vx) (P : L2.St → Hp → Prop) : L2.St → Hp → Prop := fun σ H => ∃ G, J U H G ∧ P σ G
theorem km_kj {P : L2.St → Hp → Prop} (h : P σ G) {r : VK} {b c : L2.St → Hp → Prop} : KM U (Ends.nx ⟨KJ U P, r, b, c⟩) σ G := fun _ j => ⟨G, j, h⟩
theorem km_kc {P : L2.St → Hp → Prop} (h : P σ G) {r : VK} {b n : L2.St → Hp → Prop} : KM U (Ends.ct ⟨n, r, b, KJ U P⟩) σ G := fun _ j => ⟨G, j, h⟩
theorem km_bk {P : L2.St → Hp → Prop} (h : KM U P σ G) {r : VK} {c n : L2.St → Hp → Prop} : KM U (Ends.bk ⟨n, r, P, c⟩) σ G := h
theorem sm_forL {tl : TE} (h : EM U tl σ G fun v G1 => ∃ a xs, v = .ref a ∧ SqL K G1 a xs ∧ ∃ P : Nat → L2.St → Hp → Prop, P 0 σ G1 ∧ (∀ i σ' G', i ≤ xs.length → P i σ' G' → SqL K G' a xs) ∧
    (∀ i x σ' G', xs[i]? = some x → P i σ' G' → GM U g x σ' G' fun σ2 G2 => SM U ts ⟨KJ U (P (i + 1)), D.rt, D.nx, KJ U (P (i + 1))⟩ σ2 G2) ∧ (∀ σ' G', P xs.length σ' G' → KM U D.nx σ' G')) : SM U (tFor (iList K tl) g ts) D σ G := fun H j =>
  h H j _ fun v H1 G1 j1 ⟨a, xs, e, hx, P, h0, hl, hs, hd⟩ => ⟨a, e, ⟨xs, ex_l j1.up hx⟩, for_list (fun i => KJ U (P i)) ⟨G1, j1, h0⟩ (fun i σ' H' hi ⟨G', j', p⟩ => ex_l j'.up (hl i σ' G' hi p))
    (fun i x σ' H' hi ⟨G', j', p⟩ => hs i x σ' G' hi p H' j' _ fun σ2 H2 G2 j2 h2 => h2 H2 j2) (fun σ' H' ⟨G', j', p⟩ => hd σ' G' p H' j')⟩
theorem sm_forT {tl : TE} (h : EM U tl σ G fun v G1 => ∃ a xs, v = .ref a ∧ SqT K G1 a xs ∧ ∃ P : Nat → L2.St → Hp → Prop, P 0 σ G1 ∧ (∀ i σ' G', i ≤ xs.length → P i σ' G' → SqT K G' a xs) ∧
    (∀ i x σ' G', xs[i]? = some x → P i σ' G' → GM U g x σ' G' fun σ2 G2 => SM U ts ⟨KJ U (P (i + 1)), D.rt, D.nx, KJ U (P (i + 1))⟩ σ2 G2) ∧ (∀ σ' G', P xs.length σ' G' → KM U D.nx σ' G')) : SM U (tFor (iTup K tl) g ts) D σ G := fun H j =>
  h H j _ fun v H1 G1 j1 ⟨a, xs, e, hx, P, h0, hl, hs, hd⟩ => ⟨a, e, ⟨xs, ex_t j1.up hx⟩, for_tup (fun i => KJ U (P i)) ⟨G1, j1, h0⟩ (fun i σ' H' hi ⟨G', j', p⟩ => ex_t j'.up (hl i σ' G' hi p))
    (fun i x σ' H' hi ⟨G', j', p⟩ => hs i x σ' G' hi p H' j' _ fun σ2 H2 G2 j2 h2 => h2 H2 j2) (fun σ' H' ⟨G', j', p⟩ => hd σ' G' p H' j')⟩
theorem sm_forR1 {ta : TA} {i0 : Nat} (h : AM U ta σ G fun vs G1 => ∃ n : Int, vs = [.int n] ∧ -(2 ^ 62) ≤ n ∧ n < 2 ^ 62 ∧ ∃ P : Nat → L2.St → Hp → Prop, P 0 σ G1 ∧
    (∀ (i : Nat) σ' G', (i : Int) < n → P i σ' G' → SM U ts ⟨KJ U (P (i + 1)), D.rt, D.nx, KJ U (P (i + 1))⟩ (σ'.set i0 (some (.int (i : Int)))) G') ∧ (∀ σ' G', P n.toNat σ' G' → KM U D.nx σ' G')) : SM U (tFor (iRng1 ta) (gName i0) ts) D σ G := fun H j =>
  h H j _ fun vs H1 G1 j1 ⟨n, e, b1, b2, P, h0, hs, hd⟩ => ⟨n, e, b1, b2, for_range (lo := 0) (n := n.toNat) (fun i => KJ U (P i)) ⟨G1, j1, h0⟩
    (fun i σ' H' hi ⟨G', j', p⟩ => by
      have e0 : (0 : Int) + (i : Int) = (i : Int) := Int.zero_add _
      show ts ⟨KJ U (P (i + 1)), D.rt, D.nx, KJ U (P (i + 1))⟩ (σ'.set i0 (some (.int ((0 : Int) + (i : Int))))) H'
      rw [e0]
      exact hs i σ' G' (by omega) p H' j') (fun σ' H' ⟨G', j', p⟩ => hd σ' G' p H' j')⟩
theorem sm_forR2 {ta : TA} {i0 : Nat} (h : AM U ta σ G fun vs G1 => ∃ lo n : Int, vs = [.int lo, .int n] ∧ (-(2 ^ 62) ≤ lo ∧ lo < 2 ^ 62 ∧ -(2 ^ 62) ≤ n ∧ n < 2 ^ 62) ∧ ∃ P : Nat → L2.St → Hp → Prop, P 0 σ G1 ∧
    (∀ (i : Nat) σ' G', lo + (i : Int) < n → P i σ' G' → SM U ts ⟨KJ U (P (i + 1)), D.rt, D.nx, KJ U (P (i + 1))⟩ (σ'.set i0 (some (.int (lo + (i : Int))))) G') ∧ (∀ σ' G', P (n - lo).toNat σ' G' → KM U D.nx σ' G')) : SM U (tFor (iRng2 ta) (gName i0) ts) D σ G := fun H j =>
  h H j _ fun vs H1 G1 j1 ⟨lo, n, e, b, P, h0, hs, hd⟩ => ⟨lo, n, e, b, for_range (lo := lo) (n := (n - lo).toNat) (fun i => KJ U (P i)) ⟨G1, j1, h0⟩
    (fun i σ' H' hi ⟨G', j', p⟩ => hs i σ' G' (by omega) p H' j') (fun σ' H' ⟨G', j', p⟩ => hd σ' G' p H' j')⟩
theorem sm_while (W : Nat → L2.St → Hp → Prop) (m0 : Nat) (h0 : W m0 σ G)
    (hs : ∀ m σ' G', W m σ' G' → TM U t σ' G' fun b G1 => if b = true then SM U ts ⟨KJ U (fun σ2 G2 => ∃ m', m' < m ∧ W m' σ2 G2), D.rt, D.nx, KJ U (fun σ2 G2 => ∃ m', m' < m ∧ W m' σ2 G2)⟩ σ' G1 else KM U D.nx σ' G1) : SM U (tWhile t ts) D σ G := fun H j =>
  ⟨fun m => KJ U (W m), ⟨m0, G, j, h0⟩, fun m σ' H' ⟨G', j', w⟩ => hs m σ' G' w H' j' _ fun b H1 G1 j1 h1 => by
    cases b with
    | true =>
      rw [if_pos rfl] at h1 ⊢
      exact ⟨KJ U (fun σ2 G2 => ∃ m', m' < m ∧ W m' σ2 G2), fun σ2 H2 ⟨G2, j2, m', hm, w'⟩ => ⟨m', hm, G2, j2, w'⟩, h1 H1 j1⟩
    | false => rw [if_neg Bool.false_ne_true] at h1 ⊢; exact h1 H1 j1⟩
/-! ### comprehensions -/
theorem em_lcR1 {ta : TA} {i0 : Nat} {vs : List Nat} (h : AM U ta σ G fun ws G1 => ∃ n : Int, ws = [.int n] ∧ 0 ≤ n ∧ n ≤ 16000000 ∧ (∀ x, wipe ((wipe σ vs).set i0 (some x)) vs = wipe σ vs) ∧ ∃ P : Nat → List V → Hp → Prop, P 0 [] G1 ∧ (∀ i acc G', P i acc G' → acc.length ≤ i) ∧
    (∀ (i : Nat) acc G' (D : Addr) (U' : Vx), U' = U.hide D (.lst acc) → ¬ U.m D → (i : Int) < n → P i acc G' → TM U' tt ((wipe σ vs).set i0 (some (.int (i : Int)))) G' fun b G2 => if b = true then EM U' te ((wipe σ vs).set i0 (some (.int (i : Int)))) G2 fun y G3 => P (i + 1) (acc ++ [y]) G3 else P (i + 1) acc G2) ∧
    (∀ acc D G' G'', P n.toNat acc G' → Ex G' G'' → G' D = none → G'' D = some (.lst acc) → Q (.ref D) G'')) : EM U (tLc (iRng1 ta) (gName i0) tt te vs) σ G Q := fun H j QH q =>
  h H j _ fun ws H1 G1 j1 ⟨n, e, b1, b2, hw, P, h0, hz, hs, hd⟩ => ⟨n, e, by omega, by omega, fun D hD => by
    have nm : ¬ U.m D := fun z => (j1.msk D z).2 hD
    have nh : U.He D = none := none_of_ex j1.keep hD
    refine lc_range (lo := 0) (n := n.toNat) (fun i H' => ∃ acc G', J (U.hide D (.lst acc)) H' G' ∧ P i acc G') ⟨[], G1, ?_, h0⟩ (fun i H' hi ⟨acc, G', j', p⟩ => ?_) (fun H' ⟨acc, G', j', p⟩ => ?_)
    · have ja := j1.alloc (o := .lst []) hD
      refine ⟨fun a u e => ?_, ja.keep, j1.new, ⟨ja.hid, upd_same⟩, fun a ma => ?_⟩
      · rw [upd_ne (fun z => by subst z; rw [j1.free hD] at e; cases e)]; exact j1.up a u e
      · rcases ma with ma | rfl
        · obtain ⟨q1, q2⟩ := j1.msk a ma
          refine ⟨q1, ?_⟩
          rw [upd_ne (fun z => by subst z; exact q2 hD)]; exact q2
        · exact ⟨j1.free hD, by rw [upd_same]; exact fun q => by cases q⟩
    · have e0 : (0 : Int) + (i : Int) = (i : Int) := Int.zero_add _
      show wipe ((wipe σ vs).set i0 (some (.int ((0 : Int) + (i : Int))))) vs = wipe σ vs ∧ tt ((wipe σ vs).set i0 (some (.int ((0 : Int) + (i : Int))))) H' fun b H3 => if b = true then te ((wipe σ vs).set i0 (some (.int ((0 : Int) + (i : Int))))) H3 fun y H4 => ∃ acc, H4 D = some (.lst acc) ∧ acc.length < sizeLine ∧ ∃ acc' G', J (U.hide D (.lst acc')) (upd H4 D (.lst (acc ++ [y]))) G' ∧ P (i + 1) acc' G' else ∃ acc' G', J (U.hide D (.lst acc')) H3 G' ∧ P (i + 1) acc' G'
      rw [e0]
      refine ⟨hw _, hs i acc G' D _ rfl nm (by omega) p H' j' _ fun b H3 G3 j3 h3 => ?_⟩
      cases b with
      | true =>
        rw [if_pos rfl] at h3 ⊢
        refine h3 H3 j3 _ fun y H4 G4 j4 h4 => ⟨acc, j4.hid.2, ?_, acc ++ [y], G4, j4.rehide nm nh, h4⟩
        have := hz i acc G' p
        exact Nat.lt_of_le_of_lt this (Nat.lt_of_lt_of_le (show i < 16000000 by omega) (by decide))
      | false =>
        rw [if_neg Bool.false_ne_true] at h3 ⊢
        exact ⟨acc, G3, j3, h3⟩
    · have gd : G' D = none := (j'.msk D (.inr rfl)).1
      exact q _ _ _ (j'.unhide nm nh) (hd acc D G' _ p (Ex.new gd) gd upd_same)⟩
end
/-! ### built-ins by named readings -/
section
variable {X : Cx}
def rLenQ (K : PySem.W.Frag) : List V → Hp → VK → Prop := fun xs H Q => ∃ p ys, xs = [.ref p] ∧ (SqL K H p ys ∨ SqT K H p ys) ∧ Q (.int ys.length) H
def rIntQ : List V → Hp → VK → Prop := fun xs H Q => (∃ i, xs = [.int i] ∧ Q (.int i) H) ∨ ∃ k, xs = [.bl k] ∧ Q (.int (if k then 1 else 0)) H
def rMaxQ : List V → Hp → VK → Prop := fun xs H Q => ∃ i j, xs = [.int i, .int j] ∧ Q (.int (if j > i then j else i)) H
def rMinQ : List V → Hp → VK → Prop := fun xs H Q => ∃ i j, xs = [.int i, .int j] ∧ Q (.int (if j < i then j else i)) H
def rListQ (K : PySem.W.Frag) : List V → Hp → VK → Prop := fun xs H Q => ∃ p ys, xs = [.ref p] ∧ (SqL K H p ys ∨ SqT K H p ys) ∧ ∀ l, H l = none → Q (.ref l) (upd H l (.lst ys))
def rTupQ (K : PySem.W.Frag) : List V → Hp → VK → Prop := fun xs H Q => ∃ p ys, xs = [.ref p] ∧ ((SqL K H p ys ∧ ∀ l, H l = none → Q (.ref l) (upd H l (.tup ys))) ∨ (SqT K H p ys ∧ Q (.ref p) H))
theorem cq_len : CallR X (.builtin "len") (rLenQ X.K) := call_len_seq
theorem cq_int : CallR X (.type "int") rIntQ := call_int1
theorem cq_max (hc : X.calm = true := by rfl) : CallR X (.builtin "max") rMaxQ := call_max2 hc
theorem cq_min (hc : X.calm = true := by rfl) : CallR X (.builtin "min") rMinQ := call_min2 hc
theorem cq_list : CallR X (.type "list") (rListQ X.K) := call_list_of
theorem cq_tuple : CallR X (.type "tuple") (rTupQ X.K) := call_tuple_of
end
section
variable {U : Vx} {σ : L2.St} {G : Hp} {Q : VK} {K : PySem.W.Frag}
theorem rm_lenL {p : Addr} {ys : List V} (h : SqL K G p ys) (k : Q (.int ys.length) G) : RM U (rLenQ K [.ref p]) G Q := fun H j _ q => ⟨p, ys, rfl, .inl (ex_l j.up h), q _ H G j k⟩
theorem rm_lenT {p : Addr} {ys : List V} (h : SqT K G p ys) (k : Q (.int ys.length) G) : RM U (rLenQ K [.ref p]) G Q := fun H j _ q => ⟨p, ys, rfl, .inr (ex_t j.up h), q _ H G j k⟩
theorem rm_int {i : Int} (k : Q (.int i) G) : RM U (rIntQ [.int i]) G Q := fun H j _ q => .inl ⟨i, rfl, q _ H G j k⟩
theorem rm_max {i l : Int} (k : Q (.int (if l > i then l else i)) G) : RM U (rMaxQ [.int i, .int l]) G Q := fun H j _ q => ⟨i, l, rfl, q _ H G j k⟩
theorem rm_min {i l : Int} (k : Q (.int (if l < i then l else i)) G) : RM U (rMinQ [.int i, .int l]) G Q := fun H j _ q => ⟨i, l, rfl, q _ H G j k⟩
theorem rm_list {p : Addr} {ys : List V} (h : SqL K G p ys ∨ SqT K G p ys) (k : ∀ l G', G l = none → Ex G G' → G' l = some (.lst ys) → Q (.ref l) G') : RM U (rListQ K [.ref p]) G Q := fun H j _ q => ⟨p, ys, rfl, h.elim (fun h => .inl (ex_l j.up h)) (fun h => .inr (ex_t j.up h)), fun l hl => q _ _ _ (j.alloc hl) (k l _ (j.free hl) (Ex.new (j.free hl)) upd_same)⟩
theorem rm_tupL {p : Addr} {ys : List V} (h : SqL K G p ys) (k : ∀ l G', G l = none → Ex G G' → G' l = some (.tup ys) → Q (.ref l) G') : RM U (rTupQ K [.ref p]) G Q := fun H j _ q => ⟨p, ys, rfl, .inl ⟨ex_l j.up h, fun l hl => q _ _ _ (j.alloc hl) (k l _ (j.free hl) (Ex.new (j.free hl)) upd_same)⟩⟩
theorem rm_tupT {p : Addr} {ys : List V} (h : SqT K G p ys) (k : Q (.ref p) G) : RM U (rTupQ K [.ref p]) G Q := fun H j _ q => ⟨p, ys, rfl, .inr ⟨ex_t j.up h, q _ _ _ j k⟩⟩
theorem rm_sum {a : Addr} {ns : List Int} (h : SqL K G a (ns.map V.int)) (k : Q (.int ns.sum) G) : RM U (rSum K [.ref a]) G Q := fun H j _ q => ⟨a, ns, rfl, ex_l j.up h, q _ H G j k⟩
theorem rm_all {a : Addr} {bs : List Bool} (h : SqL K G a (bs.map V.bl)) (k : Q (.bl (bs.all id)) G) : RM U (rAll K [.ref a]) G Q := fun H j _ q => ⟨a, bs, rfl, ex_l j.up h, q _ H G j k⟩
theorem rm_any {a : Addr} {bs : List Bool} (h : SqL K G a (bs.map V.bl)) (k : Q (.bl (bs.any id)) G) : RM U (rAny K [.ref a]) G Q := fun H j _ q => ⟨a, bs, rfl, ex_l j.up h, q _ H G j k⟩
theorem rm_isB {a b : Bool} (k : Q (.bl (decide (a = b))) G) : RM U (rIsB (.bl a) (.bl b)) G Q := fun H j _ q => ⟨a, b, rfl, rfl, q _ H G j k⟩
theorem rm_notB {a b : Bool} (k : Q (.bl (!decide (a = b))) G) : RM U (rNotB (.bl a) (.bl b)) G Q := fun H j _ q => ⟨a, b, rfl, rfl, q _ H G j k⟩
/-- isinstance(n, int), isinstance(n, bool) of an int -/
theorem rm_isiI {i : Int} (k : Q (.bl true) G) : RM U (rIsi K [.int i, .ty "int"]) G Q := fun H j _ q => ⟨.int i, .ty "int", .type "int", .type "int", true, rfl, .ty "int", .base (by constructor), kit_ty (by decide +kernel), q _ H G j k⟩
theorem rm_isiB {i : Int} (k : Q (.bl false) G) : RM U (rIsi K [.int i, .ty "bool"]) G Q := fun H j _ q => ⟨.int i, .ty "bool", .type "int", .type "bool", false, rfl, .ty "bool", .base (by constructor), kit_ty (by decide +kernel), q _ H G j k⟩
end
/-! ### defs and methods of the text -/
structure Def (K : PySem.W.Frag) (mg : Str → Option Value) (x qual : Str) (st : Stmt) (ps : List Str) (f : Addr) (fd : FuncData) : Prop where
  F : FunD K x qual (defArgs st) (defBody st) (defScope st) [] [] f fd
  g : mg x = some (.ref f)
  b : Binds K fd ps []
structure MDef (K : PySem.W.Frag) (mg : Str → Option Value) (x qual : Str) (st : Stmt) (ps : List Str) (f : Addr) (fd : FuncData) : Prop where
  F : FunD K x qual (defArgs st) (defBody st) (defScope st) [] [] f fd
  b : Binds K fd ps []
/-! ### the law's draws: a list of two ints that is hidden -/
def wo (st : Addr) (G : Hp) : Hp := fun a => if a = st then none else G a
theorem wo_same {st : Addr} {G : Hp} : wo st G st = none := by unfold wo; rw [if_pos rfl]
theorem wo_ne {st a : Addr} {G : Hp} (h : a ≠ st) : wo st G a = G a := by unfold wo; rw [if_neg h]
def spDraw (K : PySem.W.Frag) : Sp := fun vs H Q _ => ∃ (st sc : Addr) (ns : List Int) (a b sz : Int), vs = [.ref st, .ref sc, .int sz] ∧ H st = some (.lst [.int a, .int b]) ∧ 0 ≤ a ∧ 0 ≤ b ∧ SqL K (wo st H) sc (ns.map V.int) ∧ 0 < sz ∧ sz.natAbs.log2 < 9000 ∧
  ∀ (d a' b' : Int) (H' : Hp), 0 ≤ d → d < sz → 0 ≤ a' → 0 ≤ b' → (∀ x o, x ≠ st → H x = some o → H' x = some o) → H' st = some (.lst [.int a', .int b']) → Q (.int d) H'
def StAt (H : Hp) (st : Addr) : Prop := ∃ a b : Int, H st = some (.lst [.int a, .int b]) ∧ 0 ≤ a ∧ 0 ≤ b
structure DrawOk (U : Vx) (st : Addr) : Prop where
  m : U.m st
  ne : U.He st = none
  at_ : ∀ H, U.I H → StAt H st
  to : ∀ H H', U.I H → (∀ x, U.m x → x ≠ st → H' x = H x) → StAt H' st → U.I H'
theorem DrawOk.hide {U : Vx} {st D : Addr} {o : HO} (d : DrawOk U st) (h : ¬ U.m D) : DrawOk (U.hide D o) st where
  m := .inl d.m
  ne := d.ne
  at_ := fun H i => d.at_ H i.1
  to := fun H H' i e s => ⟨d.to H H' i.1 (fun x mx nx => e x (.inl mx) nx) s, by
    rw [e D (.inr rfl) (fun z => by subst z; exact h d.m)]; exact i.2⟩
section
variable {U : Vx} {σ : L2.St} {G : Hp} {Q : VK} {K : PySem.W.Frag}
theorem cm_draw {st sc : Addr} {ns : List Int} {sz : Int} (d : DrawOk U st) (h : SqL K G sc (ns.map V.int)) (h0 : 0 < sz) (hz : sz.natAbs.log2 < 9000) (k : ∀ n : Int, 0 ≤ n → n < sz → Q (.int n) G) : CM U (spDraw K) [.ref st, .ref sc, .int sz] G Q := fun H j QH q E => by
  obtain ⟨a, b, e, ha, hb⟩ := d.at_ H j.hid
  refine ⟨st, sc, ns, a, b, sz, rfl, e, ha, hb, ex_l (H := G) (fun x o ex => by
    have nx : x ≠ st := fun z => by subst z; rw [(j.msk x d.m).1] at ex; cases ex
    rw [wo_ne nx]; exact j.up x o ex) h, h0, hz, fun n a' b' H' n0 n1 ha' hb' hx he => q _ H' G ?_ (k n n0 n1)⟩
  have gs := (j.msk st d.m).1
  exact {
    up := fun x o ex => hx x o (fun z => by subst z; rw [gs] at ex; cases ex) (j.up x o ex)
    keep := fun x o ex => hx x o (fun z => by subst z; rw [d.ne] at ex; cases ex) (j.keep x o ex)
    new := j.new
    hid := d.to H H' j.hid (fun x mx nx => by
      cases z : H x with
      | none => exact absurd z (j.msk x mx).2
      | some o => exact hx x o nx z) ⟨a', b', he, ha', hb'⟩
    msk := fun x mx => ⟨(j.msk x mx).1, by
      by_cases nx : x = st
      · subst nx; rw [he]; exact fun q => by cases q
      · cases z : H x with
        | none => exact absurd z (j.msk x mx).2
        | some o => rw [hx x o nx z]; exact fun q => by cases q⟩ }
end
/-- the law's own view: its script shown, the draws' list hidden -/
def V1 (H G : Hp) (st : Addr) : Vx := ⟨H, G, fun H' => StAt H' st, fun a => a = st, fun H1 H2 ⟨a, b, e, h⟩ k => ⟨a, b, by rw [k st rfl]; exact e, h⟩⟩
theorem V1.draw {H G : Hp} {st : Addr} (h : H st = none) : DrawOk (V1 H G st) st := ⟨rfl, h, fun _ i => i, fun _ _ _ _ s => s⟩
theorem J.draws {H0 G0 H G : Hp} {st : Addr} (j : J (V0 H0 G0) H G) (h : H st = some (.lst [.int 0, .int 0])) : J (V1 H0 G0 st) H (wo st G) where
  up := fun a o e => by
    by_cases z : a = st
    · rw [z, wo_same] at e; cases e
    · rw [wo_ne z] at e; exact j.up a o e
  keep := j.keep
  new := fun a q gg => by
    by_cases z : a = st
    · rw [z, wo_same] at q; exact absurd rfl q
    · rw [wo_ne z] at q; exact j.new a q gg
  hid := ⟨0, 0, h, Int.le_refl 0, Int.le_refl 0⟩
  msk := fun a z => by
    have z' : a = st := z
    subst z'
    exact ⟨wo_same, by rw [h]; exact fun q => by cases q⟩
/-- from the statement that makes the draws' list on: the rest under the view V1 -/
theorem sm_draws {H0 G0 G : Hp} {t : TS} {D : Ends} {σ : L2.St} {st : Addr} (h : G st = some (.lst [.int 0, .int 0])) (g : G0 st = none) (k : ∀ G1, (∀ a o, a ≠ st → G a = some o → G1 a = some o) → H0 st = none → G1 st = none → SM (V1 H0 G0 st) t D σ G1) : SM (V0 H0 G0) t D σ G := fun H j =>
  k (wo st G) (fun a o z e => by rw [wo_ne z]; exact e) (j.new st (by rw [h]; exact fun q => by cases q) g) wo_same H (j.draws (j.up _ _ h))
section
variable {U : Vx} {σ : L2.St} {G : Hp} {Q : VK} {K : PySem.W.Frag} {te : TE} {tt : TT}
/-- [e for i in range(n)], [.. if t]: a list whose items are told by the turn alone -/
theorem em_filtR1 {ta : TA} {i0 : Nat} {vs : List Nat} (f : Nat → Bool) (v : Nat → V) (h : AM U ta σ G fun ws G1 => ∃ n : Int, ws = [.int n] ∧ 0 ≤ n ∧ n ≤ 16000000 ∧ (∀ x, wipe ((wipe σ vs).set i0 (some x)) vs = wipe σ vs) ∧
    (∀ (i : Nat) G' (U' : Vx), Ex G1 G' → (i : Int) < n → TM U' tt ((wipe σ vs).set i0 (some (.int (i : Int)))) G' fun b G2 => b = f i ∧ Ex G' G2 ∧ (b = true → EM U' te ((wipe σ vs).set i0 (some (.int (i : Int)))) G2 fun y G3 => y = v i ∧ Ex G2 G3)) ∧
    (∀ D G'', Ex G1 G'' → G1 D = none → G'' D = some (.lst (given n.toNat f v)) → Q (.ref D) G'')) : EM U (tLc (iRng1 ta) (gName i0) tt te vs) σ G Q := by
  refine em_lcR1 (fun H j QH q => h H j QH fun ws H' G1 j1 ⟨n, e, b1, b2, hw, hs, hd⟩ => q ws H' G1 j1 ⟨n, e, b1, b2, hw, fun i acc G' => acc = given i f v ∧ Ex G1 G', ⟨rfl, Ex.refl G1⟩, fun i acc G' p => by rw [p.1]; exact given_len i f v, ?_, ?_⟩)
  · intro i acc G' D U' _ _ hi ⟨p1, p2⟩ H j QT qt
    refine hs i G' U' p2 hi H j _ fun b H1 G2 j1 ⟨hb, e1, k⟩ => qt b H1 G2 j1 ?_
    cases b with
    | true =>
      rw [if_pos rfl]
      intro H2 j2 QE qe
      refine k rfl H2 j2 _ fun y H3 G3 j3 ⟨hy, e3⟩ => qe y H3 G3 j3 ⟨?_, (p2.trans e1).trans e3⟩
      rw [given_yes hb.symm, p1, hy]
    | false =>
      rw [if_neg Bool.false_ne_true]
      refine ⟨?_, p2.trans e1⟩
      rw [given_no hb.symm, p1]
  · intro acc D G' G'' ⟨p1, p2⟩ e g1 g2
    refine hd D G'' (p2.trans e) (none_of_ex p2 g1) ?_
    rw [← p1]; exact g2
theorem given_all (n : Nat) (v : Nat → V) : given n (fun _ => true) v = (List.range n).map v := by
  unfold given
  rw [List.filter_eq_self.mpr (fun _ _ => rfl)]
theorem em_mapR1 {ta : TA} {i0 : Nat} {vs : List Nat} (v : Nat → V) (h : AM U ta σ G fun ws G1 => ∃ n : Int, ws = [.int n] ∧ 0 ≤ n ∧ n ≤ 16000000 ∧ (∀ x, wipe ((wipe σ vs).set i0 (some x)) vs = wipe σ vs) ∧
    (∀ (i : Nat) G' (U' : Vx), Ex G1 G' → (i : Int) < n → EM U' te ((wipe σ vs).set i0 (some (.int (i : Int)))) G' fun y G3 => y = v i ∧ Ex G' G3) ∧
    (∀ D G'', Ex G1 G'' → G1 D = none → G'' D = some (.lst ((List.range n.toNat).map v)) → Q (.ref D) G'')) : EM U (tLc (iRng1 ta) (gName i0) tYes te vs) σ G Q := by
  refine em_filtR1 (fun _ => true) v (fun H j QH q => h H j QH fun ws H' G1 j1 ⟨n, e, b1, b2, hw, hs, hd⟩ => q ws H' G1 j1 ⟨n, e, b1, b2, hw, fun i G' U' p hi => tm_yes ⟨rfl, Ex.refl G', fun _ => hs i G' U' p hi⟩, fun D G'' e1 g1 g2 => hd D G'' e1 g1 ?_⟩)
  rw [← given_all]; exact g2
/-- over a list that stands -/
theorem em_lcL {tl : TE} {g : TG} {vs : List Nat} (h : EM U tl σ G fun w G1 => ∃ a xs, w = .ref a ∧ SqL K G1 a xs ∧ xs.length < 16000000 ∧ ∃ P : Nat → List V → Hp → Prop, P 0 [] G1 ∧ (∀ i acc G', P i acc G' → acc.length ≤ i ∧ SqL K G' a xs) ∧
    (∀ (i : Nat) x acc G' (D : Addr) (U' : Vx), U' = U.hide D (.lst acc) → ¬ U.m D → xs[i]? = some x → P i acc G' → GM U' g x (wipe σ vs) G' fun σ2 G0 => wipe σ2 vs = wipe σ vs ∧ TM U' tt σ2 G0 fun b G2 => if b = true then EM U' te σ2 G2 fun y G3 => P (i + 1) (acc ++ [y]) G3 else P (i + 1) acc G2) ∧
    (∀ acc D G' G'', P xs.length acc G' → Ex G' G'' → G' D = none → G'' D = some (.lst acc) → Q (.ref D) G'')) : EM U (tLc (iList K tl) g tt te vs) σ G Q := fun H j QH q =>
  h H j _ fun w H1 G1 j1 ⟨a, xs, e, hx, hlen, P, h0, hz, hs, hd⟩ => ⟨a, e, ⟨xs, ex_l j1.up hx⟩, fun D hD => by
    have nm : ¬ U.m D := fun z => (j1.msk D z).2 hD
    have nh : U.He D = none := none_of_ex j1.keep hD
    refine lc_list (K := K) (a := a) (xs := xs) (fun i H' => i ≤ xs.length ∧ ∃ acc G', J (U.hide D (.lst acc)) H' G' ∧ P i acc G') ⟨Nat.zero_le _, [], G1, ?_, h0⟩ (fun i H' _ ⟨_, acc, G', j', p⟩ => ex_l j'.up (hz i acc G' p).2) (fun i x H' hi ⟨_, acc, G', j', p⟩ => ?_) (fun H' ⟨_, acc, G', j', p⟩ => ?_)
    · have ja := j1.alloc (o := .lst []) hD
      refine ⟨fun a u e => ?_, ja.keep, j1.new, ⟨ja.hid, upd_same⟩, fun a ma => ?_⟩
      · rw [upd_ne (fun z => by subst z; rw [j1.free hD] at e; cases e)]; exact j1.up a u e
      · rcases ma with ma | rfl
        · obtain ⟨q1, q2⟩ := j1.msk a ma
          refine ⟨q1, ?_⟩
          rw [upd_ne (fun z => by subst z; exact q2 hD)]; exact q2
        · exact ⟨j1.free hD, by rw [upd_same]; exact fun q => by cases q⟩
    · have hil : i < xs.length := (List.getElem?_eq_some_iff.mp hi).1
      refine hs i x acc G' D _ rfl nm hi p H' j' _ fun σ2 H2 G2 j2 ⟨w2, k2⟩ => ⟨w2, k2 H2 j2 _ fun b H3 G3 j3 h3 => ?_⟩
      cases b with
      | true =>
        rw [if_pos rfl] at h3 ⊢
        refine h3 H3 j3 _ fun y H4 G4 j4 h4 => ⟨acc, j4.hid.2, ?_, hil, acc ++ [y], G4, j4.rehide nm nh, h4⟩
        have := (hz i acc G' p).1
        exact Nat.lt_of_le_of_lt this (Nat.lt_of_lt_of_le (show i < 16000000 by omega) (by decide))
      | false =>
        rw [if_neg Bool.false_ne_true] at h3 ⊢
        exact ⟨hil, acc, G3, j3, h3⟩
    · have gd : G' D = none := (j'.msk D (.inr rfl)).1
      exact q _ _ _ (j'.unhide nm nh) (hd acc D G' _ p (Ex.new gd) gd upd_same)⟩
theorem em_mapL {tl : TE} {g : TG} {vs : List Nat} (v : V → V) (h : EM U tl σ G fun w G1 => ∃ a xs, w = .ref a ∧ SqL K G1 a xs ∧ xs.length < 16000000 ∧
    (∀ (i : Nat) x G' (U' : Vx), Ex G1 G' → xs[i]? = some x → GM U' g x (wipe σ vs) G' fun σ2 G2 => wipe σ2 vs = wipe σ vs ∧ Ex G' G2 ∧ EM U' te σ2 G2 fun y G3 => y = v x ∧ Ex G2 G3) ∧
    (∀ D G'', Ex G1 G'' → G1 D = none → G'' D = some (.lst (xs.map v)) → Q (.ref D) G'')) : EM U (tLc (iList K tl) g tYes te vs) σ G Q := by
  refine em_lcL (fun H j QH q => h H j QH fun w H' G1 j1 ⟨a, xs, e, hx, hlen, hs, hd⟩ => q w H' G1 j1 ⟨a, xs, e, hx, hlen, fun i acc G' => i ≤ xs.length ∧ acc = (xs.take i).map v ∧ Ex G1 G', ⟨Nat.zero_le _, rfl, Ex.refl G1⟩, fun i acc G' p => ⟨by rw [p.2.1, List.length_map, List.length_take]; omega, ex_l p.2.2 hx⟩, ?_, ?_⟩)
  · intro i x acc G' D U' _ _ hi ⟨p0, p1, p2⟩ H j QT qt
    have hil : i < xs.length := (List.getElem?_eq_some_iff.mp hi).1
    refine hs i x G' U' p2 hi H j _ fun σ2 H1 G2 j1 ⟨hw, e1, k⟩ => qt σ2 H1 G2 j1 ⟨hw, tm_yes ?_⟩
    rw [if_pos rfl]
    intro H2 j2 QE qe
    refine k H2 j2 _ fun y H3 G3 j3 ⟨hy, e3⟩ => qe y H3 G3 j3 ⟨hil, ?_, (p2.trans e1).trans e3⟩
    rw [p1, hy, List.take_add_one, hi]
    simp
  · intro acc D G' G'' ⟨_, p1, p2⟩ e g1 g2
    refine hd D G'' (p2.trans e) (none_of_ex p2 g1) ?_
    rw [p1, List.take_length] at g2; exact g2
end
/-! ### where ways meet -/
def tCut (t : TS) : TS := fun D σ H => ∃ P : L2.St → Hp → Prop, (∀ σ' H', P σ' H' → D.nx σ' H') ∧ t ⟨P, D.rt, D.bk, D.ct⟩ σ H
theorem ps_cut {X : Cx} {st : Stmt} {t : TS} (h : PS X st t) : PS X st (tCut t) := by
  refine ⟨fun pins s σ H D I ⟨P, hP, ht⟩ => ?_⟩
  refine thn (h.run pins s σ H _ I ht) fun f s1 q => ?_
  cases f with
  | next => obtain ⟨σ', H', I', q'⟩ := q; exact ⟨σ', H', I', hP σ' H' q'⟩
  | ret v => exact q
  | brk => exact q
  | cont => exact q
section
variable {U : Vx} {σ : L2.St} {G : Hp} {Q : VK} {K : PySem.W.Frag} {te to ti : TE} {tt : TT} {t ts : TS} {D : Ends} {v : V}
theorem sm_cut (P : L2.St → Hp → Prop) (h1 : ∀ σ' G', P σ' G' → KM U D.nx σ' G') (h2 : SM U t ⟨KJ U P, D.rt, D.bk, D.ct⟩ σ G) : SM U (tCut t) D σ G := fun H j =>
  ⟨KJ U P, fun σ' H' ⟨G', j', p⟩ => h1 σ' G' p H' j', h2 H j⟩
def SLM (U : Vx) (o i v : V) (G : Hp) (k : Hp → Prop) : Prop := ∃ l xs n j, o = .ref l ∧ i = .int n ∧ G l = some (.lst xs) ∧ U.Ge l = none ∧ ixN xs.length n = some j ∧ k (upd G l (.lst (xs.set j v)))
theorem slm {l : Addr} {xs : List V} {n : Int} {j : Nat} {k : Hp → Prop} (h : G l = some (.lst xs)) (g : U.Ge l = none) (hj : ixN xs.length n = some j) (q : k (upd G l (.lst (xs.set j v)))) : SLM U (.ref l) (.int n) v G k := ⟨l, xs, n, j, rfl, rfl, h, g, hj, q⟩
theorem gm_subL {QG : L2.St → Hp → Prop} (h : EM U to σ G fun o G1 => EM U ti σ G1 fun i G2 => SLM U o i v G2 fun G3 => QG σ G3) : GM U (gSub to ti rSetL) v σ G QG := fun H j QH q =>
  h H j _ fun o H1 G1 j1 h1 => h1 H1 j1 _ fun i H2 G2 j2 ⟨l, xs, n, k, e1, e2, g, ge, hk, h2⟩ => ⟨l, xs, n, k, e1, e2, j2.up _ _ g, hk, q _ _ _ (j2.write g ge) h2⟩
end
/-- the view of a draw: all but the draws' list stays -/
def VD (st : Addr) (H : Hp) : Vx := ⟨wo st H, wo st H, fun _ => True, fun _ => False, fun _ _ _ _ => trivial⟩
theorem wo_ex {st : Addr} {H : Hp} : Ex (wo st H) H := fun x o e => by
  by_cases z : x = st
  · rw [z, wo_same] at e; cases e
  · rw [wo_ne z] at e; exact e
theorem VD.start {st : Addr} {H : Hp} : J (VD st H) H H := ⟨Ex.refl H, wo_ex, fun _ _ g => g, trivial, fun _ z => z.elim⟩
theorem sql_wo {K : PySem.W.Frag} {st a : Addr} {H : Hp} {xs : List V} (h : SqL K H a xs) (ne : a ≠ st) : SqL K (wo st H) a xs := by
  rcases h with (h | ⟨o, h⟩) | h
  · exact .inl (.inl (by rw [wo_ne ne]; exact h))
  · exact .inl (.inr ⟨o, by rw [wo_ne ne]; exact h⟩)
  · exact .inr h
theorem wo_upd {st : Addr} {H G : Hp} {o : HO} (e : Ex (wo st H) G) : Ex (wo st H) (upd G st o) := fun x u ex => by
  have : x ≠ st := fun z => by rw [z, wo_same] at ex; cases ex
  rw [upd_ne this]; exact e x u ex
theorem kv_draw {st : Addr} {H G : Hp} {Q : VK} {sz d a' b' : Int} (q : ∀ (d a' b' : Int) (H' : Hp), 0 ≤ d → d < sz → 0 ≤ a' → 0 ≤ b' → (∀ x o, x ≠ st → H x = some o → H' x = some o) → H' st = some (.lst [.int a', .int b']) → Q (.int d) H')
    (h0 : 0 ≤ d) (h1 : d < sz) (ha : 0 ≤ a') (hb : 0 ≤ b') (g : G st = some (.lst [.int a', .int b'])) : KV (VD st H) Q (.int d) G := fun H' j =>
  q d a' b' H' h0 h1 ha hb (fun x o nx e => j.keep x o (by show wo st H x = some o; rw [wo_ne nx]; exact e)) (j.up _ _ g)
theorem ifd {p A B : Prop} [Decidable p] (h1 : p → A) (h2 : ¬ p → B) : if decide p = true then A else B := by
  by_cases h : p
  · rw [decide_eq_true h, if_pos rfl]; exact h1 h
  · rw [decide_eq_false h, if_neg Bool.false_ne_true]; exact h2 h
theorem ifn {p A B : Prop} [Decidable p] (h1 : ¬ p → A) (h2 : p → B) : if (!decide p) = true then A else B := by
  by_cases h : p
  · rw [decide_eq_true h, Bool.not_true, if_neg Bool.false_ne_true]; exact h2 h
  · rw [decide_eq_false h, Bool.not_false, if_pos rfl]; exact h1 h
theorem ifdT {p A B : Prop} [Decidable p] (h : p) (a : A) : if decide p = true then A else B := ifd (fun _ => a) fun z => absurd h z
theorem ifdF {p A B : Prop} [Decidable p] (h : ¬ p) (b : B) : if decide p = true then A else B := ifd (fun z => absurd z h) fun _ => b
theorem ifnT {p A B : Prop} [Decidable p] (h : ¬ p) (a : A) : if (!decide p) = true then A else B := ifn (fun _ => a) fun z => absurd z h
theorem ifnF {p A B : Prop} [Decidable p] (h : p) (b : B) : if (!decide p) = true then A else B := ifn (fun z => absurd h z) fun _ => b
/-! ### lists of ints as data -/
theorem dpAll_ints {K : PySem.W.Frag} {H : Hp} : ∀ ns : List Int, DpAll K H (ns.map V.int) (ns.map PyData.int)
  | [] => .nil
  | n :: ns => .cons (.int n) (dpAll_ints ns)
theorem canLay_ints : ∀ ns : List Int, PyData.canLayAll0 (ns.map PyData.int) = true
  | [] => by simp [PyData.canLayAll0]
  | n :: ns => by
    show PyData.canLayAll0 (PyData.int n :: ns.map PyData.int) = true
    rw [PyData.canLayAll0, canLay_ints ns]
    simp [PyData.canLay0]
theorem depth_ints : ∀ ns : List Int, PyData.depthAll (ns.map PyData.int) ≤ 1
  | [] => by simp [PyData.depthAll]
  | n :: ns => by
    have h := depth_ints ns
    show PyData.depthAll (PyData.int n :: ns.map PyData.int) ≤ 1
    rw [PyData.depthAll]
    simp only [PyData.depth]
    omega
theorem shaped_ints (ns : List Int) : SeqAt.shaped (.list (ns.map PyData.int)) = true := by
  unfold SeqAt.shaped
  have h := depth_ints ns
  rw [PyData.canLay0, canLay_ints, PyData.depth]
  simp
  omega
theorem shaped_intsT (ns : List Int) : SeqAt.shaped (.tuple (ns.map PyData.int)) = true := by
  unfold SeqAt.shaped
  have h := depth_ints ns
  rw [PyData.canLay0, canLay_ints, PyData.depth]
  simp
  omega
theorem eqv_ints : ∀ ns ms : List Int, PyData.eqvAll (ns.map PyData.int) (ms.map PyData.int) = decide (ns = ms)
  | [], [] => by simp [PyData.eqvAll]
  | [], m :: ms => by simp [PyData.eqvAll]
  | n :: ns, [] => by simp [PyData.eqvAll]
  | n :: ns, m :: ms => by
    show PyData.eqvAll (PyData.int n :: ns.map PyData.int) (PyData.int m :: ms.map PyData.int) = _
    rw [PyData.eqvAll, eqv_ints ns ms, PyData.eqv]
    simp [Bool.decide_and]
    by_cases h : n = m <;> simp [h]
theorem dp_ints {K : PySem.W.Frag} {H : Hp} {a : Addr} {ns : List Int} (h : SqL K H a (ns.map V.int)) : Dp K H (.ref a) (.list (ns.map PyData.int)) := .lst h (dpAll_ints ns)
theorem dp_intsT {K : PySem.W.Frag} {H : Hp} {a : Addr} {ns : List Int} (h : SqT K H a (ns.map V.int)) : Dp K H (.ref a) (.tuple (ns.map PyData.int)) := .tup h (dpAll_ints ns)
section
variable {U : Vx} {σ : L2.St} {G : Hp} {Q : VK} {K : PySem.W.Frag}
theorem rm_eqL {a b : Addr} {ns ms : List Int} (ha : SqL K G a (ns.map V.int)) (hb : SqL K G b (ms.map V.int)) (k : Q (.bl (decide (ns = ms))) G) : RM U (rEqD K (.ref a) (.ref b)) G Q :=
  rm_eqD (dp_ints ha) (dp_ints hb) (shaped_ints ns) (shaped_ints ms) (by rw [PyData.eqv, eqv_ints]; exact k)
theorem rm_neL {a b : Addr} {ns ms : List Int} (ha : SqL K G a (ns.map V.int)) (hb : SqL K G b (ms.map V.int)) (k : Q (.bl (!decide (ns = ms))) G) : RM U (rNeD K (.ref a) (.ref b)) G Q :=
  rm_neD (dp_ints ha) (dp_ints hb) (shaped_ints ns) (shaped_ints ms) (by rw [PyData.eqv, eqv_ints]; exact k)
theorem rm_eqT {a b : Addr} {ns ms : List Int} (ha : SqT K G a (ns.map V.int)) (hb : SqT K G b (ms.map V.int)) (k : Q (.bl (decide (ns = ms))) G) : RM U (rEqD K (.ref a) (.ref b)) G Q :=
  rm_eqD (dp_intsT ha) (dp_intsT hb) (shaped_intsT ns) (shaped_intsT ms) (by rw [PyData.eqv, eqv_ints]; exact k)
theorem rm_neT {a b : Addr} {ns ms : List Int} (ha : SqT K G a (ns.map V.int)) (hb : SqT K G b (ms.map V.int)) (k : Q (.bl (!decide (ns = ms))) G) : RM U (rNeD K (.ref a) (.ref b)) G Q :=
  rm_neD (dp_intsT ha) (dp_intsT hb) (shaped_intsT ns) (shaped_intsT ms) (by rw [PyData.eqv, eqv_ints]; exact k)
/-- an item at an unknown place within bounds -/
theorem atI_ex {xs : List V} {i : Int} (h0 : 0 ≤ i) (h1 : i < xs.length) : ∃ v, v ∈ xs ∧ atI xs i = some v ∧ xs[i.toNat]? = some v := by
  obtain ⟨k, rfl⟩ := Int.eq_ofNat_of_zero_le h0
  have hk : k < xs.length := by omega
  refine ⟨xs[k], List.getElem_mem hk, atI_nat (List.getElem?_eq_getElem hk), ?_⟩
  rw [Int.toNat_natCast]; exact List.getElem?_eq_getElem hk
theorem rm_ixM {p : Addr} {xs : List V} {i : Int} (h : SqL K G p xs) (h0 : 0 ≤ i) (h1 : i < xs.length) (k : ∀ v, v ∈ xs → Q v G) : RM U (rIxL K (.ref p) (.int i)) G Q := by
  obtain ⟨v, hv, e, _⟩ := atI_ex h0 h1
  exact rm_ixL h e (k v hv)
end
theorem log2_pow_lt {n : Nat} (h : n < 9000) : (2 ^ n : Nat).log2 < 9000 := by
  rw [Nat.log2_two_pow]; exact h
theorem pow_cast (n : Nat) : ((2 : Int) ^ n).natAbs = 2 ^ n := by rw [Int.natAbs_pow]; rfl
theorem sz_pow {w : Int} (h0 : 0 ≤ w) (h1 : w < 9000) : 0 < (1 : Int) * 2 ^ w.toNat ∧ ((1 : Int) * 2 ^ w.toNat).natAbs.log2 < 9000 := by
  rw [Int.one_mul]
  refine ⟨PySem.W.kbt_pos _, ?_⟩
  rw [pow_cast]
  exact log2_pow_lt (by omega)
theorem sz_small {n : Int} (h0 : 0 ≤ n) (h1 : n < 2 ^ 8999) : n.natAbs.log2 < 9000 := by
  by_cases z : n = 0
  · subst z; decide
  · have : n.natAbs < 2 ^ 8999 := by
      have e : ((n.natAbs : Nat) : Int) < ((2 ^ 8999 : Nat) : Int) := by
        rw [PySem.W.kbt_cast]; omega
      exact Int.ofNat_lt.mp e
    have := (Nat.log2_lt (by omega)).mpr this
    omega
theorem same_of {H G G1 : Hp} {st : Addr} (hs : H st = none) (e : Ex H G) (k : ∀ a o, a ≠ st → G a = some o → G1 a = some o) : Ex H G1 := fun a o h => k a o (fun z => by rw [z, hs] at h; cases h) (e a o h)
/-! ### rules with the written part by its own name -/
section
variable {X : Cx} {K : PySem.W.Frag} {e : Expr} {te : TE} {tg : Expr} {pos : Pos}
theorem kx_list (h : X.K = K := by rfl) : IxR X (rIxL K) := by subst h; exact ix_list
theorem kx_tup (h : X.K = K := by rfl) : IxR X (rIxT K) := by subst h; exact ix_tup
theorem kq_len (h : X.K = K := by rfl) : CallR X (.builtin "len") (rLenQ K) := by subst h; exact cq_len
theorem kq_list (h : X.K = K := by rfl) : CallR X (.type "list") (rListQ K) := by subst h; exact cq_list
theorem kq_tuple (h : X.K = K := by rfl) : CallR X (.type "tuple") (rTupQ K) := by subst h; exact cq_tuple
theorem kr_sum (h : X.K = K := by rfl) (hc : X.calm = true := by rfl) : CallR X (.builtin "sum") (rSum K) := by subst h; exact cr_sum hc
theorem kr_all (h : X.K = K := by rfl) (hc : X.calm = true := by rfl) : CallR X (.builtin "all") (rAll K) := by subst h; exact cr_all hc
theorem kr_any (h : X.K = K := by rfl) (hc : X.calm = true := by rfl) : CallR X (.builtin "any") (rAny K) := by subst h; exact cr_any hc
theorem kr_isi (h : X.K = K := by rfl) : CallR X (.builtin "isinstance") (rIsi K) := by subst h; exact call_isi
theorem kp_eqD (hu : X.A.units + 64 < cLine) (h : X.K = K := by rfl) : OpR X (compareOp .Eq) (rEqD K) := by subst h; exact op_eqD hu
theorem kp_neD (hu : X.A.units + 64 < cLine) (h : X.K = K := by rfl) : OpR X (compareOp .NotEq) (rNeD K) := by subst h; exact op_neD hu
theorem kp_catT (h : X.K = K := by rfl) : OpR X (binaryOp .Add) (rCatT K) := by subst h; exact op_catT
theorem kp_in (h : X.K = K := by rfl) : OpR X (compareOp .In) (rIn K false) := by subst h; exact op_in_seq
theorem kp_notIn (h : X.K = K := by rfl) : OpR X (compareOp .NotIn) (rIn K true) := by subst h; exact op_notIn_seq
theorem kl_list (h : X.K = K := by rfl) : SlR X (rSlL K) := by subst h; exact sl_list
theorem kl_tup (h : X.K = K := by rfl) : SlR X (rSlT K) := by subst h; exact sl_tup
theorem ke_fld {f : Str} (he : PE X e te) (hb : attributeBase e f X.env (eval e X.env) = eval e X.env := by rfl) (h : X.K = K := by rfl) : PE X (.Attribute e f pos) (tFld K te f) := by subst h; exact pe_fld he hb
theorem ki_list (hl : PE X e te) (h : X.K = K := by rfl) : PI X tg e (iList K te) := by subst h; exact pi_list hl
theorem ki_tup (hl : PE X e te) (h : X.K = K := by rfl) : PI X tg e (iTup K te) := by subst h; exact pi_tup hl
theorem ka_star {es : List Expr} {t : TA} {p : Pos} (he : PE X e te) (hr : PA X es t) (hs : starEach (.Starred e p :: es) X.env = (true, eval e X.env) :: starEach es X.env := by rfl) (h : X.K = K := by rfl) : PA X (.Starred e p :: es) (tStar K te t) := by subst h; exact pa_star he hr hs
end
end Wp

set_option Elab.async false
set_option linter.all false
set_option maxRecDepth 100000
set_option maxHeartbeats 4000000
set_option pp.maxSteps 250
namespace Pf
open PySem PySem.Spec PyProof.Rows L2 Evl Wp StX
set_option autoImplicit false

local macro_rules | `(tactic| walk_at "c") => `(tactic| first | assumption | exact ⟨by assumption, by assumption⟩ | omega | decide | exact .inr ⟨by omega, by omega⟩ | exact .inl ⟨by omega, by omega⟩ | exact ⟨by omega, by omega⟩ | exact ⟨by decide, by decide⟩ | exact ⟨by omega, by decide, by decide⟩)
local macro_rules | `(tactic| walk_at "sq") => `(tactic| first | assumption | exact sq_of (by assumption) | (refine' ex_l ?exh ?sqh; (case exh => assumption); (case sqh => walk_at "sq")))
local macro_rules | `(tactic| walk_at "st") => `(tactic| first | assumption | exact st_of (by assumption) | (refine' ex_t ?exh ?sqh; (case exh => assumption); (case sqh => walk_at "st")))
local macro_rules | `(tactic| walk_at "go1") => `(tactic| first
  | with_reducible refine iteT ?_
  | with_reducible refine iteF ?_
  | with_reducible refine sm_seq ?_
  | with_reducible refine sm_asg ?_
  | with_reducible refine gm_name ?_
  | with_reducible refine km_next ?_
  | with_reducible refine kv_rt ?_
  | with_reducible refine sm_if ?_
  | with_reducible refine sm_ret ?_
  | with_reducible refine sm_drop ?_
  | with_reducible refine tm_test ?_
  | with_reducible refine tm_B ?_
  | with_reducible refine tm_and ?_
  | with_reducible refine tm_or ?_
  | with_reducible refine tm_not ?_
  | with_reducible refine tm_yes ?_
  | ((with_reducible refine em_here ?_); refine ⟨_, rfl, ?_⟩)
  | with_reducible refine em_c ?_
  | with_reducible refine em_op ?_
  | with_reducible refine em_un ?_
  | with_reducible refine em_chain ?_
  | with_reducible refine rm_I0 ?_
  | ((with_reducible refine rm_I ?cch ?_); (case cch => walk_at "c"))
  | with_reducible refine rm_U ?_
  | with_reducible refine rm_eqI ?_
  | with_reducible refine rm_neI ?_
  | with_reducible refine bv ?_
  | with_reducible refine iv ?_
  | with_reducible refine am_nil ?_
  | with_reducible refine am_cons ?_
  | with_reducible refine em_cb ?_
  | with_reducible refine em_call ?_
  | with_reducible refine em_andV ?_
  | with_reducible refine em_orV ?_
  | with_reducible refine em_notV ?_
  | with_reducible refine em_if ?_
  | ((with_reducible refine em_bits ?_))
  | with_reducible refine rm_int ?_
  | with_reducible refine rm_max ?_
  | with_reducible refine rm_min ?_
  | ((with_reducible refine' rm_lenL ?sqh ?_); (case sqh => walk_at "sq"))
  | with_reducible refine gm_subL ?_
  | with_reducible refine rm_isB ?_
  | with_reducible refine rm_notB ?_)
local macro_rules | `(tactic| walk_at "go") => `(tactic| repeat walk_at "go1")

def top (i : Nat) : Stmt := PySem.Challenge.pw_offing_k10_digits_of_messages.main.body.getD i (.Pass ⟨0, 0, 0, 0⟩)
abbrev s_digits_of : Stmt := top 3
theorem sc_digits_of : FnScope ["width", "message", "digits", "check", "digit"] ["width", "message"] (defScope s_digits_of) := ⟨rfl, rfl, rfl, by decide +kernel, rfl, by decide +kernel, by decide +kernel⟩
abbrev s_base_digits : Stmt := top 4
theorem sc_base_digits : FnScope ["number", "many", "place"] ["number", "many"] (defScope s_base_digits) := ⟨rfl, rfl, rfl, by decide +kernel, rfl, by decide +kernel, by decide +kernel⟩
abbrev s_message_digits : Stmt := top 5
theorem sc_message_digits : FnScope ["width"] ["width"] (defScope s_message_digits) := ⟨rfl, rfl, rfl, by decide +kernel, rfl, by decide +kernel, by decide +kernel⟩
abbrev s_check_digits : Stmt := top 6
theorem sc_check_digits : FnScope ["width", "greatest"] ["width"] (defScope s_check_digits) := ⟨rfl, rfl, rfl, by decide +kernel, rfl, by decide +kernel, by decide +kernel⟩
abbrev s__law_draw : Stmt := top 8
theorem sc__law_draw : FnScope ["state", "script", "size", "cell", "mixed", "digit"] ["state", "script", "size"] (defScope s__law_draw) := ⟨rfl, rfl, rfl, by decide +kernel, rfl, by decide +kernel, by decide +kernel⟩
abbrev s__law_digits : Stmt := top 9
theorem sc__law_digits : FnScope ["width", "message", "digits", "rest", "more", "most", "k", "digit"] ["width", "message"] (defScope s__law_digits) := ⟨rfl, rfl, rfl, by decide +kernel, rfl, by decide +kernel, by decide +kernel⟩
abbrev s_law : Stmt := top 10
theorem sc_law : FnScope ["script", "state", "width", "first", "second", "one", "other", "less", "more", "k"] ["script"] (defScope s_law) := ⟨rfl, rfl, rfl, by decide +kernel, rfl, by decide +kernel, by decide +kernel⟩
structure Txt (K : PySem.W.Frag) (mg : Str → Option Value) where
  fd_digits_of : FuncData
  digits_of : Def K mg "digits_of" "digits_of" s_digits_of ["width", "message"] (He.fAd K ("digits_of", none)) fd_digits_of
  fd_base_digits : FuncData
  base_digits : Def K mg "base_digits" "base_digits" s_base_digits ["number", "many"] (He.fAd K ("base_digits", none)) fd_base_digits
  fd_message_digits : FuncData
  message_digits : Def K mg "message_digits" "message_digits" s_message_digits ["width"] (He.fAd K ("message_digits", none)) fd_message_digits
  fd_check_digits : FuncData
  check_digits : Def K mg "check_digits" "check_digits" s_check_digits ["width"] (He.fAd K ("check_digits", none)) fd_check_digits
  fd__law_draw : FuncData
  _law_draw : Def K mg "_law_draw" "_law_draw" s__law_draw ["state", "script", "size"] (He.fAd K ("_law_draw", none)) fd__law_draw
  fd__law_digits : FuncData
  _law_digits : Def K mg "_law_digits" "_law_digits" s__law_digits ["width", "message"] (He.fAd K ("_law_digits", none)) fd__law_digits
  fd_law : FuncData
  law : Def K mg "law" "law" s_law ["script"] (He.fAd K ("law", none)) fd_law
  z_int : mg "int" = none
  z_len : mg "len" = none
  z_max : mg "max" = none
  z_range : mg "range" = none
  z_sum : mg "sum" = none
  c_DIGIT_BITS : ∃ t, mg "DIGIT_BITS" = some (.int 4 t)
  c_GREATEST_DIGIT : ∃ t, mg "GREATEST_DIGIT" = some (.int 15 t)
section
variable {P : Program} {w : World} {K : PySem.W.Frag} {mg : Str → Option Value} {base : Heap}
def sp__law_draw (K : PySem.W.Frag) : Sp := spDraw K
theorem ok__law_draw (T : Txt K mg) : FnOk P w K mg base CX0 1 (He.fAd K ("_law_draw", none)) T.fd__law_draw ["state", "script", "size"] (sp__law_draw K) := by
  refine T._law_draw.F.ok sc__law_draw (fun vs H Q E h => ?_) (fun cdv A outer s H vs Q E hr h => ?_)
  · obtain ⟨st, sc, ns, a, b, sz, rfl, _⟩ := h
    rfl
  · obtain ⟨st, sc, ns, a, b, sz, rfl, hst, ha, hb, hS0, h0, hz, q⟩ := h
    refine ⟨_, PSs.nox (pss_cons (ps_cut (ps_if (pt_cmpR (op_eq) (pe_ix (kx_list (K := K)) (pv 0) pe_int (fun _ _ => rfl)) pe_int (nomark _)) (pss_cons (ps_set (i := 3) sc__law_draw.nd rfl (Or.inl rfl) pe_int)
  (pss_cons (ps_cut (ps_if (pt_cmpR (op_gt) (pe_callB (kq_len (K := K)) (by rfl) T.z_len (by decide +kernel) (pa_cons (pv 1) pa_nil)) pe_int (nomark _)) (pss_one (ps_set (i := 3) sc__law_draw.nd rfl (Or.inl rfl) (pe_ix (kx_list (K := K)) (pv 1) (pe_op op_mod (pe_ix (kx_list (K := K)) (pv 0) pe_int (fun _ _ => rfl)) (pe_callB (kq_len (K := K)) (by rfl) T.z_len (by decide +kernel) (pa_cons (pv 1) pa_nil))) (fun _ _ => rfl)))) pss_nil))
  (pss_cons (ps_cut (ps_if (pt_cmpR (op_lt) (pv 3) pe_int (nomark _)) (pss_one (ps_set (i := 3) sc__law_draw.nd rfl (Or.inl rfl) (pe_op op_sub pe_int (pe_op op_mul pe_int (pv 3))))) pss_nil))
  (pss_cons (ps_set (i := 4) sc__law_draw.nd rfl (Or.inl rfl) (pe_op op_mod (pe_callTy cq_int (by rfl) T.z_int (by decide +kernel) (pa_cons (pe_op op_mul (pe_op op_add (pe_op op_add (pv 3) (pe_op op_mul (pe_ix (kx_list (K := K)) (pv 0) pe_int (fun _ _ => rfl)) pe_int)) pe_int) pe_int) pa_nil)) pe_int))
  (pss_cons (ps_asg (pe_op op_mod (pe_callTy cq_int (by rfl) T.z_int (by decide +kernel) (pa_cons (pe_op op_add (pe_op op_mul (pv 4) pe_int) (pe_op op_mul (pe_ix (kx_list (K := K)) (pv 0) pe_int (fun _ _ => rfl)) pe_int)) pa_nil)) pe_int) (pg_sub (pv 0) pe_int set_list))
  (pss_cons (ps_cut (ps_if (PW.pt (pw_and (pt_cmpR (op_ge) (pv 3) (pe_op op_pow pe_int pe_int) (nomark _)) (pw_and1 (pt_cmpR (op_lt) (pe_ix (kx_list (K := K)) (pv 0) pe_int (fun _ _ => rfl)) (pe_callB (kq_len (K := K)) (by rfl) T.z_len (by decide +kernel) (pa_cons (pv 1) pa_nil)) (nomark _))))) (pss_one (ps_asg (pv 3) (pg_sub (pv 0) pe_int set_list))) pss_nil))
  (pss_one (ps_asg (pe_op op_add (pe_ix (kx_list (K := K)) (pv 0) pe_int (fun _ _ => rfl)) pe_int) (pg_sub (pv 0) pe_int set_list))))))))) pss_nil))
  (pss_cons (ps_set (i := 5) sc__law_draw.nd rfl (Or.inl rfl) (pe_op op_mod (pe_callTy cq_int (by rfl) T.z_int (by decide +kernel) (pa_cons (pe_ix (kx_list (K := K)) (pv 0) pe_int (fun _ _ => rfl)) pa_nil)) (pv 2)))
  (pss_cons (ps_asg (pe_op op_fdivW (pe_ix (kx_list (K := K)) (pv 0) pe_int (fun _ _ => rfl)) (pv 2)) (pg_sub (pv 0) pe_int set_list))
  (pss_one (ps_ret (pv 5)))))), ?_⟩
    refine (show SM (VD st H) _ _ _ H from ?_) H VD.start
    have gst : (VD st H).Ge st = none := wo_same
    have hS : SqL K H sc (ns.map V.int) := ex_l wo_ex hS0
    have hLen : (ns.map V.int).length = ns.length := List.length_map ..
    refine sm_seq (sm_cut (fun σ G => ∃ a1 b1 : Int, ∃ v3 v4 v5, σ = [some (.ref st), some (.ref sc), some (.int sz), v3, v4, v5] ∧ 0 ≤ a1 ∧ 0 ≤ b1 ∧ G st = some (.lst [.int a1, .int b1])) ?_ ?_)
    · rintro σ' G' ⟨a1, b1, v3, v4, v5, rfl, h1, h2, g1⟩
      walk_at "go"
      refine rm_ixL (sq_of g1) (v := .int b1) rfl ?_
      walk_at "go"
      refine rm_ixL (sq_of g1) (v := .int b1) rfl ?_
      walk_at "go"
      refine slm (j := 1) g1 gst rfl ?_
      walk_at "go"
      refine kv_draw (b' := b1 / sz) q (Int.emod_nonneg _ (by omega)) (Int.emod_lt_of_pos _ h0) h1 (Int.ediv_nonneg h2 (by omega)) ?_
      exact upd_same
    · walk_at "go"
      refine rm_ixL (sq_of hst) (v := .int b) rfl ?_
      walk_at "go"
      refine ifd (fun hb0 => ?_) (fun hb0 => ?_)
      · subst hb0
        walk_at "go"
        refine sm_cut (fun σ G => ∃ c : Int, ∃ v4 v5, σ = [some (.ref st), some (.ref sc), some (.int sz), some (.int c), v4, v5] ∧ G = H) ?_ ?_
        · rintro σ' G' ⟨c, v4, v5, rfl, rfl⟩
          walk_at "go"
          refine sm_cut (fun σ G => ∃ c : Int, ∃ v4 v5, σ = [some (.ref st), some (.ref sc), some (.int sz), some (.int c), v4, v5] ∧ 0 ≤ c ∧ G = G') ?_ ?_
          · rintro σ' G'' ⟨c, v4, v5, rfl, hc, rfl⟩
            walk_at "go"
            refine rm_ixL (sq_of hst) (v := .int a) rfl ?_
            walk_at "go"
            refine rm_ixL (sq_of hst) (v := .int a) rfl ?_
            walk_at "go"
            refine slm (j := 1) hst gst rfl ?_
            have b0 : (0 : Int) ≤ ((((c + a * 7919 + 1) * 48271) % 2147483647) * 69621 + a * 104729) % 4294967291 := Int.emod_nonneg _ (by decide)
            generalize ((((c + a * 7919 + 1) * 48271) % 2147483647) * 69621 + a * 104729) % 4294967291 = b1 at b0 ⊢
            have g1 : upd G'' st (.lst ([V.int a, V.int 0].set 1 (.int b1))) st = some (.lst [.int a, .int b1]) := upd_same
            have e1 : Ex (wo st G'') (upd G'' st (.lst ([V.int a, V.int 0].set 1 (.int b1)))) := wo_upd wo_ex
            generalize upd G'' st (.lst ([V.int a, V.int 0].set 1 (.int b1))) = G1 at g1 e1 ⊢
            walk_at "go"
            refine sm_cut (fun σ G => ∃ a1 b1 : Int, ∃ v3 v4 v5, σ = [some (.ref st), some (.ref sc), some (.int sz), v3, v4, v5] ∧ 0 ≤ a1 ∧ 0 ≤ b1 ∧ G st = some (.lst [.int a1, .int b1])) ?_ ?_
            · rintro σ' G' ⟨a1, b1, v3, v4, v5, rfl, h1, h2, g1⟩
              walk_at "go"
              refine rm_ixL (sq_of g1) (v := .int a1) rfl ?_
              walk_at "go"
              refine slm (j := 0) g1 gst rfl ?_
              refine km_kj ?_
              exact ⟨a1 + 1, b1, _, _, _, rfl, by omega, h2, upd_same⟩
            · walk_at "go"
              refine ifd (fun hcc => ?_) (fun hcc => ?_)
              · walk_at "go"
                refine rm_ixL (sq_of g1) (v := .int a) rfl ?_
                walk_at "go"
                refine ifd (fun _ => ?_) (fun _ => ?_)
                · walk_at "go"
                  refine slm (j := 1) g1 gst rfl ?_
                  refine km_kj ?_
                  exact ⟨a, c, _, _, _, rfl, ha, hc, upd_same⟩
                · walk_at "go"
                  refine sm_next ?_
                  refine km_kj ?_
                  exact ⟨a, b1, _, _, _, rfl, ha, b0, g1⟩
              · walk_at "go"
                refine sm_next ?_
                refine km_kj ?_
                exact ⟨a, b1, _, _, _, rfl, ha, b0, g1⟩
          · walk_at "go"
            refine ifd (fun hcc => ?_) (fun hcc => ?_)
            · walk_at "go"
              refine km_kj ?_
              exact ⟨_, _, _, rfl, by omega, rfl⟩
            · walk_at "go"
              refine sm_next ?_
              refine km_kj ?_
              exact ⟨_, _, _, rfl, by omega, rfl⟩
        · walk_at "go"
          refine ifd (fun hl => ?_) (fun hl => ?_)
          · walk_at "go"
            refine rm_ixL (sq_of hst) (v := .int a) rfl ?_
            walk_at "go"
            have hpos : (0 : Int) < (ns.map V.int).length := hl
            have k0 := Int.emod_nonneg a (show ((ns.map V.int).length : Int) ≠ 0 by omega)
            have k1 := Int.emod_lt_of_pos a hpos
            obtain ⟨k, hk⟩ := Int.eq_ofNat_of_zero_le k0
            have hkl : k < ns.length := by rw [hLen] at k1 hk; omega
            refine rm_ixL (v := .int ns[k]) hS ?_ ?_
            · rw [hk]
              exact atI_nat (by rw [List.getElem?_map, List.getElem?_eq_getElem hkl]; rfl)
            · walk_at "go"
              refine km_kj ?_
              exact ⟨_, _, _, rfl, rfl⟩
          · walk_at "go"
            refine sm_next ?_
            refine km_kj ?_
            exact ⟨_, _, _, rfl, rfl⟩
      · walk_at "go"
        refine sm_next ?_
        refine km_kj ?_
        exact ⟨a, b, _, _, _, rfl, ha, hb, hst⟩

def dig (n : Int) (k : Nat) : Int := Builtin.bitAnd (n / 2 ^ (4 * (k : Int)).toNat) 15
def digs (n : Int) (m : Nat) : List Int := (List.range m).map (dig n)
def md (w : Int) : Int := (w + 4 - 1) / 4
def cd (w : Int) : Int := if ((Builtin.Int.intBits (15 * md w) : Nat) + 4 - 1 : Int) / 4 > 1 then ((Builtin.Int.intBits (15 * md w) : Nat) + 4 - 1 : Int) / 4 else 1
def inv15 (ds : List Int) : List Int := ds.map fun d => 15 - d
def digitsOf (w m : Int) : List Int := digs m (md w).toNat ++ digs (inv15 (digs m (md w).toNat)).sum (cd w).toNat
theorem digs_len (n : Int) (m : Nat) : (digs n m).length = m := by unfold digs; rw [List.length_map, List.length_range]
theorem md_nn {w : Int} (h : 0 ≤ w) : 0 ≤ md w := by unfold md; omega
theorem md_le {w : Int} (h : w ≤ 400) : md w ≤ 101 := by unfold md; omega
theorem cd_pos (w : Int) : 0 ≤ cd w := by unfold cd; split <;> omega
theorem cd_le {w : Int} (h0 : 0 ≤ w) (h : w ≤ 400) : cd w ≤ 4 := by
  have a := md_nn h0
  have b := md_le h
  have c : Builtin.Int.intBits (15 * md w) ≤ 11 := PyProof.Rows.intBits_le (show (15 * md w).natAbs < 2048 by omega)
  unfold cd; split <;> omega
def sp_base_digits (K : PySem.W.Frag) : Sp := spP (fun vs _ => ∃ n m : Int, vs = [.int n, .int m] ∧ 0 ≤ m ∧ m ≤ 1000) fun vs _ v G' => ∀ n m : Int, vs = [.int n, .int m] → ∃ p, v = .ref p ∧ G' p = some (.lst ((digs n m.toNat).map V.int))
theorem ok_base_digits (T : Txt K mg) : FnOk P w K mg base CX0 1 (He.fAd K ("base_digits", none)) T.fd_base_digits ["number", "many"] (sp_base_digits K) := by
  refine T.base_digits.F.ok sc_base_digits (fun vs H Q E h => ?_) (fun cdv A outer s H vs Q E hr h => ?_)
  · obtain ⟨_, _, ⟨n, m, rfl, _⟩, _⟩ := h
    rfl
  · obtain ⟨G, e0, ⟨n, m, rfl, hm, hm'⟩, q⟩ := h
    refine ⟨_, PSs.nox (pss_one (ps_ret (pe_lc (own := [("place", 2)]) rfl sc_base_digits.nd (pi_range1 rfl T.z_range (pa_cons (pv 1) pa_nil)) (blkOk_by (own := [("place", 2)]) (N := ["number", "many", "place"]) (sc := defScope s_base_digits) (by decide +kernel)) (fun _ _ _ _ _ => pg_name (i := 2) sc_base_digits.nd rfl (Or.inl rfl)) (fun _ _ _ _ _ => pts_nil) (fun _ _ _ _ _ => (pe_op op_and (pe_op op_shr (pv 0) (pe_op op_mul (pe_glob (v := .int 4) rfl T.c_DIGIT_BITS.choose_spec ⟨_, rfl⟩) (pv 2))) (pe_glob (v := .int 15) rfl T.c_GREATEST_DIGIT.choose_spec ⟨_, rfl⟩)))))), ?_⟩
    refine (show SM (V0 H G) _ _ _ G from ?_) H (J.start e0)
    walk_at "go"
    refine em_mapR1 (fun k => V.int (dig n k)) ?_
    walk_at "go"
    refine ⟨m, rfl, hm, by omega, fun x => rfl, fun i G' U' e hi => ?_, fun D G1 e1 g1 g2 => ?_⟩
    · walk_at "go"
      exact ⟨rfl, Ex.refl _⟩
    · walk_at "go"
      refine kv_ret q e1 fun n' m' e => ?_
      cases e
      exact ⟨D, rfl, by rw [g2, digs, List.map_map]; rfl⟩
def sp_message_digits (K : PySem.W.Frag) : Sp := spP (fun vs _ => ∃ w : Int, vs = [.int w]) fun vs _ v G' => ∀ w : Int, vs = [.int w] → v = .int (md w)
theorem ok_message_digits (T : Txt K mg) : FnOk P w K mg base CX0 1 (He.fAd K ("message_digits", none)) T.fd_message_digits ["width"] (sp_message_digits K) := by
  refine T.message_digits.F.ok sc_message_digits (fun vs H Q E h => ?_) (fun cdv A outer s H vs Q E hr h => ?_)
  · obtain ⟨_, _, ⟨n, rfl⟩, _⟩ := h
    rfl
  · obtain ⟨G, e0, ⟨w, rfl⟩, q⟩ := h
    refine ⟨_, PSs.nox (pss_one (ps_ret (pe_op op_fdivW (pe_op op_sub (pe_op op_add (pv 0) (pe_glob (v := .int 4) rfl T.c_DIGIT_BITS.choose_spec ⟨_, rfl⟩)) pe_int) (pe_glob (v := .int 4) rfl T.c_DIGIT_BITS.choose_spec ⟨_, rfl⟩)))), ?_⟩
    refine (show SM (V0 H G) _ _ _ G from ?_) H (J.start e0)
    walk_at "go"
    refine kv_ret q (Ex.refl _) fun w' e => ?_
    cases e
    rfl
def sp_check_digits (K : PySem.W.Frag) : Sp := spP (fun vs _ => ∃ w : Int, vs = [.int w]) fun vs _ v G' => ∀ w : Int, vs = [.int w] → v = .int (cd w)
theorem ok_check_digits (T : Txt K mg) : FnOk P w K mg base CX0 2 (He.fAd K ("check_digits", none)) T.fd_check_digits ["width"] (sp_check_digits K) := by
  refine T.check_digits.F.ok sc_check_digits (fun vs H Q E h => ?_) (fun cdv A outer s H vs Q E hr h => ?_)
  · obtain ⟨_, _, ⟨n, rfl⟩, _⟩ := h
    rfl
  · obtain ⟨G, e0, ⟨w, rfl⟩, q⟩ := h
    refine ⟨_, PSs.nox (pss_cons (ps_set (i := 1) sc_check_digits.nd rfl (Or.inl rfl) (pe_op op_mul (pe_glob (v := .int 15) rfl T.c_GREATEST_DIGIT.choose_spec ⟨_, rfl⟩) (pe_call (ok_message_digits T) (hr.mono (by decide)) (by rfl) T.message_digits.g T.message_digits.F.kp T.message_digits.b .nil pass0 (pa_cons (pv 0) pa_nil))))
  (pss_one (ps_ret (pe_callB cq_max (by rfl) T.z_max (by decide +kernel) (pa_cons pe_int (pa_cons (pe_op op_fdivW (pe_op op_sub (pe_op op_add (pe_bits (pv 1)) (pe_glob (v := .int 4) rfl T.c_DIGIT_BITS.choose_spec ⟨_, rfl⟩)) pe_int) (pe_glob (v := .int 4) rfl T.c_DIGIT_BITS.choose_spec ⟨_, rfl⟩)) pa_nil)))))), ?_⟩
    refine (show SM (V0 H G) _ _ _ G from ?_) H (J.start e0)
    walk_at "go"
    refine cm_p ⟨w, rfl⟩ fun v G1 e1 hv => ?_
    cases hv w rfl
    walk_at "go"
    refine kv_ret q e1 fun w' e => ?_
    cases e
    rfl
def sp_digits_of (K : PySem.W.Frag) : Sp := spP (fun vs _ => ∃ w m : Int, vs = [.int w, .int m] ∧ 0 ≤ w ∧ w ≤ 400) fun vs _ v G' => ∀ w m : Int, vs = [.int w, .int m] → ∃ p, v = .ref p ∧ G' p = some (.lst ((digitsOf w m).map V.int))
theorem ok_digits_of (T : Txt K mg) : FnOk P w K mg base CX0 3 (He.fAd K ("digits_of", none)) T.fd_digits_of ["width", "message"] (sp_digits_of K) := by
  refine T.digits_of.F.ok sc_digits_of (fun vs H Q E h => ?_) (fun cdv A outer s H vs Q E hr h => ?_)
  · obtain ⟨_, _, ⟨n, m, rfl, _⟩, _⟩ := h
    rfl
  · obtain ⟨G, e0, ⟨w, m, rfl, hw, hw'⟩, q⟩ := h
    have h1 := md_nn hw
    have h2 := md_le hw'
    have h3 := cd_pos w
    have h4 := cd_le hw hw'
    refine ⟨_, PSs.nox (pss_cons (ps_set (i := 2) sc_digits_of.nd rfl (Or.inl rfl) (pe_call (ok_base_digits T) (hr.mono (by decide)) (by rfl) T.base_digits.g T.base_digits.F.kp T.base_digits.b .nil pass0 (pa_cons (pv 1) (pa_cons (pe_call (ok_message_digits T) (hr.mono (by decide)) (by rfl) T.message_digits.g T.message_digits.F.kp T.message_digits.b .nil pass0 (pa_cons (pv 0) pa_nil)) pa_nil))))
  (pss_cons (ps_set (i := 3) sc_digits_of.nd rfl (Or.inl rfl) (pe_callB (kr_sum (K := K)) (by rfl) T.z_sum (by decide +kernel) (pa_cons (pe_lc (own := [("digit", 4)]) rfl sc_digits_of.nd (ki_list (K := K) (pv 2)) (blkOk_by (own := [("digit", 4)]) (N := ["width", "message", "digits", "check", "digit"]) (sc := defScope s_digits_of) (by decide +kernel)) (fun _ _ _ _ _ => pg_name (i := 4) sc_digits_of.nd rfl (Or.inl rfl)) (fun _ _ _ _ _ => pts_nil) (fun _ _ _ _ _ => (pe_op op_sub (pe_glob (v := .int 15) rfl T.c_GREATEST_DIGIT.choose_spec ⟨_, rfl⟩) (pv 4)))) pa_nil)))
  (pss_one (ps_ret (pe_op op_cat (pv 2) (pe_call (ok_base_digits T) (hr.mono (by decide)) (by rfl) T.base_digits.g T.base_digits.F.kp T.base_digits.b .nil pass0 (pa_cons (pv 3) (pa_cons (pe_call (ok_check_digits T) (hr.mono (by decide)) (by rfl) T.check_digits.g T.check_digits.F.kp T.check_digits.b .nil pass0 (pa_cons (pv 0) pa_nil)) pa_nil)))))))), ?_⟩
    refine (show SM (V0 H G) _ _ _ G from ?_) H (J.start e0)
    walk_at "go"
    refine cm_p ⟨w, rfl⟩ fun v G1 e1 hv => ?_
    cases hv w rfl
    walk_at "go"
    refine cm_p ⟨m, md w, rfl, h1, by omega⟩ fun v G2 e2 hv => ?_
    obtain ⟨p, rfl, gp⟩ := hv m (md w) rfl
    walk_at "go"
    refine em_mapL (fun x => match x with | .int d => .int (15 - d) | x => x) ?_
    walk_at "go"
    refine ⟨p, _, rfl, sq_of gp, by rw [List.length_map, digs_len]; omega, fun i x G' U' e hx => ?_, fun D G3 e3 g1 g2 => ?_⟩
    · rw [List.getElem?_map] at hx
      obtain ⟨d, _, rfl⟩ := Option.map_eq_some_iff.mp hx
      walk_at "go"
      refine ⟨rfl, Ex.refl _, ?_⟩
      walk_at "go"
      exact ⟨rfl, Ex.refl _⟩
    · walk_at "go"
      rw [List.map_map] at g2
      refine rm_sum (ns := inv15 (digs m (md w).toNat)) (sq_of (by rw [g2, inv15, List.map_map]; rfl)) ?_
      walk_at "go"
      refine cm_p ⟨w, rfl⟩ fun v G4 e4 hv => ?_
      cases hv w rfl
      walk_at "go"
      refine cm_p ⟨_, cd w, rfl, h3, by omega⟩ fun v G5 e5 hv => ?_
      obtain ⟨p', rfl, gp'⟩ := hv _ (cd w) rfl
      walk_at "go"
      refine rm_cat (e5 _ _ (e4 _ _ (e3 _ _ gp))) gp' ?_ fun r G6 g6 e6 gr => ?_
      · rw [List.length_map, List.length_map, digs_len, digs_len]
        exact Nat.le_trans (show _ ≤ 1000 by omega) (by decide)
      · walk_at "go"
        refine kv_ret q (e1.trans (e2.trans (e3.trans (e4.trans (e5.trans e6))))) fun w' m' e => ?_
        cases e
        exact ⟨r, rfl, by rw [gr, digitsOf, List.map_append]⟩

def cdm (t : Nat) : Nat := if (Builtin.Int.intBits (15 * (t : Int)) + 3) / 4 > 1 then (Builtin.Int.intBits (15 * (t : Int)) + 3) / 4 else 1
theorem cd_cdm {w : Int} {t : Nat} (h : md w = (t : Int)) : cd w = (cdm t : Int) := by
  unfold cd cdm
  rw [h]
  generalize Builtin.Int.intBits (15 * (t : Int)) = b
  split <;> split <;> omega
theorem cdm_tab : ∀ t : Fin 33, 1 ≤ t.val → cdm t.val ≤ 3 ∧ 1 ≤ cdm t.val ∧ ∀ j : Fin 3, (15 * t.val / 2 ^ (4 * j.val) > 15 ↔ j.val + 1 < cdm t.val) := by decide +kernel
theorem shr4 (R : Int) (j : Nat) : R / 2 ^ (4 * j) / 2 ^ (Int.toNat 4) = R / 2 ^ (4 * (j + 1)) := by
  rw [Int.ediv_ediv_of_nonneg (Int.le_of_lt (PySem.W.kbt_pos _)), ← Int.pow_add]
  rfl
theorem digs_succ (R : Int) (j : Nat) : digs R (j + 1) = digs R j ++ [dig R j] := by
  unfold digs; rw [List.range_succ, List.map_append]; rfl
theorem dig_at (R : Int) (j : Nat) : Builtin.bitAnd (R / 2 ^ (4 * j)) 15 = dig R j := by
  unfold dig
  rw [show (4 * (j : Int)).toNat = 4 * j by omega]
def sp__law_digits (K : PySem.W.Frag) : Sp := spP (fun vs _ => ∃ w m : Int, vs = [.int w, .int m] ∧ 4 ≤ w ∧ w ≤ 128) fun vs _ v G' => ∀ w m : Int, vs = [.int w, .int m] → ∃ p, v = .ref p ∧ G' p = some (.lst ((digitsOf w m).map V.int))
theorem ok__law_digits (T : Txt K mg) : FnOk P w K mg base CX0 1 (He.fAd K ("_law_digits", none)) T.fd__law_digits ["width", "message"] (sp__law_digits K) := by
  refine T._law_digits.F.ok sc__law_digits (fun vs H Q E h => ?_) (fun cdv A outer s H vs Q E hr h => ?_)
  · obtain ⟨_, _, ⟨n, m, rfl, _⟩, _⟩ := h
    rfl
  · obtain ⟨G, e0, ⟨w, m, rfl, hw, hw'⟩, q⟩ := h
    obtain ⟨t, ht⟩ := Int.eq_ofNat_of_zero_le (md_nn (w := w) (by omega))
    have ht1 : 1 ≤ t ∧ t ≤ 32 := by unfold md at ht; omega
    obtain ⟨c3, c1, tab⟩ := cdm_tab ⟨t, by omega⟩ ht1.1
    replace c3 : cdm t ≤ 3 := c3
    replace c1 : 1 ≤ cdm t := c1
    replace tab : ∀ j : Fin 3, (15 * t / 2 ^ (4 * j.val) > 15 ↔ j.val + 1 < cdm t) := tab
    have hcd := cd_cdm ht
    have hmd : (w + 3) / 4 = (t : Int) := by rw [← ht, md]; congr 1; omega
    refine ⟨_, PSs.nox (pss_cons (ps_setLc (i := 2) (own := [("k", 6)]) rfl sc__law_digits.nd rfl rfl (sw_true rfl rfl rfl (by decide +kernel)) (pi_range1 rfl T.z_range (pa_cons (pe_op op_fdivW (pe_op op_add (pv 0) pe_int) pe_int) pa_nil)) (blkOk_by (own := [("k", 6)]) (N := ["width", "message", "digits", "rest", "more", "most", "k", "digit"]) (sc := defScope s__law_digits) (by decide +kernel)) (fun _ _ _ _ _ => pg_name (i := 6) sc__law_digits.nd rfl (Or.inl rfl)) (fun _ _ _ _ _ => pts_nil) (fun _ _ _ _ _ => (pe_op op_and (pe_op op_shr (pv 1) (pe_op op_mul pe_int (pv 6))) pe_int)))
  (pss_cons (ps_set (i := 3) sc__law_digits.nd rfl (Or.inl rfl) (pe_callB (kr_sum (K := K)) (by rfl) T.z_sum (by decide +kernel) (pa_cons (pe_lc (own := [("digit", 7)]) rfl sc__law_digits.nd (ki_list (K := K) (pv 2)) (blkOk_by (own := [("digit", 7)]) (N := ["width", "message", "digits", "rest", "more", "most", "k", "digit"]) (sc := defScope s__law_digits) (by decide +kernel)) (fun _ _ _ _ _ => pg_name (i := 7) sc__law_digits.nd rfl (Or.inl rfl)) (fun _ _ _ _ _ => pts_nil) (fun _ _ _ _ _ => (pe_op op_sub pe_int (pv 7)))) pa_nil)))
  (pss_cons (ps_set (i := 4) sc__law_digits.nd rfl (Or.inl rfl) (pe_lst (pa_cons (pe_op op_and (pv 3) pe_int) pa_nil)))
  (pss_cons (ps_set (i := 5) sc__law_digits.nd rfl (Or.inl rfl) (pe_op op_mul pe_int (pe_callB (kq_len (K := K)) (by rfl) T.z_len (by decide +kernel) (pa_cons (pv 2) pa_nil))))
  (pss_cons (ps_while PassesOwn.never (pt_cmpR (op_gt) (pv 5) pe_int (nomark _)) (pss_cons (ps_set (i := 5) sc__law_digits.nd rfl (Or.inl rfl) (pe_op op_shr (pv 5) pe_int))
  (pss_cons (ps_set (i := 3) sc__law_digits.nd rfl (Or.inl rfl) (pe_op op_shr (pv 3) pe_int))
  (pss_one (ps_expr (pe_bm PySem.F.plainAttrs_list PySem.F.slot_list_append PySem.F.type_list_append mt_append (pv 4) (pa_cons (pe_op op_and (pv 3) pe_int) pa_nil)))))))
  (pss_one (ps_ret (pe_op op_cat (pv 2) (pv 4))))))))), ?_⟩
    refine (show SM (V0 H G) _ _ _ G from ?_) H (J.start e0)
    walk_at "go"
    refine em_mapR1 (fun k => V.int (dig m k)) ?_
    walk_at "go"
    refine ⟨(w + 3) / 4, rfl, by omega, by omega, fun x => rfl, fun i G' U' e hi => ?_, fun D G1 e1 g1 g2 => ?_⟩
    · walk_at "go"
      exact ⟨rfl, Ex.refl _⟩
    walk_at "go"
    have gp : G1 D = some (.lst ((digs m t).map V.int)) := by rw [g2, hmd, Int.toNat_natCast, digs, List.map_map]; rfl
    refine em_mapL (fun x => match x with | .int d => .int (15 - d) | x => x) ?_
    walk_at "go"
    refine ⟨D, _, rfl, sq_of gp, by rw [List.length_map, digs_len]; omega, fun i x G' U' e hx => ?_, fun D' G2 e2 g3 g4 => ?_⟩
    · rw [List.getElem?_map] at hx
      obtain ⟨d, _, rfl⟩ := Option.map_eq_some_iff.mp hx
      walk_at "go"
      refine ⟨rfl, Ex.refl _, ?_⟩
      walk_at "go"
      exact ⟨rfl, Ex.refl _⟩
    walk_at "go"
    rw [List.map_map] at g4
    refine rm_sum (ns := inv15 (digs m t)) (sq_of (by rw [g4, inv15, List.map_map]; rfl)) ?_
    generalize hR : (inv15 (digs m t)).sum = R
    walk_at "go"
    refine em_lst ?_
    walk_at "go"
    refine ⟨by show 1 ≤ sizeLine; decide, fun r G3 g5 e3 g6 => ?_⟩
    have gp3 := e3 _ _ (e2 _ _ gp)
    walk_at "go"
    rw [List.length_map, digs_len]
    have hge : (V0 H G).Ge r = none := none_of_ex (e1.trans e2) g5
    have hr0 : dig R 0 = Builtin.bitAnd R 15 := by rw [← dig_at]; simp
    refine sm_while (fun mm σ G' => ∃ (j : Nat) (v6 v7 : Option V), mm = cdm t - j ∧ j + 1 ≤ cdm t ∧ σ = [some (.int w), some (.int m), some (.ref D), some (.int (R / 2 ^ (4 * j))), some (.ref r), some (.int ((15 * (t : Int)) / 2 ^ (4 * j))), v6, v7] ∧ Ex G2 G' ∧ G' r = some (.lst ((digs R (j + 1)).map V.int))) (cdm t) ?_ ?_
    · refine ⟨0, none, none, rfl, c1, ?_, e3, ?_⟩
      · simp; rfl
      · rw [g6, digs_succ, hr0]; rfl
    · rintro mm σ' G' ⟨j, v6, v7, rfl, hj, rfl, e4, g7⟩
      walk_at "go"
      have hjt : (15 * (t : Int) / 2 ^ (4 * j) > 15) ↔ j + 1 < cdm t := by
        have t3 : (15 * t / 2 ^ (4 * j) > 15 ↔ j + 1 < cdm t) := tab ⟨j, by omega⟩
        rw [← t3]
        rw [show (15 * (t : Int) / 2 ^ (4 * j)) = ((15 * t / 2 ^ (4 * j) : Nat) : Int) by
          rw [Int.natCast_ediv, PySem.W.kbt_cast]; rfl]
        constructor <;> intro h <;> omega
      refine ifd (fun hm => ?_) (fun hm => ?_)
      · have hj2 := hjt.mp hm
        walk_at "go"
        rw [shr4, shr4]
        refine em_append (l := r) (xs := (digs R (j + 1)).map V.int) ?_
        walk_at "go"
        refine ⟨rfl, g7, ?_⟩
        walk_at "go"
        refine ⟨g7, hge, ?_, ?_⟩
        · rw [List.length_map, digs_len]
          exact Nat.lt_of_lt_of_le (show j + 1 < 1000 by omega) (by decide)
        · refine km_kj ?_
          refine ⟨cdm t - (j + 1), by omega, j + 1, _, _, rfl, hj2, rfl, Ex.mut e4 g5, ?_⟩
          rw [upd_same, digs_succ R (j + 1), List.map_append, ← dig_at R (j + 1)]
          rfl
      · have hj2 : j + 1 = cdm t := by
          have := mt hjt.mpr hm
          omega
        walk_at "go"
        refine rm_cat (e4 _ _ (e2 _ _ gp)) g7 ?_ fun s G5 g8 e5 g9 => ?_
        · rw [List.length_map, List.length_map, digs_len, digs_len]
          exact Nat.le_trans (show _ ≤ 1000 by omega) (by decide)
        · walk_at "go"
          refine kv_ret q (e1.trans (e2.trans (e4.trans e5))) fun w' m' e => ?_
          cases e
          refine ⟨s, rfl, ?_⟩
          rw [g9, digitsOf, ht, hcd, Int.toNat_natCast, Int.toNat_natCast, hR, hj2, List.map_append]
/-! ### two messages -/
theorem dig_nat (n k : Nat) : dig (n : Int) k = ((n / 16 ^ k % 16 : Nat) : Int) := by
  unfold dig
  rw [show (4 * (k : Int)).toNat = 4 * k by omega]
  have e : (15 : Int) = 2 ^ 4 - 1 := by decide
  rw [e, PySem.W.kbt_mask]
  rw [show (2 : Int) ^ (4 * k) = ((16 ^ k : Nat) : Int) by rw [← PySem.W.kbt_cast, Nat.pow_mul], show (2 : Int) ^ 4 = ((16 : Nat) : Int) by decide, ← Int.natCast_ediv, ← Int.natCast_emod]
/-- the digits of a number below 16 ^ m tell it -/
theorem digs_val : ∀ (m n : Nat), n < 16 ^ m → n = ((List.range m).map fun k => n / 16 ^ k % 16 * 16 ^ k).sum
  | 0, n, h => by
    simp at h
    simp [h]
  | m + 1, n, h => by
    rw [List.range_succ, List.map_append, List.sum_append]
    have hp : 0 < 16 ^ m := Nat.pow_pos (by decide)
    have h1 : n % 16 ^ m < 16 ^ m := Nat.mod_lt _ hp
    have ih := digs_val m (n % 16 ^ m) h1
    have e : ((List.range m).map fun k => n / 16 ^ k % 16 * 16 ^ k) = ((List.range m).map fun k => n % 16 ^ m / 16 ^ k % 16 * 16 ^ k) := by
      refine List.map_congr_left fun k hk => ?_
      have hk' : k < m := List.mem_range.mp hk
      congr 1
      have e2 : 16 ^ m = 16 ^ k * (16 * 16 ^ (m - k - 1)) := by
        have e3 : m = k + (m - k - 1 + 1) := by omega
        have e4 : 16 ^ (k + (m - k - 1 + 1)) = 16 ^ k * (16 * 16 ^ (m - k - 1)) := by rw [Nat.pow_add, Nat.pow_succ, Nat.mul_comm 16]
        rw [← e4, ← e3]
      rw [e2, Nat.mod_mul_right_div_self, Nat.mod_mul_right_mod]
    rw [e, ← ih]
    simp
    have h2 : n / 16 ^ m < 16 := Nat.div_lt_of_lt_mul h
    rw [Nat.mod_eq_of_lt h2, Nat.mul_comm]
    first | exact (Nat.mod_add_div n (16 ^ m)).symm | (have := Nat.mod_add_div n (16 ^ m); omega)
theorem sum_le {m : Nat} {f g : Nat → Nat} : (∀ k, k < m → f k ≤ g k) → ((List.range m).map f).sum ≤ ((List.range m).map g).sum := by
  induction m with
  | zero => intro _; simp
  | succ m ih =>
    intro h
    rw [List.range_succ, List.map_append, List.map_append, List.sum_append, List.sum_append]
    have a := ih fun k hk => h k (by omega)
    have b := h m (by omega)
    simp
    omega
theorem sum_lt {m : Nat} {f g : Nat → Nat} : (∀ k, k < m → f k ≤ g k) → (∃ k, k < m ∧ f k < g k) → ((List.range m).map f).sum < ((List.range m).map g).sum := by
  induction m with
  | zero => rintro _ ⟨k, h, _⟩; omega
  | succ m ih =>
    rintro h ⟨k, hk, hl⟩
    rw [List.range_succ, List.map_append, List.map_append, List.sum_append, List.sum_append]
    have b := h m (by omega)
    simp
    by_cases z : k = m
    · subst z
      have a := sum_le (m := k) fun k hk => h k (by omega)
      omega
    · have a := ih (fun k hk => h k (by omega)) ⟨k, by omega, hl⟩
      omega
/-- if no digit of a is less than b's, a is no less than b -/
theorem digs_ge {m a b : Nat} (ha : a < 16 ^ m) (hb : b < 16 ^ m) (h : ∀ k, k < m → b / 16 ^ k % 16 ≤ a / 16 ^ k % 16) : b ≤ a := by
  rw [digs_val m a ha, digs_val m b hb]
  exact sum_le fun k hk => Nat.mul_le_mul_right _ (h k hk)
theorem digs_less {m a b : Nat} (ha : a < 16 ^ m) (hb : b < 16 ^ m) (h : a < b) : ∃ k, k < m ∧ a / 16 ^ k % 16 < b / 16 ^ k % 16 := by
  refine Classical.byContradiction fun z => ?_
  have := digs_ge ha hb fun k hk => Nat.le_of_not_lt fun q => z ⟨k, hk, q⟩
  omega
def ck (a t : Nat) : Nat := ((List.range t).map fun k => 15 - a / 16 ^ k % 16).sum
theorem inv15_sum (a : Nat) : ∀ t : Nat, (inv15 (digs (a : Int) t)).sum = (ck a t : Int)
  | 0 => rfl
  | t + 1 => by
    have ih := inv15_sum a t
    unfold inv15 at ih ⊢
    rw [digs_succ, List.map_append, List.sum_append, ih, ck, ck, List.range_succ, List.map_append, List.sum_append, dig_nat]
    have hx : a / 16 ^ t % 16 < 16 := Nat.mod_lt _ (by decide)
    generalize ((List.range t).map fun k => 15 - a / 16 ^ k % 16).sum = S
    show (S : Int) + [15 - ((a / 16 ^ t % 16 : Nat) : Int)].sum = ((S + [15 - a / 16 ^ t % 16].sum : Nat) : Int)
    generalize a / 16 ^ t % 16 = x at hx ⊢
    simp only [List.sum_cons, List.sum_nil]
    omega
theorem ck_le (a : Nat) : ∀ t : Nat, ck a t ≤ 15 * t
  | 0 => by simp [ck]
  | t + 1 => by
    have ih := ck_le a t
    unfold ck at ih ⊢
    rw [List.range_succ, List.map_append, List.sum_append]
    simp
    omega
theorem cdm_tab2 : ∀ t : Fin 33, 15 * t.val < 16 ^ cdm t.val := by decide +kernel
theorem digs_at {n k m : Nat} (h : k < m) : (digs (n : Int) m)[k]? = some ((n / 16 ^ k % 16 : Nat) : Int) := by
  unfold digs
  rw [List.getElem?_map, List.getElem?_range h]
  show some (dig n k) = _
  rw [dig_nat]
/-- each of both messages has a digit that is less than that of the other one -/
theorem less_of {w : Int} {a b : Nat} (h4 : 4 ≤ w) (h128 : w ≤ 128) (ha : a < 2 ^ w.toNat) (hb : b < 2 ^ w.toNat) (ne : a ≠ b) : ∃ (i : Nat) (x y : Int), (digitsOf w a)[i]? = some x ∧ (digitsOf w b)[i]? = some y ∧ x < y := by
  obtain ⟨t, ht⟩ := Int.eq_ofNat_of_zero_le (md_nn (w := w) (by omega))
  have ht1 : 1 ≤ t ∧ t ≤ 32 ∧ w.toNat ≤ 4 * t := by unfold md at ht; omega
  have hcd := cd_cdm ht
  have tab : 15 * t < 16 ^ cdm t := cdm_tab2 ⟨t, by omega⟩
  have hp : 2 ^ w.toNat ≤ 16 ^ t := by
    rw [show 16 ^ t = 2 ^ (4 * t) by rw [Nat.pow_mul]]
    exact Nat.pow_le_pow_right (by decide) ht1.2.2
  have ha' := Nat.lt_of_lt_of_le ha hp
  have hb' := Nat.lt_of_lt_of_le hb hp
  have eA : ∀ n : Nat, digitsOf w n = digs n t ++ digs (ck n t : Nat) (cdm t) := fun n => by
    unfold digitsOf
    rw [ht, hcd, Int.toNat_natCast, Int.toNat_natCast, inv15_sum]
  rw [eA, eA]
  by_cases z : ∃ k, k < t ∧ a / 16 ^ k % 16 < b / 16 ^ k % 16
  · obtain ⟨k, hk, hl⟩ := z
    refine ⟨k, _, _, ?_, ?_, Int.ofNat_lt.mpr hl⟩
    · rw [List.getElem?_append_left (by rw [digs_len]; exact hk)]; exact digs_at hk
    · rw [List.getElem?_append_left (by rw [digs_len]; exact hk)]; exact digs_at hk
  · have hle : ∀ k, k < t → b / 16 ^ k % 16 ≤ a / 16 ^ k % 16 := fun k hk => Nat.le_of_not_lt fun q => z ⟨k, hk, q⟩
    have hba := digs_ge ha' hb' hle
    obtain ⟨k0, hk0, hl0⟩ := digs_less hb' ha' (by omega)
    have hck : ck a t < ck b t := by
      unfold ck
      refine sum_lt (fun k hk => ?_) ⟨k0, hk0, ?_⟩
      · have := hle k hk; omega
      · have : a / 16 ^ k0 % 16 < 16 := Nat.mod_lt _ (by decide)
        omega
    obtain ⟨k, hk, hl⟩ := digs_less (Nat.lt_of_le_of_lt (ck_le a t) tab) (Nat.lt_of_le_of_lt (ck_le b t) tab) hck
    refine ⟨t + k, _, _, ?_, ?_, Int.ofNat_lt.mpr hl⟩
    · rw [List.getElem?_append_right (by rw [digs_len]; omega), digs_len, Nat.add_sub_cancel_left]; exact digs_at hk
    · rw [List.getElem?_append_right (by rw [digs_len]; omega), digs_len, Nat.add_sub_cancel_left]; exact digs_at hk
theorem digitsOf_len (w : Int) (m n : Int) : (digitsOf w m).length = (digitsOf w n).length := by
  unfold digitsOf
  rw [List.length_append, List.length_append, digs_len, digs_len, digs_len, digs_len]
theorem digitsOf_le {w : Int} (h0 : 0 ≤ w) (h : w ≤ 400) (m : Int) : (digitsOf w m).length ≤ 105 := by
  have h1 := md_nn h0
  have h2 := md_le h
  have h3 := cd_pos w
  have h4 := cd_le h0 h
  unfold digitsOf
  rw [List.length_append, digs_len, digs_len]
  omega
theorem given_pos {n i : Nat} {f : Nat → Bool} {v : Nat → V} (hi : i < n) (h : f i = true) : 0 < (given n f v).length := by
  unfold given
  rw [List.length_map]
  exact List.length_pos_of_mem (List.mem_filter.mpr ⟨List.mem_range.mpr hi, h⟩)
def sp_law (K : PySem.W.Frag) : Sp := fun vs H Q _ => ∃ (a : Addr) (ns : List Int), vs = [.ref a] ∧ SqL K H a (ns.map V.int) ∧ ns.length ≤ 63 ∧ ∀ H', Q (.bl true) H'
theorem law_starts (K : PySem.W.Frag) (H : Hp) (a : Addr) (ns : List Int) (hl : ns.length ≤ 63) (hS : SqL K H a (ns.map V.int)) : sp_law K [.ref a] H (fun v _ => v = .bl true) fun _ _ _ => False := ⟨a, ns, rfl, hS, hl, fun _ => rfl⟩
theorem ok_law (T : Txt K mg) : FnOk P w K mg base CX0 4 (He.fAd K ("law", none)) T.fd_law ["script"] (sp_law K) := by
  refine T.law.F.ok sc_law (fun vs H Q E h => ?_) (fun cdv A outer s H vs Q E hr h => ?_)
  · obtain ⟨a, ns, rfl, _⟩ := h
    rfl
  · obtain ⟨sc, ns, rfl, hS, hlen, q⟩ := h
    refine ⟨_, PSs.nox (pss_cons (ps_set (i := 1) sc_law.nd rfl (Or.inl rfl) (pe_lst (pa_cons pe_int (pa_cons pe_int pa_nil))))
  (pss_cons (ps_set (i := 2) sc_law.nd rfl (Or.inl rfl) (pe_ix (kx_list (K := K)) (pe_lst (pa_cons pe_int (pa_cons pe_int (pa_cons pe_int (pa_cons pe_int (pa_cons pe_int (pa_cons (pe_op op_add pe_int (pe_call (ok__law_draw T) (hr.mono (by decide)) (by rfl) T._law_draw.g T._law_draw.F.kp T._law_draw.b .nil pass0 (pa_cons (pv 1) (pa_cons (pv 0) (pa_cons pe_int pa_nil))))) pa_nil))))))) (pe_call (ok__law_draw T) (hr.mono (by decide)) (by rfl) T._law_draw.g T._law_draw.F.kp T._law_draw.b .nil pass0 (pa_cons (pv 1) (pa_cons (pv 0) (pa_cons pe_int pa_nil)))) (fun _ _ => rfl)))
  (pss_cons (ps_set (i := 3) sc_law.nd rfl (Or.inl rfl) (pe_ix (kx_list (K := K)) (pe_lst (pa_cons pe_int (pa_cons (pe_op op_sub (pe_op op_shl pe_int (pv 2)) pe_int) (pa_cons (pe_call (ok__law_draw T) (hr.mono (by decide)) (by rfl) T._law_draw.g T._law_draw.F.kp T._law_draw.b .nil pass0 (pa_cons (pv 1) (pa_cons (pv 0) (pa_cons (pe_op op_shl pe_int (pv 2)) pa_nil)))) pa_nil)))) (pe_call (ok__law_draw T) (hr.mono (by decide)) (by rfl) T._law_draw.g T._law_draw.F.kp T._law_draw.b .nil pass0 (pa_cons (pv 1) (pa_cons (pv 0) (pa_cons pe_int pa_nil)))) (fun _ _ => rfl)))
  (pss_cons (ps_set (i := 4) sc_law.nd rfl (Or.inl rfl) (pe_op op_xor (pv 3) (pe_ix (kx_list (K := K)) (pe_lst (pa_cons (pe_op op_shl pe_int (pe_call (ok__law_draw T) (hr.mono (by decide)) (by rfl) T._law_draw.g T._law_draw.F.kp T._law_draw.b .nil pass0 (pa_cons (pv 1) (pa_cons (pv 0) (pa_cons (pv 2) pa_nil))))) (pa_cons (pe_op op_add pe_int (pe_call (ok__law_draw T) (hr.mono (by decide)) (by rfl) T._law_draw.g T._law_draw.F.kp T._law_draw.b .nil pass0 (pa_cons (pv 1) (pa_cons (pv 0) (pa_cons (pe_op op_sub (pe_op op_shl pe_int (pv 2)) pe_int) pa_nil))))) pa_nil))) (pe_call (ok__law_draw T) (hr.mono (by decide)) (by rfl) T._law_draw.g T._law_draw.F.kp T._law_draw.b .nil pass0 (pa_cons (pv 1) (pa_cons (pv 0) (pa_cons pe_int pa_nil)))) (fun _ _ => rfl))))
  (pss_cons (ps_set (i := 5) sc_law.nd rfl (Or.inr rfl) (pe_call (ok_digits_of T) (hr.mono (by decide)) (by rfl) T.digits_of.g T.digits_of.F.kp T.digits_of.b .nil pass0 (pa_cons (pv 2) (pa_cons (pv 3) pa_nil))))
  (pss_cons (ps_set (i := 6) sc_law.nd rfl (Or.inr rfl) (pe_call (ok_digits_of T) (hr.mono (by decide)) (by rfl) T.digits_of.g T.digits_of.F.kp T.digits_of.b .nil pass0 (pa_cons (pv 2) (pa_cons (pv 4) pa_nil))))
  (pss_cons (ps_if (PW.pt (pw_or (pt_cmpR (kp_neD (K := K) hr.units) (pv 5) (pe_call (ok__law_digits T) (hr.mono (by decide)) (by rfl) T._law_digits.g T._law_digits.F.kp T._law_digits.b .nil pass0 (pa_cons (pv 2) (pa_cons (pv 3) pa_nil))) (nomark _)) (pw_or (pt_cmpR (kp_neD (K := K) hr.units) (pv 6) (pe_call (ok__law_digits T) (hr.mono (by decide)) (by rfl) T._law_digits.g T._law_digits.F.kp T._law_digits.b .nil pass0 (pa_cons (pv 2) (pa_cons (pv 4) pa_nil))) (nomark _)) (pw_or1 (pt_cmpR (op_ne) (pe_callB (kq_len (K := K)) (by rfl) T.z_len (by decide +kernel) (pa_cons (pv 5) pa_nil)) (pe_callB (kq_len (K := K)) (by rfl) T.z_len (by decide +kernel) (pa_cons (pv 6) pa_nil)) (nomark _)))))) (pss_one (ps_ret pe_bl)) pss_nil)
  (pss_cons (ps_setLc (i := 7) (own := [("k", 9)]) rfl sc_law.nd rfl rfl (sw_true rfl rfl rfl (by decide +kernel)) (pi_range1 rfl T.z_range (pa_cons (pe_callB (kq_len (K := K)) (by rfl) T.z_len (by decide +kernel) (pa_cons (pv 5) pa_nil)) pa_nil)) (blkOk_by (own := [("k", 9)]) (N := ["script", "state", "width", "first", "second", "one", "other", "less", "more", "k"]) (sc := defScope s_law) (by decide +kernel)) (fun _ _ _ _ _ => pg_name (i := 9) sc_law.nd rfl (Or.inl rfl)) (fun _ _ _ _ _ => (pts_one (pt_cmpR (op_lt) (pe_ix (kx_list (K := K)) (pv 5) (pv 9) (fun _ _ => rfl)) (pe_ix (kx_list (K := K)) (pv 6) (pv 9) (fun _ _ => rfl)) (nomark _)))) (fun _ _ _ _ _ => (pv 9)))
  (pss_cons (ps_setLc (i := 8) (own := [("k", 9)]) rfl sc_law.nd rfl rfl (sw_true rfl rfl rfl (by decide +kernel)) (pi_range1 rfl T.z_range (pa_cons (pe_callB (kq_len (K := K)) (by rfl) T.z_len (by decide +kernel) (pa_cons (pv 5) pa_nil)) pa_nil)) (blkOk_by (own := [("k", 9)]) (N := ["script", "state", "width", "first", "second", "one", "other", "less", "more", "k"]) (sc := defScope s_law) (by decide +kernel)) (fun _ _ _ _ _ => pg_name (i := 9) sc_law.nd rfl (Or.inl rfl)) (fun _ _ _ _ _ => (pts_one (pt_cmpR (op_gt) (pe_ix (kx_list (K := K)) (pv 5) (pv 9) (fun _ _ => rfl)) (pe_ix (kx_list (K := K)) (pv 6) (pv 9) (fun _ _ => rfl)) (nomark _)))) (fun _ _ _ _ _ => (pv 9)))
  (pss_one (ps_ret (pe_and (pe_cmpR (op_gt) (pe_callB (kq_len (K := K)) (by rfl) T.z_len (by decide +kernel) (pa_cons (pv 7) pa_nil)) pe_int (nomark _)) (pe_one (pe_cmpR (op_gt) (pe_callB (kq_len (K := K)) (by rfl) T.z_len (by decide +kernel) (pa_cons (pv 8) pa_nil)) pe_int (nomark _))))))))))))))), ?_⟩
    refine (show SM (V0 H H) _ _ _ H from ?_) H (J.start (Ex.refl H))
    walk_at "go"
    refine em_lst ?_
    walk_at "go"
    refine ⟨by show 2 ≤ sizeLine; decide, fun st G1 gs e1 gst => ?_⟩
    refine gm_name (km_next (sm_draws gst gs fun G2 k2 hs g2 => ?_))
    have e2 : Ex H G2 := same_of gs e1 k2
    have hS2 : SqL K G2 sc (ns.map V.int) := ex_l e2 hS
    have dk : DrawOk (V1 H H st) st := V1.draw gs
    -- width
    walk_at "go"
    refine em_lst ?_
    walk_at "go"
    refine cm_draw dk hS2 (by decide) (by decide) fun d1 d10 d11 => ?_
    walk_at "go"
    refine ⟨by show 6 ≤ sizeLine; decide, fun l1 G3 _ e3 gl1 => ?_⟩
    walk_at "go"
    refine cm_draw dk (ex_l e3 hS2) (by decide) (by decide) fun d2 d20 d21 => ?_
    refine rm_ixM (sq_of gl1) d20 d21 fun v hv => ?_
    obtain ⟨w, rfl, w4, w128⟩ : ∃ w, v = .int w ∧ 4 ≤ w ∧ w ≤ 128 := by
      simp only [List.mem_cons, List.not_mem_nil, or_false] at hv
      rcases hv with rfl | rfl | rfl | rfl | rfl | rfl <;> exact ⟨_, rfl, by omega, by omega⟩
    have e23 := e2.trans e3
    have hS3 := ex_l e3 hS2
    obtain ⟨p0, p1⟩ := sz_pow (w := w) (by omega) (by omega)
    -- first
    walk_at "go"
    refine em_lst ?_
    walk_at "go"
    refine cm_draw dk hS3 p0 p1 fun d3 d30 d31 => ?_
    walk_at "go"
    refine ⟨by show 3 ≤ sizeLine; decide, fun l2 G4 _ e4 gl2 => ?_⟩
    have hS4 := ex_l e4 hS3
    walk_at "go"
    refine cm_draw dk hS4 (by decide) (by decide) fun d4 d40 d41 => ?_
    refine rm_ixM (sq_of gl2) d40 d41 fun v hv => ?_
    rw [Int.one_mul] at p0 p1 d31 hv
    obtain ⟨a, rfl, ha⟩ : ∃ a : Nat, v = .int (a : Int) ∧ (a : Int) < 2 ^ w.toNat := by
      obtain ⟨x, rfl, x0, x1⟩ : ∃ x, v = .int x ∧ 0 ≤ x ∧ x < 2 ^ w.toNat := by
        simp only [List.mem_cons, List.not_mem_nil, or_false] at hv
        rcases hv with rfl | rfl | rfl <;> exact ⟨_, rfl, by omega, by omega⟩
      obtain ⟨a, rfl⟩ := Int.eq_ofNat_of_zero_le x0
      exact ⟨a, rfl, x1⟩
    -- second
    have m2 : (16 : Int) ≤ 2 ^ w.toNat := by
      have := Nat.pow_le_pow_right (show 0 < 2 by decide) (show 4 ≤ w.toNat by omega)
      rw [← PySem.W.kbt_cast]
      exact Int.ofNat_le.mpr this
    walk_at "go"
    refine em_lst ?_
    walk_at "go"
    refine cm_draw dk hS4 (by omega) (sz_small (by omega) (by exact Int.lt_trans (show w < 2 ^ 8 by omega) (by rw [← PySem.W.kbt_cast, ← PySem.W.kbt_cast]; exact Int.ofNat_lt.mpr (Nat.pow_lt_pow_right (by decide) (by decide))))) fun d5 d50 d51 => ?_
    walk_at "go"
    refine cm_draw dk hS4 (by rw [Int.one_mul]; omega) ?_ fun d6 d60 d61 => ?_
    · refine sz_small (by rw [Int.one_mul]; omega) ?_
      have := Nat.pow_le_pow_right (show 0 < 2 by decide) (show w.toNat ≤ 8999 by omega)
      have h2 : (2 : Int) ^ w.toNat ≤ 2 ^ 8999 := by
        rw [← PySem.W.kbt_cast, ← PySem.W.kbt_cast]
        exact Int.ofNat_le.mpr this
      rw [Int.one_mul]
      omega
    walk_at "go"
    refine ⟨by show 2 ≤ sizeLine; decide, fun l3 G5 _ e5 gl3 => ?_⟩
    have hS5 := ex_l e5 hS4
    walk_at "go"
    refine cm_draw dk hS5 (by decide) (by decide) fun d7 d70 d71 => ?_
    refine rm_ixM (sq_of gl3) d70 d71 fun v hv => ?_
    rw [Int.one_mul] at d61 hv
    obtain ⟨y, rfl, y0, hy⟩ : ∃ y : Nat, v = .int (y : Int) ∧ 0 < y ∧ (y : Int) < 2 ^ w.toNat := by
      have m3 : (2 : Int) ^ d5.toNat < 2 ^ w.toNat := by
        rw [← PySem.W.kbt_cast, ← PySem.W.kbt_cast]
        exact Int.ofNat_lt.mpr (Nat.pow_lt_pow_right (by decide) (by omega))
      have m4 : (0 : Int) < 2 ^ d5.toNat := PySem.W.kbt_pos _
      obtain ⟨x, rfl, x0, x1⟩ : ∃ x, v = .int x ∧ 1 ≤ x ∧ x < 2 ^ w.toNat := by
        simp only [List.mem_cons, List.not_mem_nil, or_false] at hv
        rcases hv with rfl | rfl <;> exact ⟨_, rfl, by omega, by omega⟩
      obtain ⟨a, rfl⟩ := Int.eq_ofNat_of_zero_le (show 0 ≤ x by omega)
      exact ⟨a, rfl, by omega, x1⟩
    walk_at "go"
    rw [Bits.bitXor_pp (Int.natCast_nonneg a) (Int.natCast_nonneg y), Int.toNat_natCast, Int.toNat_natCast]
    have ha' := nat_lt_pow ha
    have hy' := nat_lt_pow hy
    have hb' : a ^^^ y < 2 ^ w.toNat := Nat.xor_lt_two_pow ha' hy'
    have hne : a ≠ a ^^^ y := fun z => by
      have z2 : a ^^^ a = a ^^^ (a ^^^ y) := congrArg (a ^^^ ·) z
      rw [← Nat.xor_assoc, Nat.xor_self, Nat.zero_xor] at z2
      omega
    generalize a ^^^ y = b at hb' hne ⊢
    have e25 := (e23.trans e4).trans e5
    -- one, other
    walk_at "go"
    refine cm_p ⟨w, a, rfl, by omega, by omega⟩ fun v G6 e6 hv => ?_
    obtain ⟨p, rfl, gp⟩ := hv w a rfl
    walk_at "go"
    refine cm_p ⟨w, b, rfl, by omega, by omega⟩ fun v G7 e7 hv => ?_
    obtain ⟨r, rfl, gr⟩ := hv w b rfl
    walk_at "go"
    refine cm_p ⟨w, a, rfl, w4, w128⟩ fun v G8 e8 hv => ?_
    obtain ⟨p', rfl, gp'⟩ := hv w a rfl
    refine rm_neL (sq_of (e8 _ _ (e7 _ _ gp))) (sq_of gp') ?_
    walk_at "go"
    refine ifnF rfl ?_
    walk_at "go"
    refine cm_p ⟨w, b, rfl, w4, w128⟩ fun v G9 e9 hv => ?_
    obtain ⟨r', rfl, gr'⟩ := hv w b rfl
    refine rm_neL (sq_of (e9 _ _ (e8 _ _ gr))) (sq_of gr') ?_
    walk_at "go"
    refine ifnF rfl ?_
    have gp9 := e9 _ _ (e8 _ _ (e7 _ _ gp))
    have gr9 := e9 _ _ (e8 _ _ gr)
    have hlen : (digitsOf w b).length = (digitsOf w a).length := digitsOf_len w b a
    have hle := digitsOf_le (w := w) (by omega) (by omega) a
    walk_at "go"
    rw [List.length_map, List.length_map, hlen]
    walk_at "go"
    refine ifnF rfl ?_
    refine sm_next ?_
    -- less, more
    obtain ⟨i1, x1, y1, hi1, hj1, hl1⟩ := less_of w4 w128 ha' hb' hne
    obtain ⟨i2, x2, y2, hi2, hj2, hl2⟩ := less_of w4 w128 hb' ha' hne.symm
    have gA : ∀ i x, (digitsOf w a)[i]? = some x → ((digitsOf w a).map V.int)[i]? = some (V.int x) := fun i x h => by rw [List.getElem?_map, h]; rfl
    have gB : ∀ i x, (digitsOf w b)[i]? = some x → ((digitsOf w b).map V.int)[i]? = some (V.int x) := fun i x h => by rw [List.getElem?_map, h]; rfl
    have iA : ∀ i, i < (digitsOf w a).length → (digitsOf w a)[i]? = some ((digitsOf w a).getD i 0) := fun i h => by rw [List.getD_eq_getElem?_getD, List.getElem?_eq_getElem h]; rfl
    have iB : ∀ i, i < (digitsOf w a).length → (digitsOf w b)[i]? = some ((digitsOf w b).getD i 0) := fun i h => by rw [List.getD_eq_getElem?_getD, List.getElem?_eq_getElem (hlen ▸ h)]; rfl
    walk_at "go"
    refine em_filtR1 (fun i => decide ((digitsOf w a).getD i 0 < (digitsOf w b).getD i 0)) (fun i => V.int (i : Int)) ?_
    walk_at "go"
    rw [List.length_map]
    refine ⟨_, rfl, by omega, by omega, fun _ => rfl, fun i G' U' e hi => ?_, fun D1 G10 e10 g10 gd1 => ?_⟩
    · have gp' := e _ _ gp9
      have gr' := e _ _ gr9
      walk_at "go"
      refine rm_ixL (sq_of gp') (atI_nat (gA _ _ (iA i (by omega)))) ?_
      walk_at "go"
      refine rm_ixL (sq_of gr') (atI_nat (gB _ _ (iB i (by omega)))) ?_
      walk_at "go"
      refine ⟨rfl, Ex.refl _, fun _ => ?_⟩
      walk_at "go"
      exact ⟨rfl, Ex.refl _⟩
    have gp10 := e10 _ _ gp9
    have gr10 := e10 _ _ gr9
    walk_at "go"
    refine em_filtR1 (fun i => decide ((digitsOf w b).getD i 0 < (digitsOf w a).getD i 0)) (fun i => V.int (i : Int)) ?_
    walk_at "go"
    rw [List.length_map]
    refine ⟨_, rfl, by omega, by omega, fun _ => rfl, fun i G' U' e hi => ?_, fun D2 G11 e11 g11 gd2 => ?_⟩
    · have gp' := e _ _ gp10
      have gr' := e _ _ gr10
      walk_at "go"
      refine rm_ixL (sq_of gp') (atI_nat (gA _ _ (iA i (by omega)))) ?_
      walk_at "go"
      refine rm_ixL (sq_of gr') (atI_nat (gB _ _ (iB i (by omega)))) ?_
      walk_at "go"
      refine ⟨rfl, Ex.refl _, fun _ => ?_⟩
      walk_at "go"
      exact ⟨rfl, Ex.refl _⟩
    have gd11 := e11 _ _ gd1
    have k1 : i1 < (digitsOf w a).length := (List.getElem?_eq_some_iff.mp hi1).1
    have k2 : i2 < (digitsOf w a).length := (List.getElem?_eq_some_iff.mp hj2).1
    have c1 : (digitsOf w a).getD i1 0 < (digitsOf w b).getD i1 0 := by
      rw [List.getD_eq_getElem?_getD, List.getD_eq_getElem?_getD, hi1, hj1]; exact hl1
    have c2 : (digitsOf w b).getD i2 0 < (digitsOf w a).getD i2 0 := by
      rw [List.getD_eq_getElem?_getD, List.getD_eq_getElem?_getD, hi2, hj2]; exact hl2
    have n1 := given_pos (n := (digitsOf w a).length) (f := fun i => decide ((digitsOf w a).getD i 0 < (digitsOf w b).getD i 0)) (v := fun i => V.int (i : Int)) k1 (decide_eq_true c1)
    have n2 := given_pos (n := (digitsOf w a).length) (f := fun i => decide ((digitsOf w b).getD i 0 < (digitsOf w a).getD i 0)) (v := fun i => V.int (i : Int)) k2 (decide_eq_true c2)
    rw [Int.toNat_natCast] at gd11 gd2
    walk_at "go"
    refine ifdT (by omega) ?_
    walk_at "go"
    rw [decide_eq_true (show (0 : Int) < _ by omega)]
    exact fun H' _ => q H'

end
def dd_digits_of : He.DefD := ⟨("digits_of", none), "digits_of", "digits_of", defArgs s_digits_of, defBody s_digits_of, defScope s_digits_of, [], []⟩
def dd_base_digits : He.DefD := ⟨("base_digits", none), "base_digits", "base_digits", defArgs s_base_digits, defBody s_base_digits, defScope s_base_digits, [], []⟩
def dd_message_digits : He.DefD := ⟨("message_digits", none), "message_digits", "message_digits", defArgs s_message_digits, defBody s_message_digits, defScope s_message_digits, [], []⟩
def dd_check_digits : He.DefD := ⟨("check_digits", none), "check_digits", "check_digits", defArgs s_check_digits, defBody s_check_digits, defScope s_check_digits, [], []⟩
def dd__law_draw : He.DefD := ⟨("_law_draw", none), "_law_draw", "_law_draw", defArgs s__law_draw, defBody s__law_draw, defScope s__law_draw, [], []⟩
def dd__law_digits : He.DefD := ⟨("_law_digits", none), "_law_digits", "_law_digits", defArgs s__law_digits, defBody s__law_digits, defScope s__law_digits, [], []⟩
def dd_law : He.DefD := ⟨("law", none), "law", "law", defArgs s_law, defBody s_law, defScope s_law, [], []⟩
def fn : List He.DefD := [dd_digits_of, dd_base_digits, dd_message_digits, dd_check_digits, dd__law_draw, dd__law_digits, dd_law]
def fa : List He.Fa := [.glo "digits_of", .glo "base_digits", .glo "message_digits", .glo "check_digits", .glo "_law_draw", .glo "_law_digits", .glo "law", .free "int", .free "len", .free "max", .free "range", .free "sum", .int "DIGIT_BITS" 4, .int "GREATEST_DIGIT" 15]
abbrev R : PySem.W.OpenRow := PySem.W.OpenLaw.row PySem.Challenge.rw_offing_k10_digits_of_messages
abbrev hk : PySem.W.Hook := He.hookD 5 fa fn
def ob (s : PySem.W.SharedT) : He.AlD := He.obsDG 5 fa fn (HandSHeadRun.getT s)
theorem ob_eq (s : PySem.W.SharedT) : ob s = hk.obs s.abs := He.obsDG_eq (HandSHeadRun.getT_eq s)
theorem run (w : World) : HandSHeadRun.RunEq R (PySem.W.view R.prog [10]) hk ob 2000 ["DIGIT_BITS", "GREATEST_DIGIT", "digits_of", "base_digits", "message_digits", "check_digits", "_law_draw", "_law_digits"] w := by
  intro os
  kernel_rfl
theorem facts {P : Program} {w : World} {K : PySem.W.Frag} {h : Heap} {mg : Str → Option Value} {f : Addr} (X : K.In h) (G : h.Ns mainGlobals mg) (hfa : mg ("law" : Str) = some (.ref f)) (c : He.SaysD fa fn K) :
    ∃ fd : FuncData, (∀ (s : Shared) (v : Value), BindsTo s fd ⟨[v], []⟩ [("script", v)]) ∧ ∀ base : Heap, K.In base → base.Ns mainGlobals mg → FnOk P w K mg base CX0 4 f fd ["script"] (sp_law K) := by
  obtain ⟨fd0, F0⟩ := c.def_ 0 (d := dd_digits_of) rfl
  obtain ⟨fd1, F1⟩ := c.def_ 1 (d := dd_base_digits) rfl
  obtain ⟨fd2, F2⟩ := c.def_ 2 (d := dd_message_digits) rfl
  obtain ⟨fd3, F3⟩ := c.def_ 3 (d := dd_check_digits) rfl
  obtain ⟨fd4, F4⟩ := c.def_ 4 (d := dd__law_draw) rfl
  obtain ⟨fd5, F5⟩ := c.def_ 5 (d := dd__law_digits) rfl
  obtain ⟨fd6, F6⟩ := c.def_ 6 (d := dd_law) rfl
  let T : Txt K mg := {
    fd_digits_of := fd0,
    digits_of := ⟨F0, He.glo_ok X G (c.fact 0 (f := .glo "digits_of") rfl), (F0.bindsN (ps := ["width", "message"]) fun _ _ _ _ _ _ us hl => match us, hl with | [_, _], _ => rfl)⟩,
    fd_base_digits := fd1,
    base_digits := ⟨F1, He.glo_ok X G (c.fact 1 (f := .glo "base_digits") rfl), (F1.bindsN (ps := ["number", "many"]) fun _ _ _ _ _ _ us hl => match us, hl with | [_, _], _ => rfl)⟩,
    fd_message_digits := fd2,
    message_digits := ⟨F2, He.glo_ok X G (c.fact 2 (f := .glo "message_digits") rfl), (F2.bindsN (ps := ["width"]) fun _ _ _ _ _ _ us hl => match us, hl with | [_], _ => rfl)⟩,
    fd_check_digits := fd3,
    check_digits := ⟨F3, He.glo_ok X G (c.fact 3 (f := .glo "check_digits") rfl), (F3.bindsN (ps := ["width"]) fun _ _ _ _ _ _ us hl => match us, hl with | [_], _ => rfl)⟩,
    fd__law_draw := fd4,
    _law_draw := ⟨F4, He.glo_ok X G (c.fact 4 (f := .glo "_law_draw") rfl), (F4.bindsN (ps := ["state", "script", "size"]) fun _ _ _ _ _ _ us hl => match us, hl with | [_, _, _], _ => rfl)⟩,
    fd__law_digits := fd5,
    _law_digits := ⟨F5, He.glo_ok X G (c.fact 5 (f := .glo "_law_digits") rfl), (F5.bindsN (ps := ["width", "message"]) fun _ _ _ _ _ _ us hl => match us, hl with | [_, _], _ => rfl)⟩,
    fd_law := fd6,
    law := ⟨F6, He.glo_ok X G (c.fact 6 (f := .glo "law") rfl), (F6.bindsN (ps := ["script"]) fun _ _ _ _ _ _ us hl => match us, hl with | [_], _ => rfl)⟩,
    z_int := He.free_ok X G (c.fact 7 (f := .free "int") rfl),
    z_len := He.free_ok X G (c.fact 8 (f := .free "len") rfl),
    z_max := He.free_ok X G (c.fact 9 (f := .free "max") rfl),
    z_range := He.free_ok X G (c.fact 10 (f := .free "range") rfl),
    z_sum := He.free_ok X G (c.fact 11 (f := .free "sum") rfl),
    c_DIGIT_BITS := He.int_ok X G (c.fact 12 (f := .int "DIGIT_BITS" 4) rfl),
    c_GREATEST_DIGIT := He.int_ok X G (c.fact 13 (f := .int "GREATEST_DIGIT" 15) rfl) }
  have e := hfa.symm.trans T.law.g
  have e2 : f = He.fAd K ("law", none) := by injection e with e1; injection e1
  subst e2
  exact ⟨T.fd_law, fun s v => FunD.bindsA (ps := ["script"]) T.law.F (fun _ _ _ _ _ _ us hl => match us, hl with | [_], _ => rfl) s [v] rfl, fun base _ _ => ok_law T⟩
end Pf
open PySem PySem.W PySem.Calls PyProof.Rows
set_option maxRecDepth 100000 in
set_option maxHeartbeats 0 in
theorem PySem.Challenge.cw_offing_k10_digits_of_messages_holds : PySem.Challenge.rw_offing_k10_digits_of_messages.Holds := by
  w_on; o_law
  refine HandSHeadRun.head_any (r := OpenLaw.row PySem.Challenge.rw_offing_k10_digits_of_messages) (q := view (OpenLaw.row PySem.Challenge.rw_offing_k10_digits_of_messages).prog [10]) (H := Pf.hk) (ob := Pf.ob) (M := 2000) (loose := ["DIGIT_BITS", "GREATEST_DIGIT", "digits_of", "base_digits", "message_digits", "check_digits", "_law_draw", "_law_digits"]) (d := HandSHeadRun.topDef (OpenLaw.row PySem.Challenge.rw_offing_k10_digits_of_messages).prog 10) (kwd := []) Pf.ob_eq
    (by kernel_rfl) (fun s => by kernel_rfl) Pf.run (by kernel_rfl) (by kernel_rfl) (by kernel_rfl) (by rfl) (by first | assumption | decide +kernel) (by decide +kernel) ⟨rfl, rfl, rfl, rfl, rfl, by decide +kernel⟩ ?hw ?hc
  case hw => w_witness2
  case hc =>
    refine L2.walk_ofE (l := PySem.Challenge.rw_offing_k10_digits_of_messages) (n := 63) (k := 4) (x := "script") (CX := L2.CX0) rfl (by decide) (by kernel_rfl) ⟨rfl, by decide, by decide⟩ ?F (fun _ _ _ _ z => z)
    intro w mg fa h Y G hmg0
    obtain ⟨K, KX, c⟩ := Y
    have hmg : mg ("law" : PySem.Str) = some (.ref fa) := by
      have e : (HandSHeadRun.topDef (OpenLaw.row PySem.Challenge.rw_offing_k10_digits_of_messages).prog 10).name = ("law" : PySem.Str) := by kernel_rfl
      rw [← e]
      exact hmg0
    obtain ⟨fd, hb, hF⟩ := Pf.facts (P := (PySem.Challenge.rw_offing_k10_digits_of_messages).prog) (w := w) KX G hmg c
    exact ⟨K, fd, Pf.sp_law K, KX, hb, fun H a ns hl _ hS => Pf.law_starts K H a ns hl hS, hF⟩

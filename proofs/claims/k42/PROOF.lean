import PyProof.Rows.All
import Wide.All
import OpenK.AllK
import Wide.FinOn
import HandS.ForMost
import HandS.Evl
import HandS.Flow
import HandS.Style
import HandS.Star
import HandS.Wide
import HandS.WideBits
import HandS.IsInst
import HandS.Defaults
import HandS.WordsExc
import HandS.Steps
import HandS.Walk
import KE.GoesMore
import PyProof.Draws
import PyProof.EnumMake
import HandS.Lambda
import HandS.RevRange
import HandS.TupAny
import KE.KRevSl
import HandS.Iter
import HandS.ListItems
import HandS.DictComp
import HandS.SortInts
import HandS.SortRule
import HandS.Zip
import KE.KEqNest
import HandS.NoneIn
import KE.KDictSum
import HandS.TupSets
import HandS.HeadHook1
import HandS.HeadHook2
import HandS.HeadWalk
import KE.SortKeyHeap
import KE.SortData
import KE.KSortKey
import HandS.HeadHook4
import HandS.Comp
import PyProof.NeKinds
import HandS.Finally
import HandS.Head0
import HandS.Head1
import HandS.Head2
import HandS.HeadEnd
import PySem.Challenge.RW_offing_k42_bodies
set_option Elab.async false
set_option linter.all false
set_option maxRecDepth 100000
set_option maxHeartbeats 4000000
/-! A calculus over readings: what a part of the heap shows (G), what is hidden, what must stay. -/
namespace Wp
open PySem L2 Evl StX
set_option autoImplicit false

structure Vx where
  He : Hp
  Ge : Hp
  I : Hp → Prop
  m : Addr → Prop
  st : ∀ H H', I H → (∀ a, m a → H' a = H a) → I H'

structure J (U : Vx) (H G : Hp) : Prop where
  up : Ex G H
  keep : Ex U.He H
  new : ∀ a, G a ≠ none → U.Ge a = none → U.He a = none
  hid : U.I H
  msk : ∀ a, U.m a → G a = none ∧ H a ≠ none

theorem none_of_ex {H H' : Hp} {a : Addr} (e : Ex H H') (h : H' a = none) : H a = none := fresh_back e h
theorem ex_upd2 {G H : Hp} {p : Addr} {o : HO} (e : Ex G H) : Ex (upd G p o) (upd H p o) := fun a u h => by
  by_cases z : a = p
  · subst z; rw [upd_same] at h ⊢; exact h
  · rw [upd_ne z] at h ⊢; exact e a u h
theorem J.alloc {U : Vx} {H G : Hp} {p : Addr} {o : HO} (j : J U H G) (h : H p = none) : J U (upd H p o) (upd G p o) where
  up := ex_upd2 j.up
  keep := fun a u e => by
    have e1 := j.keep a u e
    rw [upd_ne (ne_of_none e1 h)]; exact e1
  new := fun a e g => by
    by_cases z : a = p
    · subst z; exact none_of_ex j.keep h
    · rw [upd_ne z] at e; exact j.new a e g
  hid := U.st H _ j.hid fun a ma => by
    have q := (j.msk a ma).2
    have : a ≠ p := fun z => by subst z; exact q h
    rw [upd_ne this]
  msk := fun a ma => by
    obtain ⟨q1, q2⟩ := j.msk a ma
    have : a ≠ p := fun z => by subst z; exact q2 h
    rw [upd_ne this, upd_ne this]; exact ⟨q1, q2⟩
theorem J.write {U : Vx} {H G : Hp} {p : Addr} {o o' : HO} (j : J U H G) (h : G p = some o) (g : U.Ge p = none) : J U (upd H p o') (upd G p o') where
  up := ex_upd2 j.up
  keep := fun a u e => by
    have : a ≠ p := fun z => by
      subst z
      rw [j.new a (by rw [h]; exact fun q => by cases q) g] at e; cases e
    rw [upd_ne this]; exact j.keep a u e
  new := fun a e q => by
    by_cases z : a = p
    · subst z; exact j.new a (by rw [h]; exact fun q => by cases q) q
    · rw [upd_ne z] at e; exact j.new a e q
  hid := U.st H _ j.hid fun a ma => by
    have q := (j.msk a ma).1
    have : a ≠ p := fun z => by subst z; rw [h] at q; cases q
    rw [upd_ne this]
  msk := fun a ma => by
    obtain ⟨q1, q2⟩ := j.msk a ma
    have : a ≠ p := fun z => by subst z; rw [h] at q1; cases q1
    rw [upd_ne this, upd_ne this]; exact ⟨q1, q2⟩
theorem J.free {U : Vx} {H G : Hp} {p : Addr} (j : J U H G) (h : H p = none) : G p = none := none_of_ex j.up h
/-- behind a call that keeps what stood -/
theorem J.call {U : Vx} {H G H' G' : Hp} (j : J U H G) (e1 : Ex H H') (e3 : Ex G' H') (n : ∀ a, G' a ≠ none → G a = none → H a = none) : J U H' G' where
  up := e3
  keep := j.keep.trans e1
  new := fun a q g => by
    cases z : G a with
    | none => exact none_of_ex j.keep (n a q z)
    | some o => exact j.new a (by rw [z]; exact fun q => by cases q) g
  hid := U.st H _ j.hid fun a ma => by
    obtain ⟨_, q2⟩ := j.msk a ma
    cases z : H a with
    | none => exact absurd z q2
    | some o => exact e1 a o z
  msk := fun a ma => by
    obtain ⟨q1, q2⟩ := j.msk a ma
    constructor
    · cases z : G' a with
      | none => rfl
      | some o => exact absurd (n a (by rw [z]; exact fun q => by cases q) q1) q2
    · cases z : H a with
      | none => exact absurd z q2
      | some o => rw [e1 a o z]; exact fun q => by cases q
/-- the hidden part alone has changed, at p -/
theorem J.hidden {U : Vx} {H G : Hp} {p : Addr} {o : HO} (j : J U H G) (mp : U.m p) (hI : U.I (upd H p o)) (hne : U.He p = none) : J U (upd H p o) G where
  up := fun a u e => by
    have : a ≠ p := fun z => by subst z; rw [(j.msk a mp).1] at e; cases e
    rw [upd_ne this]; exact j.up a u e
  keep := fun a u e => by
    have : a ≠ p := fun z => by subst z; rw [hne] at e; cases e
    rw [upd_ne this]; exact j.keep a u e
  new := j.new
  hid := hI
  msk := fun a ma => by
    refine ⟨(j.msk a ma).1, ?_⟩
    by_cases z : a = p
    · subst z; rw [upd_same]; exact fun q => by cases q
    · rw [upd_ne z]; exact (j.msk a ma).2
/-- nothing hidden -/
def V0 (H G : Hp) : Vx := ⟨H, G, fun _ => True, fun _ => False, fun _ _ _ _ => trivial⟩
theorem J.start {H G : Hp} (e : Ex G H) : J (V0 H G) H G := ⟨e, Ex.refl H, fun a q g => absurd g q, trivial, fun _ z => z.elim⟩
/-- one more object hidden: the list at D -/
def Vx.hide (U : Vx) (D : Addr) (o : HO) : Vx := ⟨U.He, U.Ge, fun H => U.I H ∧ H D = some o, fun a => U.m a ∨ a = D, fun H H' ⟨i, d⟩ e => ⟨U.st H H' i fun a ma => e a (.inl ma), by rw [e D (.inr rfl)]; exact d⟩⟩
theorem J.hide {U : Vx} {H G : Hp} {D : Addr} {o : HO} (j : J U H G) (h : H D = some o) (g : G D = none) : J (U.hide D o) H G where
  up := j.up
  keep := j.keep
  new := j.new
  hid := ⟨j.hid, h⟩
  msk := fun a ma => by
    rcases ma with ma | rfl
    · exact j.msk a ma
    · exact ⟨g, by rw [h]; exact fun q => by cases q⟩
theorem J.unhide {U : Vx} {H G : Hp} {D : Addr} {o : HO} (j : J (U.hide D o) H G) (hm : ¬ U.m D) (hn : U.He D = none) : J U H (upd G D o) where
  up := fun a u e => by
    by_cases z : a = D
    · subst z; rw [upd_same] at e; rw [j.hid.2]; exact e
    · rw [upd_ne z] at e; exact j.up a u e
  keep := j.keep
  new := fun a q g => by
    by_cases z : a = D
    · subst z; exact hn
    · rw [upd_ne z] at q; exact j.new a q g
  hid := j.hid.1
  msk := fun a ma => by
    have : a ≠ D := fun z => by subst z; exact hm ma
    rw [upd_ne this]; exact j.msk a (.inl ma)
theorem J.rehide {U : Vx} {H G : Hp} {D : Addr} {o o' : HO} (j : J (U.hide D o) H G) (hm : ¬ U.m D) (hn : U.He D = none) : J (U.hide D o') (upd H D o') G where
  up := fun a u e => by
    have : a ≠ D := fun z => by subst z; rw [(j.msk a (.inr rfl)).1] at e; cases e
    rw [upd_ne this]; exact j.up a u e
  keep := fun a u e => by
    have : a ≠ D := fun z => by subst z; exact absurd (show U.He a = some u from e) (by rw [hn]; exact fun q => by cases q)
    rw [upd_ne this]; exact j.keep a u e
  new := j.new
  hid := ⟨U.st H _ j.hid.1 fun a ma => by
    have : a ≠ D := fun z => by subst z; exact hm ma
    rw [upd_ne this], upd_same⟩
  msk := fun a ma => by
    refine ⟨(j.msk a ma).1, ?_⟩
    by_cases z : a = D
    · subst z; rw [upd_same]; exact fun q => by cases q
    · rw [upd_ne z]; exact (j.msk a ma).2

/-! ### data that stands -/
theorem dp_mono {K : PySem.W.Frag} {H H' : Hp} (e : Ex H H') : ∀ (d : PyData) (v : V), Dp K H v d → Dp K H' v d
  | .none, v, h => by cases h; exact .non
  | .bool b, v, h => by cases h; exact .bl b
  | .int b, v, h => by cases h; exact .int b
  | .str b, v, h => by cases h; exact .str b
  | .list ds, v, h => by cases h with | lst a b => exact .lst (ex_l e a) (dpAll_mono e ds _ b)
  | .tuple ds, v, h => by cases h with | tup a b => exact .tup (ex_t e a) (dpAll_mono e ds _ b)
  | .dict _, v, h => by cases h
where
  dpAll_mono {K : PySem.W.Frag} {H H' : Hp} (e : Ex H H') : ∀ (ds : List PyData) (vs : List V), DpAll K H vs ds → DpAll K H' vs ds
  | [], vs, h => by cases h; exact .nil
  | d :: ds, vs, h => by cases h with | cons a b => exact .cons (dp_mono e d _ a) (dpAll_mono e ds _ b)

/-! ### the judgements -/
def EM (U : Vx) (te : TE) (σ : L2.St) (G : Hp) (Q : VK) : Prop := ∀ H, J U H G → ∀ QH : VK, (∀ v H' G', J U H' G' → Q v G' → QH v H') → te σ H QH
def TM (U : Vx) (tt : TT) (σ : L2.St) (G : Hp) (Q : Bool → Hp → Prop) : Prop := ∀ H, J U H G → ∀ QH : Bool → Hp → Prop, (∀ v H' G', J U H' G' → Q v G' → QH v H') → tt σ H QH
def AM (U : Vx) (ta : TA) (σ : L2.St) (G : Hp) (Q : List V → Hp → Prop) : Prop := ∀ H, J U H G → ∀ QH : List V → Hp → Prop, (∀ v H' G', J U H' G' → Q v G' → QH v H') → ta σ H QH
def GM (U : Vx) (g : TG) (v : V) (σ : L2.St) (G : Hp) (Q : L2.St → Hp → Prop) : Prop := ∀ H, J U H G → ∀ QH : L2.St → Hp → Prop, (∀ σ' H' G', J U H' G' → Q σ' G' → QH σ' H') → g v σ H QH
def RM (U : Vx) (r : Hp → VK → Prop) (G : Hp) (Q : VK) : Prop := ∀ H, J U H G → ∀ QH : VK, (∀ v H' G', J U H' G' → Q v G' → QH v H') → r H QH
def CM (U : Vx) (sp : Sp) (vs : List V) (G : Hp) (Q : VK) : Prop := ∀ H, J U H G → ∀ QH : VK, (∀ v H' G', J U H' G' → Q v G' → QH v H') → ∀ E, sp vs H QH E
def SM (U : Vx) (t : TS) (D : Ends) (σ : L2.St) (G : Hp) : Prop := ∀ H, J U H G → t D σ H
def KM (U : Vx) (nx : L2.St → Hp → Prop) (σ : L2.St) (G : Hp) : Prop := ∀ H, J U H G → nx σ H
def KV (U : Vx) (rt : VK) (v : V) (G : Hp) : Prop := ∀ H, J U H G → rt v H
/-- a bool's way on -/
def BV (x : V) (P : Bool → Prop) : Prop := ∃ k, x = .bl k ∧ P k

section
variable {U : Vx} {σ : L2.St} {G : Hp} {Q : VK} {te ta tb tc tx : TE} {t u tt : TT} {v x y z : V} {r : R2} {K : PySem.W.Frag} {QT : Bool → Hp → Prop}
theorem bv {b : Bool} {P : Bool → Prop} (h : P b) : BV (.bl b) P := ⟨b, rfl, h⟩
theorem em_var {i : Nat} (h : σ[i]? = some (some v)) (k : Q v G) : EM U (tVar i) σ G Q := fun H j _ q => ⟨v, h, q v H G j k⟩
theorem em_here {i : Nat} (h : ∃ v, σ[i]? = some (some v) ∧ Q v G) : EM U (tVar i) σ G Q := fun H j _ q => h.elim fun v e => ⟨v, e.1, q v H G j e.2⟩
theorem em_c (k : Q v G) : EM U (tC v) σ G Q := fun H j _ q => q v H G j k
theorem em_op (h : EM U ta σ G fun x G1 => EM U tb σ G1 fun y G2 => RM U (r x y) G2 Q) : EM U (tOp r ta tb) σ G Q := fun H j QH q =>
  h H j _ fun x H1 G1 j1 h1 => h1 H1 j1 _ fun y H2 G2 j2 h2 => h2 H2 j2 QH q
theorem em_un {ru : V → Hp → VK → Prop} (h : EM U ta σ G fun x G1 => RM U (ru x) G1 Q) : EM U (tUn ru ta) σ G Q := fun H j QH q => h H j _ fun x H1 G1 j1 h1 => h1 H1 j1 QH q
theorem rm_I0 {g : Int → Int → V} {i j : Int} (k : Q (g i j) G) : RM U (rI0 g (.int i) (.int j)) G Q := fun H jj _ q => ⟨i, j, rfl, rfl, q _ H G jj k⟩
theorem rm_I {C : Int → Int → Prop} {g : Int → Int → V} {i j : Int} (c : C i j) (k : Q (g i j) G) : RM U (rI C g (.int i) (.int j)) G Q := fun H jj _ q => ⟨i, j, rfl, rfl, c, q _ H G jj k⟩
theorem rm_U {g : Int → V} {i : Int} (k : Q (g i) G) : RM U (rU g (.int i)) G Q := fun H jj _ q => ⟨i, rfl, q _ H G jj k⟩
theorem rm_eq (h : scal x y = true) (k : Q (.bl (decide (x = y))) G) : RM U (rEq x y) G Q := fun H j _ q => ⟨h, q _ H G j k⟩
theorem rm_ne (h : scal x y = true) (k : Q (.bl (!decide (x = y))) G) : RM U (rNe x y) G Q := fun H j _ q => ⟨h, q _ H G j k⟩
theorem rm_eqI {i j : Int} (k : Q (.bl (decide (i = j))) G) : RM U (rEq (.int i) (.int j)) G Q := rm_eq rfl (by
  have e : decide (V.int i = V.int j) = decide (i = j) := by simp
  rw [e]; exact k)
theorem rm_neI {i j : Int} (k : Q (.bl (!decide (i = j))) G) : RM U (rNe (.int i) (.int j)) G Q := rm_ne rfl (by
  have e : decide (V.int i = V.int j) = decide (i = j) := by simp
  rw [e]; exact k)
theorem rm_eqD {d e : PyData} (hd : Dp K G x d) (he : Dp K G y e) (sd : SeqAt.shaped d = true) (se : SeqAt.shaped e = true) (k : Q (.bl (PyData.eqv d e)) G) : RM U (rEqD K x y) G Q := fun H j _ q =>
  ⟨d, e, dp_mono j.up d x hd, dp_mono j.up e y he, sd, se, q _ H G j k⟩
theorem rm_neD {d e : PyData} (hd : Dp K G x d) (he : Dp K G y e) (sd : SeqAt.shaped d = true) (se : SeqAt.shaped e = true) (k : Q (.bl (!PyData.eqv d e)) G) : RM U (rNeD K x y) G Q := fun H j _ q =>
  ⟨d, e, dp_mono j.up d x hd, dp_mono j.up e y he, sd, se, q _ H G j k⟩
theorem rm_ixL {p : Addr} {xs : List V} {i : Int} (h : SqL K G p xs) (ha : atI xs i = some v) (k : Q v G) : RM U (rIxL K (.ref p) (.int i)) G Q := fun H j _ q => ⟨p, xs, i, v, rfl, rfl, ex_l j.up h, ha, q _ H G j k⟩
theorem rm_ixT {p : Addr} {xs : List V} {i : Int} (h : SqT K G p xs) (ha : atI xs i = some v) (k : Q v G) : RM U (rIxT K (.ref p) (.int i)) G Q := fun H j _ q => ⟨p, xs, i, v, rfl, rfl, ex_t j.up h, ha, q _ H G j k⟩
theorem rm_cat {l b : Addr} {xs zs : List V} (h1 : G l = some (.lst xs)) (h2 : G b = some (.lst zs)) (hs : xs.length + zs.length ≤ sizeLine) (k : ∀ p G', G p = none → Ex G G' → G' p = some (.lst (xs ++ zs)) → Q (.ref p) G') : RM U (rCat (.ref l) (.ref b)) G Q :=
  fun H j _ q => ⟨l, b, xs, zs, rfl, rfl, j.up _ _ h1, j.up _ _ h2, hs, fun p hp => q _ _ _ (j.alloc hp) (k p _ (j.free hp) (Ex.new (j.free hp)) upd_same)⟩
theorem rm_catT {a b : Addr} {xs ys : List V} (h1 : SqT K G a xs) (h2 : SqT K G b ys) (hx : xs ≠ []) (hs : xs.length + ys.length ≤ sizeLine) (k : ∀ p G', Ex G G' → SqT K G' p (xs ++ ys) → Q (.ref p) G') : RM U (rCatT K (.ref a) (.ref b)) G Q :=
  fun H j _ q => ⟨a, b, xs, ys, rfl, rfl, ex_t j.up h1, ex_t j.up h2, hx, hs, fun e => q _ _ _ j (k a G (Ex.refl G) (by rw [e, List.append_nil]; exact h1)), fun _ p hp => q _ _ _ (j.alloc hp) (k p _ (Ex.new (j.free hp)) (SqT.of upd_same))⟩
theorem em_orV (h : EM U ta σ G fun x G1 => BV x fun c => if c = true then Q (.bl true) G1 else EM U tb σ G1 Q) : EM U (tOrV ta tb) σ G Q := fun H j QH q => h H j _ fun x H1 G1 j1 ⟨c, e, h1⟩ => ⟨c, e, by
  cases c with
  | true => rw [if_pos rfl] at h1 ⊢; exact q _ _ _ j1 h1
  | false => rw [if_neg Bool.false_ne_true] at h1 ⊢; exact h1 H1 j1 QH q⟩
theorem em_andV (h : EM U ta σ G fun x G1 => BV x fun c => if c = true then EM U tb σ G1 Q else Q (.bl false) G1) : EM U (tAndV ta tb) σ G Q := fun H j QH q => h H j _ fun x H1 G1 j1 ⟨c, e, h1⟩ => ⟨c, e, by
  cases c with
  | true => rw [if_pos rfl] at h1 ⊢; exact h1 H1 j1 QH q
  | false => rw [if_neg Bool.false_ne_true] at h1 ⊢; exact q _ _ _ j1 h1⟩
theorem em_notV (h : EM U ta σ G fun x G1 => BV x fun c => Q (.bl (!c)) G1) : EM U (tNotV ta) σ G Q := fun H j QH q => h H j _ fun x H1 G1 j1 ⟨c, e, h1⟩ => ⟨c, e, q _ _ _ j1 h1⟩
theorem em_if (h : TM U t σ G fun c G1 => if c = true then EM U ta σ G1 Q else EM U tb σ G1 Q) : EM U (tIf t ta tb) σ G Q := fun H j QH q => h H j _ fun c H1 G1 j1 h1 => by
  cases c with
  | true => rw [if_pos rfl] at h1 ⊢; exact h1 H1 j1 QH q
  | false => rw [if_neg Bool.false_ne_true] at h1 ⊢; exact h1 H1 j1 QH q
theorem em_chain {r' : R2} (h : EM U ta σ G fun x G1 => EM U tb σ G1 fun y G2 => RM U (r x y) G2 fun z G3 => BV z fun k => if k = true then EM U tc σ G3 fun w G4 => RM U (r' y w) G4 Q else Q (.bl false) G3) : EM U (tChain r r' ta tb tc) σ G Q := fun H j QH q =>
  h H j _ fun x H1 G1 j1 h1 => h1 H1 j1 _ fun y H2 G2 j2 h2 => h2 H2 j2 _ fun z H3 G3 j3 ⟨k, e, h3⟩ => ⟨k, e, by
    cases k with
    | true => rw [if_pos rfl] at h3 ⊢; exact h3 H3 j3 _ fun w H4 G4 j4 h4 => h4 H4 j4 QH q
    | false => rw [if_neg Bool.false_ne_true] at h3 ⊢; exact q _ _ _ j3 h3⟩
theorem em_lst {tas : TA} (h : AM U tas σ G fun vs G1 => vs.length ≤ sizeLine ∧ ∀ p G2, G1 p = none → Ex G1 G2 → G2 p = some (.lst vs) → Q (.ref p) G2) : EM U (tLst tas) σ G Q := fun H j QH q =>
  h H j _ fun vs H1 G1 j1 ⟨hz, h1⟩ => ⟨hz, fun p hp => q _ _ _ (j1.alloc hp) (h1 p _ (j1.free hp) (Ex.new (j1.free hp)) upd_same)⟩
theorem em_tup {tas : TA} (h : AM U tas σ G fun vs G1 => vs.length ≤ sizeLine ∧ ∀ p G2, G1 p = none → Ex G1 G2 → G2 p = some (.tup vs) → Q (.ref p) G2) : EM U (tTup tas) σ G Q := fun H j QH q =>
  h H j _ fun vs H1 G1 j1 ⟨hz, h1⟩ => ⟨hz, fun p hp => q _ _ _ (j1.alloc hp) (h1 p _ (j1.free hp) (Ex.new (j1.free hp)) upd_same)⟩
theorem am_nil {QA : List V → Hp → Prop} (k : QA [] G) : AM U tNil σ G QA := fun H j _ q => q _ H G j k
theorem am_cons {tr : TA} {QA : List V → Hp → Prop} (h : EM U ta σ G fun x G1 => AM U tr σ G1 fun vs G2 => QA (x :: vs) G2) : AM U (tCons ta tr) σ G QA := fun H j QH q =>
  h H j _ fun x H1 G1 j1 h1 => h1 H1 j1 _ fun vs H2 G2 j2 h2 => q _ _ _ j2 h2
theorem am_star {tr : TA} {QA : List V → Hp → Prop} (h : EM U ta σ G fun x G1 => ∃ p xs, x = V.ref p ∧ (SqT K G1 p xs ∨ SqL K G1 p xs) ∧ AM U tr σ G1 fun vs G2 => QA (xs ++ vs) G2) : AM U (tStar K ta tr) σ G QA := fun H j QH q =>
  h H j _ fun x H1 G1 j1 ⟨p, xs, e, s, h1⟩ => ⟨p, xs, e, s.elim (fun s => .inl (ex_t j1.up s)) (fun s => .inr (ex_l j1.up s)), h1 H1 j1 _ fun vs H2 G2 j2 h2 => q _ _ _ j2 h2⟩
theorem em_cb {rc : List V → Hp → VK → Prop} {tas : TA} (h : AM U tas σ G fun vs G1 => RM U (rc vs) G1 Q) : EM U (tCB rc tas) σ G Q := fun H j QH q => h H j _ fun vs H1 G1 j1 h1 => h1 H1 j1 QH q
def IV (x : V) (P : Int → Prop) : Prop := ∃ i : Int, x = .int i ∧ P i
theorem iv {i : Int} {P : Int → Prop} (h : P i) : IV (.int i) P := ⟨i, rfl, h⟩
theorem em_bits (h : EM U ta σ G fun x G1 => IV x fun i => Q (.int (Builtin.Int.intBits i : Nat)) G1) : EM U (tBits ta) σ G Q := fun H j QH q => h H j _ fun x H1 G1 j1 ⟨i, e, h1⟩ => ⟨i, e, q _ _ _ j1 h1⟩
theorem em_call {sp : Sp} {E : XK} {tas : TA} (h : AM U tas σ G fun vs G1 => CM U sp vs G1 Q) : EM U (tCall sp [] E tas) σ G Q := fun H j QH q => h H j _ fun vs H1 G1 j1 h1 => by
  show sp (vs ++ []) H1 QH E
  rw [List.append_nil]
  exact h1 H1 j1 QH q E
/-- a method of the instance at a; a field -/
def FM (K : PySem.W.Frag) (f : Str) (x : V) (G : Hp) (Q : VK) : Prop := ∃ a C dx fs v, x = .ref a ∧ G a = some (.ins C dx fs) ∧ Cls K C ∧ NoAttr K C f ∧ fs.lookup f = some v ∧ Q v G
theorem fm {C a dx : Addr} {fs : List (Str × V)} {f : Str} (h : G a = some (.ins C dx fs)) (c : Cls K C) (n : NoAttr K C f) (l : fs.lookup f = some v) (k : Q v G) : FM K f (.ref a) G Q := ⟨a, C, dx, fs, v, rfl, h, c, n, l, k⟩
theorem em_fld {f : Str} (h : EM U ta σ G fun x G1 => FM K f x G1 Q) : EM U (tFld K ta f) σ G Q := fun H j QH q =>
  h H j _ fun x H1 G1 j1 ⟨a, C, dx, fs, v, e, g, c, n, l, h1⟩ => ⟨a, C, dx, fs, v, e, j1.up _ _ g, c, n, l, q _ _ _ j1 h1⟩
def MM (C : Addr) (m : Str) (x : V) (G : Hp) (k : Prop) : Prop := ∃ a dx fs, x = V.ref a ∧ G a = some (.ins C dx fs) ∧ fs.lookup m = none ∧ k
theorem mm {C a dx : Addr} {fs : List (Str × V)} {m : Str} {k : Prop} (h : G a = some (.ins C dx fs)) (l : fs.lookup m = none) (q : k) : MM C m (.ref a) G k := ⟨a, dx, fs, rfl, h, l, q⟩
theorem em_meth {C : Addr} {m : Str} {sp : Sp} {E : XK} {tas : TA} (h : EM U ta σ G fun x G1 => MM C m x G1 (AM U tas σ G1 fun vs G2 => CM U sp (x :: vs) G2 Q)) : EM U (tMeth C m sp [] E ta tas) σ G Q := fun H j QH q =>
  h H j _ fun x H1 G1 j1 ⟨a, dx, fs, e, g, l, h1⟩ => ⟨a, dx, fs, e, j1.up _ _ g, l, h1 H1 j1 _ fun vs H2 G2 j2 h2 => by
    show sp (x :: (vs ++ [])) H2 QH E
    rw [List.append_nil]
    exact h2 H2 j2 QH q E⟩
/-! ### promises that keep what stood -/
def spP (pre : List V → Hp → Prop) (post : List V → Hp → V → Hp → Prop) : Sp := fun vs H Q _ => ∃ G, Ex G H ∧ pre vs G ∧ ∀ v H' G', Ex H H' → Ex G G' → Ex G' H' → (∀ a, G' a ≠ none → G a = none → H a = none) → post vs G v G' → Q v H'
theorem cm_p {pre : List V → Hp → Prop} {post : List V → Hp → V → Hp → Prop} {vs : List V} (h : pre vs G) (k : ∀ v G', Ex G G' → post vs G v G' → Q v G') : CM U (spP pre post) vs G Q := fun H j QH q E =>
  ⟨G, j.up, h, fun v H' G' e1 e2 e3 n p => q v H' G' (j.call e1 e3 n) (k v G' e2 p)⟩
/-- at a def's end -/
theorem kv_ret {p : V → Hp → Prop} {H0 G0 : Hp} (k : ∀ v H' G', Ex H0 H' → Ex G0 G' → Ex G' H' → (∀ a, G' a ≠ none → G0 a = none → H0 a = none) → p v G' → Q v H') (e : Ex G0 G) (h : p v G) : KV (V0 H0 G0) Q v G :=
  fun H j => k v H G j.keep e j.up j.new h
/-! ### tests -/
theorem tm_test (h : EM U te σ G fun x G1 => BV x fun k => QT k G1) : TM U (tTest te) σ G QT := fun H j QH q => h H j _ fun x H1 G1 j1 ⟨k, e, h1⟩ => ⟨k, e, q _ _ _ j1 h1⟩
theorem tm_B (h : EM U te σ G fun x G1 => BV x fun k => QT k G1) : TM U (tB te) σ G QT := fun H j QH q => h H j _ fun x H1 G1 j1 ⟨k, e, h1⟩ => ⟨k, e, q _ _ _ j1 h1⟩
theorem tm_and (h : TM U t σ G fun c G1 => if c = true then TM U u σ G1 QT else QT false G1) : TM U (tAnd t u) σ G QT := fun H j QH q => h H j _ fun c H1 G1 j1 h1 => by
  cases c with
  | true => rw [if_pos rfl] at h1 ⊢; exact h1 H1 j1 QH q
  | false => rw [if_neg Bool.false_ne_true] at h1 ⊢; exact q _ _ _ j1 h1
theorem tm_or (h : TM U t σ G fun c G1 => if c = true then QT true G1 else TM U u σ G1 QT) : TM U (tOr t u) σ G QT := fun H j QH q => h H j _ fun c H1 G1 j1 h1 => by
  cases c with
  | true => rw [if_pos rfl] at h1 ⊢; exact q _ _ _ j1 h1
  | false => rw [if_neg Bool.false_ne_true] at h1 ⊢; exact h1 H1 j1 QH q
theorem tm_not (h : TM U t σ G fun c G1 => QT (!c) G1) : TM U (tNot t) σ G QT := fun H j QH q => h H j _ fun c H1 G1 j1 h1 => q _ _ _ j1 h1
theorem tm_yes (k : QT true G) : TM U tYes σ G QT := fun H j QH q => q _ _ _ j k
/-! ### statements -/
variable {D : Ends} {t1 t2 ts : TS} {g : TG}
theorem gm_name {i : Nat} {QG : L2.St → Hp → Prop} (k : QG (σ.set i (some v)) G) : GM U (gName i) v σ G QG := fun H j QH q => q _ _ _ j k
theorem sm_seq (h : SM U t1 ⟨t2 D, D.rt, D.bk, D.ct⟩ σ G) : SM U (tSeq t1 t2) D σ G := h
theorem km_next (h : SM U ts D σ G) {r : VK} {b c : L2.St → Hp → Prop} : KM U (Ends.nx ⟨ts D, r, b, c⟩) σ G := h
theorem kv_rt {rt : VK} (h : KV U rt v G) {n b c : L2.St → Hp → Prop} : KV U (Ends.rt ⟨n, rt, b, c⟩) v G := h
theorem sm_next (h : KM U D.nx σ G) : SM U tNext D σ G := h
theorem sm_brk (h : KM U D.bk σ G) : SM U tBreak D σ G := h
theorem sm_cont (h : KM U D.ct σ G) : SM U tCont D σ G := h
theorem sm_asg (h : EM U te σ G fun v G1 => GM U g v σ G1 fun σ' G2 => KM U D.nx σ' G2) : SM U (tAsg te g) D σ G := fun H j => h H j _ fun v H1 G1 j1 h1 => h1 H1 j1 _ fun σ' H2 G2 j2 h2 => h2 H2 j2
theorem sm_drop (h : EM U te σ G fun _ G1 => KM U D.nx σ G1) : SM U (tDrop te) D σ G := fun H j => h H j _ fun v H1 G1 j1 h1 => h1 H1 j1
theorem sm_ret (h : EM U te σ G fun v G1 => KV U D.rt v G1) : SM U (tRet te) D σ G := fun H j => h H j _ fun v H1 G1 j1 h1 => h1 H1 j1
theorem sm_retN (h : KV U D.rt .non G) : SM U tRetN D σ G := fun H j => h H j
theorem sm_if (h : TM U t σ G fun c G1 => if c = true then SM U t1 D σ G1 else SM U t2 D σ G1) : SM U (tIfS t t1 t2) D σ G := fun H j => h H j _ fun c H1 G1 j1 h1 => by
  cases c with
  | true => rw [if_pos rfl] at h1 ⊢; exact h1 H1 j1
  | false => rw [if_neg Bool.false_ne_true] at h1 ⊢; exact h1 H1 j1
/-- xs.append(e) of a visible list of its own -/
theorem em_append {l : Addr} {xs : List V} (h : EM U ta σ G fun x G1 => x = .ref l ∧ G1 l = some (.lst xs) ∧ EM U te σ G1 fun y G2 => G2 l = some (.lst xs) ∧ U.Ge l = none ∧ xs.length < sizeLine ∧ Q .non (upd G2 l (.lst (xs ++ [y])))) : EM U (tBM K "list" rAppend ta (tCons te tNil)) σ G Q := fun H j QH q =>
  h H j _ fun x H1 G1 j1 ⟨e, g1, h1⟩ => by
    subst e
    exact ⟨.inl ⟨rfl, xs, SqL.of (j1.up _ _ g1)⟩, h1 H1 j1 _ fun y H2 G2 j2 ⟨g2, ge, hz, h2⟩ => ⟨l, xs, y, rfl, rfl, j2.up _ _ g2, hz, q _ _ _ (j2.write g2 ge) h2⟩⟩
/-! ### loops -/
def KJ (U : Vx) (P : L2.St → Hp → Prop) : L2.St → Hp → Prop := fun σ H => ∃ G, J U H G ∧ P σ G
theorem km_kj {P : L2.St → Hp → Prop} (h : P σ G) {r : VK} {b c : L2.St → Hp → Prop} : KM U (Ends.nx ⟨KJ U P, r, b, c⟩) σ G := fun _ j => ⟨G, j, h⟩
theorem km_kc {P : L2.St → Hp → Prop} (h : P σ G) {r : VK} {b n : L2.St → Hp → Prop} : KM U (Ends.ct ⟨n, r, b, KJ U P⟩) σ G := fun _ j => ⟨G, j, h⟩
theorem km_bk {P : L2.St → Hp → Prop} (h : KM U P σ G) {r : VK} {c n : L2.St → Hp → Prop} : KM U (Ends.bk ⟨n, r, P, c⟩) σ G := h
theorem sm_forL {tl : TE} (h : EM U tl σ G fun v G1 => ∃ a xs, v = .ref a ∧ SqL K G1 a xs ∧ ∃ P : Nat → L2.St → Hp → Prop, P 0 σ G1 ∧ (∀ i σ' G', i ≤ xs.length → P i σ' G' → SqL K G' a xs) ∧
    (∀ i x σ' G', xs[i]? = some x → P i σ' G' → GM U g x σ' G' fun σ2 G2 => SM U ts ⟨KJ U (P (i + 1)), D.rt, D.nx, KJ U (P (i + 1))⟩ σ2 G2) ∧ (∀ σ' G', P xs.length σ' G' → KM U D.nx σ' G')) : SM U (tFor (iList K tl) g ts) D σ G := fun H j =>
  h H j _ fun v H1 G1 j1 ⟨a, xs, e, hx, P, h0, hl, hs, hd⟩ => ⟨a, e, ⟨xs, ex_l j1.up hx⟩, for_list (fun i => KJ U (P i)) ⟨G1, j1, h0⟩ (fun i σ' H' hi ⟨G', j', p⟩ => ex_l j'.up (hl i σ' G' hi p))
    (fun i x σ' H' hi ⟨G', j', p⟩ => hs i x σ' G' hi p H' j' _ fun σ2 H2 G2 j2 h2 => h2 H2 j2) (fun σ' H' ⟨G', j', p⟩ => hd σ' G' p H' j')⟩
theorem sm_forT {tl : TE} (h : EM U tl σ G fun v G1 => ∃ a xs, v = .ref a ∧ SqT K G1 a xs ∧ ∃ P : Nat → L2.St → Hp → Prop, P 0 σ G1 ∧ (∀ i σ' G', i ≤ xs.length → P i σ' G' → SqT K G' a xs) ∧
    (∀ i x σ' G', xs[i]? = some x → P i σ' G' → GM U g x σ' G' fun σ2 G2 => SM U ts ⟨KJ U (P (i + 1)), D.rt, D.nx, KJ U (P (i + 1))⟩ σ2 G2) ∧ (∀ σ' G', P xs.length σ' G' → KM U D.nx σ' G')) : SM U (tFor (iTup K tl) g ts) D σ G := fun H j =>
  h H j _ fun v H1 G1 j1 ⟨a, xs, e, hx, P, h0, hl, hs, hd⟩ => ⟨a, e, ⟨xs, ex_t j1.up hx⟩, for_tup (fun i => KJ U (P i)) ⟨G1, j1, h0⟩ (fun i σ' H' hi ⟨G', j', p⟩ => ex_t j'.up (hl i σ' G' hi p))
    (fun i x σ' H' hi ⟨G', j', p⟩ => hs i x σ' G' hi p H' j' _ fun σ2 H2 G2 j2 h2 => h2 H2 j2) (fun σ' H' ⟨G', j', p⟩ => hd σ' G' p H' j')⟩
theorem sm_forR1 {ta : TA} {i0 : Nat} (h : AM U ta σ G fun vs G1 => ∃ n : Int, vs = [.int n] ∧ -(2 ^ 62) ≤ n ∧ n < 2 ^ 62 ∧ ∃ P : Nat → L2.St → Hp → Prop, P 0 σ G1 ∧
    (∀ (i : Nat) σ' G', (i : Int) < n → P i σ' G' → SM U ts ⟨KJ U (P (i + 1)), D.rt, D.nx, KJ U (P (i + 1))⟩ (σ'.set i0 (some (.int (i : Int)))) G') ∧ (∀ σ' G', P n.toNat σ' G' → KM U D.nx σ' G')) : SM U (tFor (iRng1 ta) (gName i0) ts) D σ G := fun H j =>
  h H j _ fun vs H1 G1 j1 ⟨n, e, b1, b2, P, h0, hs, hd⟩ => ⟨n, e, b1, b2, for_range (lo := 0) (n := n.toNat) (fun i => KJ U (P i)) ⟨G1, j1, h0⟩
    (fun i σ' H' hi ⟨G', j', p⟩ => by
      have e0 : (0 : Int) + (i : Int) = (i : Int) := Int.zero_add _
      show ts ⟨KJ U (P (i + 1)), D.rt, D.nx, KJ U (P (i + 1))⟩ (σ'.set i0 (some (.int ((0 : Int) + (i : Int))))) H'
      rw [e0]
      exact hs i σ' G' (by omega) p H' j') (fun σ' H' ⟨G', j', p⟩ => hd σ' G' p H' j')⟩
theorem sm_forR2 {ta : TA} {i0 : Nat} (h : AM U ta σ G fun vs G1 => ∃ lo n : Int, vs = [.int lo, .int n] ∧ (-(2 ^ 62) ≤ lo ∧ lo < 2 ^ 62 ∧ -(2 ^ 62) ≤ n ∧ n < 2 ^ 62) ∧ ∃ P : Nat → L2.St → Hp → Prop, P 0 σ G1 ∧
    (∀ (i : Nat) σ' G', lo + (i : Int) < n → P i σ' G' → SM U ts ⟨KJ U (P (i + 1)), D.rt, D.nx, KJ U (P (i + 1))⟩ (σ'.set i0 (some (.int (lo + (i : Int))))) G') ∧ (∀ σ' G', P (n - lo).toNat σ' G' → KM U D.nx σ' G')) : SM U (tFor (iRng2 ta) (gName i0) ts) D σ G := fun H j =>
  h H j _ fun vs H1 G1 j1 ⟨lo, n, e, b, P, h0, hs, hd⟩ => ⟨lo, n, e, b, for_range (lo := lo) (n := (n - lo).toNat) (fun i => KJ U (P i)) ⟨G1, j1, h0⟩
    (fun i σ' H' hi ⟨G', j', p⟩ => hs i σ' G' (by omega) p H' j') (fun σ' H' ⟨G', j', p⟩ => hd σ' G' p H' j')⟩
theorem sm_while (W : Nat → L2.St → Hp → Prop) (m0 : Nat) (h0 : W m0 σ G)
    (hs : ∀ m σ' G', W m σ' G' → TM U t σ' G' fun b G1 => if b = true then SM U ts ⟨KJ U (fun σ2 G2 => ∃ m', m' < m ∧ W m' σ2 G2), D.rt, D.nx, KJ U (fun σ2 G2 => ∃ m', m' < m ∧ W m' σ2 G2)⟩ σ' G1 else KM U D.nx σ' G1) : SM U (tWhile t ts) D σ G := fun H j =>
  ⟨fun m => KJ U (W m), ⟨m0, G, j, h0⟩, fun m σ' H' ⟨G', j', w⟩ => hs m σ' G' w H' j' _ fun b H1 G1 j1 h1 => by
    cases b with
    | true =>
      rw [if_pos rfl] at h1 ⊢
      exact ⟨KJ U (fun σ2 G2 => ∃ m', m' < m ∧ W m' σ2 G2), fun σ2 H2 ⟨G2, j2, m', hm, w'⟩ => ⟨m', hm, G2, j2, w'⟩, h1 H1 j1⟩
    | false => rw [if_neg Bool.false_ne_true] at h1 ⊢; exact h1 H1 j1⟩
/-! ### comprehensions -/
theorem em_lcR1 {ta : TA} {i0 : Nat} {vs : List Nat} (h : AM U ta σ G fun ws G1 => ∃ n : Int, ws = [.int n] ∧ 0 ≤ n ∧ n ≤ 16000000 ∧ (∀ x, wipe ((wipe σ vs).set i0 (some x)) vs = wipe σ vs) ∧ ∃ P : Nat → List V → Hp → Prop, P 0 [] G1 ∧ (∀ i acc G', P i acc G' → acc.length ≤ i) ∧
    (∀ (i : Nat) acc G' (D : Addr) (U' : Vx), U' = U.hide D (.lst acc) → ¬ U.m D → (i : Int) < n → P i acc G' → TM U' tt ((wipe σ vs).set i0 (some (.int (i : Int)))) G' fun b G2 => if b = true then EM U' te ((wipe σ vs).set i0 (some (.int (i : Int)))) G2 fun y G3 => P (i + 1) (acc ++ [y]) G3 else P (i + 1) acc G2) ∧
    (∀ acc D G' G'', P n.toNat acc G' → Ex G' G'' → G' D = none → G'' D = some (.lst acc) → Q (.ref D) G'')) : EM U (tLc (iRng1 ta) (gName i0) tt te vs) σ G Q := fun H j QH q =>
  h H j _ fun ws H1 G1 j1 ⟨n, e, b1, b2, hw, P, h0, hz, hs, hd⟩ => ⟨n, e, by omega, by omega, fun D hD => by
    have nm : ¬ U.m D := fun z => (j1.msk D z).2 hD
    have nh : U.He D = none := none_of_ex j1.keep hD
    refine lc_range (lo := 0) (n := n.toNat) (fun i H' => ∃ acc G', J (U.hide D (.lst acc)) H' G' ∧ P i acc G') ⟨[], G1, ?_, h0⟩ (fun i H' hi ⟨acc, G', j', p⟩ => ?_) (fun H' ⟨acc, G', j', p⟩ => ?_)
    · have ja := j1.alloc (o := .lst []) hD
      refine ⟨fun a u e => ?_, ja.keep, j1.new, ⟨ja.hid, upd_same⟩, fun a ma => ?_⟩
      · rw [upd_ne (fun z => by subst z; rw [j1.free hD] at e; cases e)]; exact j1.up a u e
      · rcases ma with ma | rfl
        · obtain ⟨q1, q2⟩ := j1.msk a ma
          refine ⟨q1, ?_⟩
          rw [upd_ne (fun z => by subst z; exact q2 hD)]; exact q2
        · exact ⟨j1.free hD, by rw [upd_same]; exact fun q => by cases q⟩
    · have e0 : (0 : Int) + (i : Int) = (i : Int) := Int.zero_add _
      show wipe ((wipe σ vs).set i0 (some (.int ((0 : Int) + (i : Int))))) vs = wipe σ vs ∧ tt ((wipe σ vs).set i0 (some (.int ((0 : Int) + (i : Int))))) H' fun b H3 => if b = true then te ((wipe σ vs).set i0 (some (.int ((0 : Int) + (i : Int))))) H3 fun y H4 => ∃ acc, H4 D = some (.lst acc) ∧ acc.length < sizeLine ∧ ∃ acc' G', J (U.hide D (.lst acc')) (upd H4 D (.lst (acc ++ [y]))) G' ∧ P (i + 1) acc' G' else ∃ acc' G', J (U.hide D (.lst acc')) H3 G' ∧ P (i + 1) acc' G'
      rw [e0]
      refine ⟨hw _, hs i acc G' D _ rfl nm (by omega) p H' j' _ fun b H3 G3 j3 h3 => ?_⟩
      cases b with
      | true =>
        rw [if_pos rfl] at h3 ⊢
        refine h3 H3 j3 _ fun y H4 G4 j4 h4 => ⟨acc, j4.hid.2, ?_, acc ++ [y], G4, j4.rehide nm nh, h4⟩
        have := hz i acc G' p
        exact Nat.lt_of_le_of_lt this (Nat.lt_of_lt_of_le (show i < 16000000 by omega) (by decide))
      | false =>
        rw [if_neg Bool.false_ne_true] at h3 ⊢
        exact ⟨acc, G3, j3, h3⟩
    · have gd : G' D = none := (j'.msk D (.inr rfl)).1
      exact q _ _ _ (j'.unhide nm nh) (hd acc D G' _ p (Ex.new gd) gd upd_same)⟩
end
/-! ### built-ins by named readings -/
section
variable {X : Cx}
def rLenQ (K : PySem.W.Frag) : List V → Hp → VK → Prop := fun xs H Q => ∃ p ys, xs = [.ref p] ∧ (SqL K H p ys ∨ SqT K H p ys) ∧ Q (.int ys.length) H
def rIntQ : List V → Hp → VK → Prop := fun xs H Q => (∃ i, xs = [.int i] ∧ Q (.int i) H) ∨ ∃ k, xs = [.bl k] ∧ Q (.int (if k then 1 else 0)) H
def rMaxQ : List V → Hp → VK → Prop := fun xs H Q => ∃ i j, xs = [.int i, .int j] ∧ Q (.int (if j > i then j else i)) H
def rMinQ : List V → Hp → VK → Prop := fun xs H Q => ∃ i j, xs = [.int i, .int j] ∧ Q (.int (if j < i then j else i)) H
def rListQ (K : PySem.W.Frag) : List V → Hp → VK → Prop := fun xs H Q => ∃ p ys, xs = [.ref p] ∧ (SqL K H p ys ∨ SqT K H p ys) ∧ ∀ l, H l = none → Q (.ref l) (upd H l (.lst ys))
def rTupQ (K : PySem.W.Frag) : List V → Hp → VK → Prop := fun xs H Q => ∃ p ys, xs = [.ref p] ∧ ((SqL K H p ys ∧ ∀ l, H l = none → Q (.ref l) (upd H l (.tup ys))) ∨ (SqT K H p ys ∧ Q (.ref p) H))
theorem cq_len : CallR X (.builtin "len") (rLenQ X.K) := call_len_seq
theorem cq_int : CallR X (.type "int") rIntQ := call_int1
theorem cq_max (hc : X.calm = true := by rfl) : CallR X (.builtin "max") rMaxQ := call_max2 hc
theorem cq_min (hc : X.calm = true := by rfl) : CallR X (.builtin "min") rMinQ := call_min2 hc
theorem cq_list : CallR X (.type "list") (rListQ X.K) := call_list_of
theorem cq_tuple : CallR X (.type "tuple") (rTupQ X.K) := call_tuple_of
end
section
variable {U : Vx} {σ : L2.St} {G : Hp} {Q : VK} {K : PySem.W.Frag}
theorem rm_lenL {p : Addr} {ys : List V} (h : SqL K G p ys) (k : Q (.int ys.length) G) : RM U (rLenQ K [.ref p]) G Q := fun H j _ q => ⟨p, ys, rfl, .inl (ex_l j.up h), q _ H G j k⟩
theorem rm_lenT {p : Addr} {ys : List V} (h : SqT K G p ys) (k : Q (.int ys.length) G) : RM U (rLenQ K [.ref p]) G Q := fun H j _ q => ⟨p, ys, rfl, .inr (ex_t j.up h), q _ H G j k⟩
theorem rm_int {i : Int} (k : Q (.int i) G) : RM U (rIntQ [.int i]) G Q := fun H j _ q => .inl ⟨i, rfl, q _ H G j k⟩
theorem rm_max {i l : Int} (k : Q (.int (if l > i then l else i)) G) : RM U (rMaxQ [.int i, .int l]) G Q := fun H j _ q => ⟨i, l, rfl, q _ H G j k⟩
theorem rm_min {i l : Int} (k : Q (.int (if l < i then l else i)) G) : RM U (rMinQ [.int i, .int l]) G Q := fun H j _ q => ⟨i, l, rfl, q _ H G j k⟩
theorem rm_list {p : Addr} {ys : List V} (h : SqL K G p ys ∨ SqT K G p ys) (k : ∀ l G', G l = none → Ex G G' → G' l = some (.lst ys) → Q (.ref l) G') : RM U (rListQ K [.ref p]) G Q := fun H j _ q => ⟨p, ys, rfl, h.elim (fun h => .inl (ex_l j.up h)) (fun h => .inr (ex_t j.up h)), fun l hl => q _ _ _ (j.alloc hl) (k l _ (j.free hl) (Ex.new (j.free hl)) upd_same)⟩
theorem rm_tupL {p : Addr} {ys : List V} (h : SqL K G p ys) (k : ∀ l G', G l = none → Ex G G' → G' l = some (.tup ys) → Q (.ref l) G') : RM U (rTupQ K [.ref p]) G Q := fun H j _ q => ⟨p, ys, rfl, .inl ⟨ex_l j.up h, fun l hl => q _ _ _ (j.alloc hl) (k l _ (j.free hl) (Ex.new (j.free hl)) upd_same)⟩⟩
theorem rm_tupT {p : Addr} {ys : List V} (h : SqT K G p ys) (k : Q (.ref p) G) : RM U (rTupQ K [.ref p]) G Q := fun H j _ q => ⟨p, ys, rfl, .inr ⟨ex_t j.up h, q _ _ _ j k⟩⟩
theorem rm_sum {a : Addr} {ns : List Int} (h : SqL K G a (ns.map V.int)) (k : Q (.int ns.sum) G) : RM U (rSum K [.ref a]) G Q := fun H j _ q => ⟨a, ns, rfl, ex_l j.up h, q _ H G j k⟩
theorem rm_all {a : Addr} {bs : List Bool} (h : SqL K G a (bs.map V.bl)) (k : Q (.bl (bs.all id)) G) : RM U (rAll K [.ref a]) G Q := fun H j _ q => ⟨a, bs, rfl, ex_l j.up h, q _ H G j k⟩
theorem rm_any {a : Addr} {bs : List Bool} (h : SqL K G a (bs.map V.bl)) (k : Q (.bl (bs.any id)) G) : RM U (rAny K [.ref a]) G Q := fun H j _ q => ⟨a, bs, rfl, ex_l j.up h, q _ H G j k⟩
theorem rm_isB {a b : Bool} (k : Q (.bl (decide (a = b))) G) : RM U (rIsB (.bl a) (.bl b)) G Q := fun H j _ q => ⟨a, b, rfl, rfl, q _ H G j k⟩
theorem rm_notB {a b : Bool} (k : Q (.bl (!decide (a = b))) G) : RM U (rNotB (.bl a) (.bl b)) G Q := fun H j _ q => ⟨a, b, rfl, rfl, q _ H G j k⟩
/-- isinstance(n, int), isinstance(n, bool) of an int -/
theorem rm_isiI {i : Int} (k : Q (.bl true) G) : RM U (rIsi K [.int i, .ty "int"]) G Q := fun H j _ q => ⟨.int i, .ty "int", .type "int", .type "int", true, rfl, .ty "int", .base (by constructor), kit_ty (by decide +kernel), q _ H G j k⟩
theorem rm_isiB {i : Int} (k : Q (.bl false) G) : RM U (rIsi K [.int i, .ty "bool"]) G Q := fun H j _ q => ⟨.int i, .ty "bool", .type "int", .type "bool", false, rfl, .ty "bool", .base (by constructor), kit_ty (by decide +kernel), q _ H G j k⟩
end
/-! ### defs and methods of the text -/
structure Def (K : PySem.W.Frag) (mg : Str → Option Value) (x qual : Str) (st : Stmt) (ps : List Str) (f : Addr) (fd : FuncData) : Prop where
  F : FunD K x qual (defArgs st) (defBody st) (defScope st) [] [] f fd
  g : mg x = some (.ref f)
  b : Binds K fd ps []
structure MDef (K : PySem.W.Frag) (mg : Str → Option Value) (x qual : Str) (st : Stmt) (ps : List Str) (f : Addr) (fd : FuncData) : Prop where
  F : FunD K x qual (defArgs st) (defBody st) (defScope st) [] [] f fd
  b : Binds K fd ps []
/-! ### the law's draws: a list of two ints that is hidden -/
def wo (st : Addr) (G : Hp) : Hp := fun a => if a = st then none else G a
theorem wo_same {st : Addr} {G : Hp} : wo st G st = none := by unfold wo; rw [if_pos rfl]
theorem wo_ne {st a : Addr} {G : Hp} (h : a ≠ st) : wo st G a = G a := by unfold wo; rw [if_neg h]
def spDraw (K : PySem.W.Frag) : Sp := fun vs H Q _ => ∃ (st sc : Addr) (ns : List Int) (a b sz : Int), vs = [.ref st, .ref sc, .int sz] ∧ H st = some (.lst [.int a, .int b]) ∧ 0 ≤ a ∧ 0 ≤ b ∧ SqL K (wo st H) sc (ns.map V.int) ∧ 0 < sz ∧ sz.natAbs.log2 < 9000 ∧
  ∀ (d a' b' : Int) (H' : Hp), 0 ≤ d → d < sz → 0 ≤ a' → 0 ≤ b' → (∀ x o, x ≠ st → H x = some o → H' x = some o) → H' st = some (.lst [.int a', .int b']) → Q (.int d) H'
def StAt (H : Hp) (st : Addr) : Prop := ∃ a b : Int, H st = some (.lst [.int a, .int b]) ∧ 0 ≤ a ∧ 0 ≤ b
structure DrawOk (U : Vx) (st : Addr) : Prop where
  m : U.m st
  ne : U.He st = none
  at_ : ∀ H, U.I H → StAt H st
  to : ∀ H H', U.I H → (∀ x, U.m x → x ≠ st → H' x = H x) → StAt H' st → U.I H'
theorem DrawOk.hide {U : Vx} {st D : Addr} {o : HO} (d : DrawOk U st) (h : ¬ U.m D) : DrawOk (U.hide D o) st where
  m := .inl d.m
  ne := d.ne
  at_ := fun H i => d.at_ H i.1
  to := fun H H' i e s => ⟨d.to H H' i.1 (fun x mx nx => e x (.inl mx) nx) s, by
    rw [e D (.inr rfl) (fun z => by subst z; exact h d.m)]; exact i.2⟩
section
variable {U : Vx} {σ : L2.St} {G : Hp} {Q : VK} {K : PySem.W.Frag}
theorem cm_draw {st sc : Addr} {ns : List Int} {sz : Int} (d : DrawOk U st) (h : SqL K G sc (ns.map V.int)) (h0 : 0 < sz) (hz : sz.natAbs.log2 < 9000) (k : ∀ n : Int, 0 ≤ n → n < sz → Q (.int n) G) : CM U (spDraw K) [.ref st, .ref sc, .int sz] G Q := fun H j QH q E => by
  obtain ⟨a, b, e, ha, hb⟩ := d.at_ H j.hid
  refine ⟨st, sc, ns, a, b, sz, rfl, e, ha, hb, ex_l (H := G) (fun x o ex => by
    have nx : x ≠ st := fun z => by subst z; rw [(j.msk x d.m).1] at ex; cases ex
    rw [wo_ne nx]; exact j.up x o ex) h, h0, hz, fun n a' b' H' n0 n1 ha' hb' hx he => q _ H' G ?_ (k n n0 n1)⟩
  have gs := (j.msk st d.m).1
  exact {
    up := fun x o ex => hx x o (fun z => by subst z; rw [gs] at ex; cases ex) (j.up x o ex)
    keep := fun x o ex => hx x o (fun z => by subst z; rw [d.ne] at ex; cases ex) (j.keep x o ex)
    new := j.new
    hid := d.to H H' j.hid (fun x mx nx => by
      cases z : H x with
      | none => exact absurd z (j.msk x mx).2
      | some o => exact hx x o nx z) ⟨a', b', he, ha', hb'⟩
    msk := fun x mx => ⟨(j.msk x mx).1, by
      by_cases nx : x = st
      · subst nx; rw [he]; exact fun q => by cases q
      · cases z : H x with
        | none => exact absurd z (j.msk x mx).2
        | some o => rw [hx x o nx z]; exact fun q => by cases q⟩ }
end
/-- the law's own view: its script shown, the draws' list hidden -/
def V1 (H G : Hp) (st : Addr) : Vx := ⟨H, G, fun H' => StAt H' st, fun a => a = st, fun H1 H2 ⟨a, b, e, h⟩ k => ⟨a, b, by rw [k st rfl]; exact e, h⟩⟩
theorem V1.draw {H G : Hp} {st : Addr} (h : H st = none) : DrawOk (V1 H G st) st := ⟨rfl, h, fun _ i => i, fun _ _ _ _ s => s⟩
theorem J.draws {H0 G0 H G : Hp} {st : Addr} (j : J (V0 H0 G0) H G) (h : H st = some (.lst [.int 0, .int 0])) : J (V1 H0 G0 st) H (wo st G) where
  up := fun a o e => by
    by_cases z : a = st
    · rw [z, wo_same] at e; cases e
    · rw [wo_ne z] at e; exact j.up a o e
  keep := j.keep
  new := fun a q gg => by
    by_cases z : a = st
    · rw [z, wo_same] at q; exact absurd rfl q
    · rw [wo_ne z] at q; exact j.new a q gg
  hid := ⟨0, 0, h, Int.le_refl 0, Int.le_refl 0⟩
  msk := fun a z => by
    have z' : a = st := z
    subst z'
    exact ⟨wo_same, by rw [h]; exact fun q => by cases q⟩
/-- from the statement that makes the draws' list on: the rest under the view V1 -/
theorem sm_draws {H0 G0 G : Hp} {t : TS} {D : Ends} {σ : L2.St} {st : Addr} (h : G st = some (.lst [.int 0, .int 0])) (g : G0 st = none) (k : ∀ G1, (∀ a o, a ≠ st → G a = some o → G1 a = some o) → H0 st = none → G1 st = none → SM (V1 H0 G0 st) t D σ G1) : SM (V0 H0 G0) t D σ G := fun H j =>
  k (wo st G) (fun a o z e => by rw [wo_ne z]; exact e) (j.new st (by rw [h]; exact fun q => by cases q) g) wo_same H (j.draws (j.up _ _ h))
section
variable {U : Vx} {σ : L2.St} {G : Hp} {Q : VK} {K : PySem.W.Frag} {te : TE} {tt : TT}
/-- [e for i in range(n)], [.. if t]: a list whose items are told by the turn alone -/
theorem em_filtR1 {ta : TA} {i0 : Nat} {vs : List Nat} (f : Nat → Bool) (v : Nat → V) (h : AM U ta σ G fun ws G1 => ∃ n : Int, ws = [.int n] ∧ 0 ≤ n ∧ n ≤ 16000000 ∧ (∀ x, wipe ((wipe σ vs).set i0 (some x)) vs = wipe σ vs) ∧
    (∀ (i : Nat) G' (U' : Vx), Ex G1 G' → (i : Int) < n → TM U' tt ((wipe σ vs).set i0 (some (.int (i : Int)))) G' fun b G2 => b = f i ∧ Ex G' G2 ∧ (b = true → EM U' te ((wipe σ vs).set i0 (some (.int (i : Int)))) G2 fun y G3 => y = v i ∧ Ex G2 G3)) ∧
    (∀ D G'', Ex G1 G'' → G1 D = none → G'' D = some (.lst (given n.toNat f v)) → Q (.ref D) G'')) : EM U (tLc (iRng1 ta) (gName i0) tt te vs) σ G Q := by
  refine em_lcR1 (fun H j QH q => h H j QH fun ws H' G1 j1 ⟨n, e, b1, b2, hw, hs, hd⟩ => q ws H' G1 j1 ⟨n, e, b1, b2, hw, fun i acc G' => acc = given i f v ∧ Ex G1 G', ⟨rfl, Ex.refl G1⟩, fun i acc G' p => by rw [p.1]; exact given_len i f v, ?_, ?_⟩)
  · intro i acc G' D U' _ _ hi ⟨p1, p2⟩ H j QT qt
    refine hs i G' U' p2 hi H j _ fun b H1 G2 j1 ⟨hb, e1, k⟩ => qt b H1 G2 j1 ?_
    cases b with
    | true =>
      rw [if_pos rfl]
      intro H2 j2 QE qe
      refine k rfl H2 j2 _ fun y H3 G3 j3 ⟨hy, e3⟩ => qe y H3 G3 j3 ⟨?_, (p2.trans e1).trans e3⟩
      rw [given_yes hb.symm, p1, hy]
    | false =>
      rw [if_neg Bool.false_ne_true]
      refine ⟨?_, p2.trans e1⟩
      rw [given_no hb.symm, p1]
  · intro acc D G' G'' ⟨p1, p2⟩ e g1 g2
    refine hd D G'' (p2.trans e) (none_of_ex p2 g1) ?_
    rw [← p1]; exact g2
theorem given_all (n : Nat) (v : Nat → V) : given n (fun _ => true) v = (List.range n).map v := by
  unfold given
  rw [List.filter_eq_self.mpr (fun _ _ => rfl)]
theorem em_mapR1 {ta : TA} {i0 : Nat} {vs : List Nat} (v : Nat → V) (h : AM U ta σ G fun ws G1 => ∃ n : Int, ws = [.int n] ∧ 0 ≤ n ∧ n ≤ 16000000 ∧ (∀ x, wipe ((wipe σ vs).set i0 (some x)) vs = wipe σ vs) ∧
    (∀ (i : Nat) G' (U' : Vx), Ex G1 G' → (i : Int) < n → EM U' te ((wipe σ vs).set i0 (some (.int (i : Int)))) G' fun y G3 => y = v i ∧ Ex G' G3) ∧
    (∀ D G'', Ex G1 G'' → G1 D = none → G'' D = some (.lst ((List.range n.toNat).map v)) → Q (.ref D) G'')) : EM U (tLc (iRng1 ta) (gName i0) tYes te vs) σ G Q := by
  refine em_filtR1 (fun _ => true) v (fun H j QH q => h H j QH fun ws H' G1 j1 ⟨n, e, b1, b2, hw, hs, hd⟩ => q ws H' G1 j1 ⟨n, e, b1, b2, hw, fun i G' U' p hi => tm_yes ⟨rfl, Ex.refl G', fun _ => hs i G' U' p hi⟩, fun D G'' e1 g1 g2 => hd D G'' e1 g1 ?_⟩)
  rw [← given_all]; exact g2
/-- over a list that stands -/
theorem em_lcL {tl : TE} {g : TG} {vs : List Nat} (h : EM U tl σ G fun w G1 => ∃ a xs, w = .ref a ∧ SqL K G1 a xs ∧ xs.length < 16000000 ∧ ∃ P : Nat → List V → Hp → Prop, P 0 [] G1 ∧ (∀ i acc G', P i acc G' → acc.length ≤ i ∧ SqL K G' a xs) ∧
    (∀ (i : Nat) x acc G' (D : Addr) (U' : Vx), U' = U.hide D (.lst acc) → ¬ U.m D → xs[i]? = some x → P i acc G' → GM U' g x (wipe σ vs) G' fun σ2 G0 => wipe σ2 vs = wipe σ vs ∧ TM U' tt σ2 G0 fun b G2 => if b = true then EM U' te σ2 G2 fun y G3 => P (i + 1) (acc ++ [y]) G3 else P (i + 1) acc G2) ∧
    (∀ acc D G' G'', P xs.length acc G' → Ex G' G'' → G' D = none → G'' D = some (.lst acc) → Q (.ref D) G'')) : EM U (tLc (iList K tl) g tt te vs) σ G Q := fun H j QH q =>
  h H j _ fun w H1 G1 j1 ⟨a, xs, e, hx, hlen, P, h0, hz, hs, hd⟩ => ⟨a, e, ⟨xs, ex_l j1.up hx⟩, fun D hD => by
    have nm : ¬ U.m D := fun z => (j1.msk D z).2 hD
    have nh : U.He D = none := none_of_ex j1.keep hD
    refine lc_list (K := K) (a := a) (xs := xs) (fun i H' => i ≤ xs.length ∧ ∃ acc G', J (U.hide D (.lst acc)) H' G' ∧ P i acc G') ⟨Nat.zero_le _, [], G1, ?_, h0⟩ (fun i H' _ ⟨_, acc, G', j', p⟩ => ex_l j'.up (hz i acc G' p).2) (fun i x H' hi ⟨_, acc, G', j', p⟩ => ?_) (fun H' ⟨_, acc, G', j', p⟩ => ?_)
    · have ja := j1.alloc (o := .lst []) hD
      refine ⟨fun a u e => ?_, ja.keep, j1.new, ⟨ja.hid, upd_same⟩, fun a ma => ?_⟩
      · rw [upd_ne (fun z => by subst z; rw [j1.free hD] at e; cases e)]; exact j1.up a u e
      · rcases ma with ma | rfl
        · obtain ⟨q1, q2⟩ := j1.msk a ma
          refine ⟨q1, ?_⟩
          rw [upd_ne (fun z => by subst z; exact q2 hD)]; exact q2
        · exact ⟨j1.free hD, by rw [upd_same]; exact fun q => by cases q⟩
    · have hil : i < xs.length := (List.getElem?_eq_some_iff.mp hi).1
      refine hs i x acc G' D _ rfl nm hi p H' j' _ fun σ2 H2 G2 j2 ⟨w2, k2⟩ => ⟨w2, k2 H2 j2 _ fun b H3 G3 j3 h3 => ?_⟩
      cases b with
      | true =>
        rw [if_pos rfl] at h3 ⊢
        refine h3 H3 j3 _ fun y H4 G4 j4 h4 => ⟨acc, j4.hid.2, ?_, hil, acc ++ [y], G4, j4.rehide nm nh, h4⟩
        have := (hz i acc G' p).1
        exact Nat.lt_of_le_of_lt this (Nat.lt_of_lt_of_le (show i < 16000000 by omega) (by decide))
      | false =>
        rw [if_neg Bool.false_ne_true] at h3 ⊢
        exact ⟨hil, acc, G3, j3, h3⟩
    · have gd : G' D = none := (j'.msk D (.inr rfl)).1
      exact q _ _ _ (j'.unhide nm nh) (hd acc D G' _ p (Ex.new gd) gd upd_same)⟩
theorem em_mapL {tl : TE} {g : TG} {vs : List Nat} (v : V → V) (h : EM U tl σ G fun w G1 => ∃ a xs, w = .ref a ∧ SqL K G1 a xs ∧ xs.length < 16000000 ∧
    (∀ (i : Nat) x G' (U' : Vx), Ex G1 G' → xs[i]? = some x → GM U' g x (wipe σ vs) G' fun σ2 G2 => wipe σ2 vs = wipe σ vs ∧ Ex G' G2 ∧ EM U' te σ2 G2 fun y G3 => y = v x ∧ Ex G2 G3) ∧
    (∀ D G'', Ex G1 G'' → G1 D = none → G'' D = some (.lst (xs.map v)) → Q (.ref D) G'')) : EM U (tLc (iList K tl) g tYes te vs) σ G Q := by
  refine em_lcL (fun H j QH q => h H j QH fun w H' G1 j1 ⟨a, xs, e, hx, hlen, hs, hd⟩ => q w H' G1 j1 ⟨a, xs, e, hx, hlen, fun i acc G' => i ≤ xs.length ∧ acc = (xs.take i).map v ∧ Ex G1 G', ⟨Nat.zero_le _, rfl, Ex.refl G1⟩, fun i acc G' p => ⟨by rw [p.2.1, List.length_map, List.length_take]; omega, ex_l p.2.2 hx⟩, ?_, ?_⟩)
  · intro i x acc G' D U' _ _ hi ⟨p0, p1, p2⟩ H j QT qt
    have hil : i < xs.length := (List.getElem?_eq_some_iff.mp hi).1
    refine hs i x G' U' p2 hi H j _ fun σ2 H1 G2 j1 ⟨hw, e1, k⟩ => qt σ2 H1 G2 j1 ⟨hw, tm_yes ?_⟩
    rw [if_pos rfl]
    intro H2 j2 QE qe
    refine k H2 j2 _ fun y H3 G3 j3 ⟨hy, e3⟩ => qe y H3 G3 j3 ⟨hil, ?_, (p2.trans e1).trans e3⟩
    rw [p1, hy, List.take_add_one, hi]
    simp
  · intro acc D G' G'' ⟨_, p1, p2⟩ e g1 g2
    refine hd D G'' (p2.trans e) (none_of_ex p2 g1) ?_
    rw [p1, List.take_length] at g2; exact g2
end
/-! ### where ways meet -/
def tCut (t : TS) : TS := fun D σ H => ∃ P : L2.St → Hp → Prop, (∀ σ' H', P σ' H' → D.nx σ' H') ∧ t ⟨P, D.rt, D.bk, D.ct⟩ σ H
theorem ps_cut {X : Cx} {st : Stmt} {t : TS} (h : PS X st t) : PS X st (tCut t) := by
  refine ⟨fun pins s σ H D I ⟨P, hP, ht⟩ => ?_⟩
  refine thn (h.run pins s σ H _ I ht) fun f s1 q => ?_
  cases f with
  | next => obtain ⟨σ', H', I', q'⟩ := q; exact ⟨σ', H', I', hP σ' H' q'⟩
  | ret v => exact q
  | brk => exact q
  | cont => exact q
section
variable {U : Vx} {σ : L2.St} {G : Hp} {Q : VK} {K : PySem.W.Frag} {te to ti : TE} {tt : TT} {t ts : TS} {D : Ends} {v : V}
theorem sm_cut (P : L2.St → Hp → Prop) (h1 : ∀ σ' G', P σ' G' → KM U D.nx σ' G') (h2 : SM U t ⟨KJ U P, D.rt, D.bk, D.ct⟩ σ G) : SM U (tCut t) D σ G := fun H j =>
  ⟨KJ U P, fun σ' H' ⟨G', j', p⟩ => h1 σ' G' p H' j', h2 H j⟩
def SLM (U : Vx) (o i v : V) (G : Hp) (k : Hp → Prop) : Prop := ∃ l xs n j, o = .ref l ∧ i = .int n ∧ G l = some (.lst xs) ∧ U.Ge l = none ∧ ixN xs.length n = some j ∧ k (upd G l (.lst (xs.set j v)))
theorem slm {l : Addr} {xs : List V} {n : Int} {j : Nat} {k : Hp → Prop} (h : G l = some (.lst xs)) (g : U.Ge l = none) (hj : ixN xs.length n = some j) (q : k (upd G l (.lst (xs.set j v)))) : SLM U (.ref l) (.int n) v G k := ⟨l, xs, n, j, rfl, rfl, h, g, hj, q⟩
theorem gm_subL {QG : L2.St → Hp → Prop} (h : EM U to σ G fun o G1 => EM U ti σ G1 fun i G2 => SLM U o i v G2 fun G3 => QG σ G3) : GM U (gSub to ti rSetL) v σ G QG := fun H j QH q =>
  h H j _ fun o H1 G1 j1 h1 => h1 H1 j1 _ fun i H2 G2 j2 ⟨l, xs, n, k, e1, e2, g, ge, hk, h2⟩ => ⟨l, xs, n, k, e1, e2, j2.up _ _ g, hk, q _ _ _ (j2.write g ge) h2⟩
end
/-- the view of a draw: all but the draws' list stays -/
def VD (st : Addr) (H : Hp) : Vx := ⟨wo st H, wo st H, fun _ => True, fun _ => False, fun _ _ _ _ => trivial⟩
theorem wo_ex {st : Addr} {H : Hp} : Ex (wo st H) H := fun x o e => by
  by_cases z : x = st
  · rw [z, wo_same] at e; cases e
  · rw [wo_ne z] at e; exact e
theorem VD.start {st : Addr} {H : Hp} : J (VD st H) H H := ⟨Ex.refl H, wo_ex, fun _ _ g => g, trivial, fun _ z => z.elim⟩
theorem sql_wo {K : PySem.W.Frag} {st a : Addr} {H : Hp} {xs : List V} (h : SqL K H a xs) (ne : a ≠ st) : SqL K (wo st H) a xs := by
  rcases h with (h | ⟨o, h⟩) | h
  · exact .inl (.inl (by rw [wo_ne ne]; exact h))
  · exact .inl (.inr ⟨o, by rw [wo_ne ne]; exact h⟩)
  · exact .inr h
theorem wo_upd {st : Addr} {H G : Hp} {o : HO} (e : Ex (wo st H) G) : Ex (wo st H) (upd G st o) := fun x u ex => by
  have : x ≠ st := fun z => by rw [z, wo_same] at ex; cases ex
  rw [upd_ne this]; exact e x u ex
theorem kv_draw {st : Addr} {H G : Hp} {Q : VK} {sz d a' b' : Int} (q : ∀ (d a' b' : Int) (H' : Hp), 0 ≤ d → d < sz → 0 ≤ a' → 0 ≤ b' → (∀ x o, x ≠ st → H x = some o → H' x = some o) → H' st = some (.lst [.int a', .int b']) → Q (.int d) H')
    (h0 : 0 ≤ d) (h1 : d < sz) (ha : 0 ≤ a') (hb : 0 ≤ b') (g : G st = some (.lst [.int a', .int b'])) : KV (VD st H) Q (.int d) G := fun H' j =>
  q d a' b' H' h0 h1 ha hb (fun x o nx e => j.keep x o (by show wo st H x = some o; rw [wo_ne nx]; exact e)) (j.up _ _ g)
theorem ifd {p A B : Prop} [Decidable p] (h1 : p → A) (h2 : ¬ p → B) : if decide p = true then A else B := by
  by_cases h : p
  · rw [decide_eq_true h, if_pos rfl]; exact h1 h
  · rw [decide_eq_false h, if_neg Bool.false_ne_true]; exact h2 h
theorem ifn {p A B : Prop} [Decidable p] (h1 : ¬ p → A) (h2 : p → B) : if (!decide p) = true then A else B := by
  by_cases h : p
  · rw [decide_eq_true h, Bool.not_true, if_neg Bool.false_ne_true]; exact h2 h
  · rw [decide_eq_false h, Bool.not_false, if_pos rfl]; exact h1 h
theorem ifdT {p A B : Prop} [Decidable p] (h : p) (a : A) : if decide p = true then A else B := ifd (fun _ => a) fun z => absurd h z
theorem ifdF {p A B : Prop} [Decidable p] (h : ¬ p) (b : B) : if decide p = true then A else B := ifd (fun z => absurd z h) fun _ => b
theorem ifnT {p A B : Prop} [Decidable p] (h : ¬ p) (a : A) : if (!decide p) = true then A else B := ifn (fun _ => a) fun z => absurd z h
theorem ifnF {p A B : Prop} [Decidable p] (h : p) (b : B) : if (!decide p) = true then A else B := ifn (fun z => absurd h z) fun _ => b
/-! ### lists of ints as data -/
theorem dpAll_ints {K : PySem.W.Frag} {H : Hp} : ∀ ns : List Int, DpAll K H (ns.map V.int) (ns.map PyData.int)
  | [] => .nil
  | n :: ns => .cons (.int n) (dpAll_ints ns)
theorem canLay_ints : ∀ ns : List Int, PyData.canLayAll0 (ns.map PyData.int) = true
  | [] => by simp [PyData.canLayAll0]
  | n :: ns => by
    show PyData.canLayAll0 (PyData.int n :: ns.map PyData.int) = true
    rw [PyData.canLayAll0, canLay_ints ns]
    simp [PyData.canLay0]
theorem depth_ints : ∀ ns : List Int, PyData.depthAll (ns.map PyData.int) ≤ 1
  | [] => by simp [PyData.depthAll]
  | n :: ns => by
    have h := depth_ints ns
    show PyData.depthAll (PyData.int n :: ns.map PyData.int) ≤ 1
    rw [PyData.depthAll]
    simp only [PyData.depth]
    omega
theorem shaped_ints (ns : List Int) : SeqAt.shaped (.list (ns.map PyData.int)) = true := by
  unfold SeqAt.shaped
  have h := depth_ints ns
  rw [PyData.canLay0, canLay_ints, PyData.depth]
  simp
  omega
theorem shaped_intsT (ns : List Int) : SeqAt.shaped (.tuple (ns.map PyData.int)) = true := by
  unfold SeqAt.shaped
  have h := depth_ints ns
  rw [PyData.canLay0, canLay_ints, PyData.depth]
  simp
  omega
theorem eqv_ints : ∀ ns ms : List Int, PyData.eqvAll (ns.map PyData.int) (ms.map PyData.int) = decide (ns = ms)
  | [], [] => by simp [PyData.eqvAll]
  | [], m :: ms => by simp [PyData.eqvAll]
  | n :: ns, [] => by simp [PyData.eqvAll]
  | n :: ns, m :: ms => by
    show PyData.eqvAll (PyData.int n :: ns.map PyData.int) (PyData.int m :: ms.map PyData.int) = _
    rw [PyData.eqvAll, eqv_ints ns ms, PyData.eqv]
    simp [Bool.decide_and]
    by_cases h : n = m <;> simp [h]
theorem dp_ints {K : PySem.W.Frag} {H : Hp} {a : Addr} {ns : List Int} (h : SqL K H a (ns.map V.int)) : Dp K H (.ref a) (.list (ns.map PyData.int)) := .lst h (dpAll_ints ns)
theorem dp_intsT {K : PySem.W.Frag} {H : Hp} {a : Addr} {ns : List Int} (h : SqT K H a (ns.map V.int)) : Dp K H (.ref a) (.tuple (ns.map PyData.int)) := .tup h (dpAll_ints ns)
section
variable {U : Vx} {σ : L2.St} {G : Hp} {Q : VK} {K : PySem.W.Frag}
theorem rm_eqL {a b : Addr} {ns ms : List Int} (ha : SqL K G a (ns.map V.int)) (hb : SqL K G b (ms.map V.int)) (k : Q (.bl (decide (ns = ms))) G) : RM U (rEqD K (.ref a) (.ref b)) G Q :=
  rm_eqD (dp_ints ha) (dp_ints hb) (shaped_ints ns) (shaped_ints ms) (by rw [PyData.eqv, eqv_ints]; exact k)
theorem rm_neL {a b : Addr} {ns ms : List Int} (ha : SqL K G a (ns.map V.int)) (hb : SqL K G b (ms.map V.int)) (k : Q (.bl (!decide (ns = ms))) G) : RM U (rNeD K (.ref a) (.ref b)) G Q :=
  rm_neD (dp_ints ha) (dp_ints hb) (shaped_ints ns) (shaped_ints ms) (by rw [PyData.eqv, eqv_ints]; exact k)
theorem rm_eqT {a b : Addr} {ns ms : List Int} (ha : SqT K G a (ns.map V.int)) (hb : SqT K G b (ms.map V.int)) (k : Q (.bl (decide (ns = ms))) G) : RM U (rEqD K (.ref a) (.ref b)) G Q :=
  rm_eqD (dp_intsT ha) (dp_intsT hb) (shaped_intsT ns) (shaped_intsT ms) (by rw [PyData.eqv, eqv_ints]; exact k)
theorem rm_neT {a b : Addr} {ns ms : List Int} (ha : SqT K G a (ns.map V.int)) (hb : SqT K G b (ms.map V.int)) (k : Q (.bl (!decide (ns = ms))) G) : RM U (rNeD K (.ref a) (.ref b)) G Q :=
  rm_neD (dp_intsT ha) (dp_intsT hb) (shaped_intsT ns) (shaped_intsT ms) (by rw [PyData.eqv, eqv_ints]; exact k)
/-- an item at an unknown place within bounds -/
theorem atI_ex {xs : List V} {i : Int} (h0 : 0 ≤ i) (h1 : i < xs.length) : ∃ v, v ∈ xs ∧ atI xs i = some v ∧ xs[i.toNat]? = some v := by
  obtain ⟨k, rfl⟩ := Int.eq_ofNat_of_zero_le h0
  have hk : k < xs.length := by omega
  refine ⟨xs[k], List.getElem_mem hk, atI_nat (List.getElem?_eq_getElem hk), ?_⟩
  rw [Int.toNat_natCast]; exact List.getElem?_eq_getElem hk
theorem rm_ixM {p : Addr} {xs : List V} {i : Int} (h : SqL K G p xs) (h0 : 0 ≤ i) (h1 : i < xs.length) (k : ∀ v, v ∈ xs → Q v G) : RM U (rIxL K (.ref p) (.int i)) G Q := by
  obtain ⟨v, hv, e, _⟩ := atI_ex h0 h1
  exact rm_ixL h e (k v hv)
end
theorem log2_pow_lt {n : Nat} (h : n < 9000) : (2 ^ n : Nat).log2 < 9000 := by
  rw [Nat.log2_two_pow]; exact h
theorem pow_cast (n : Nat) : ((2 : Int) ^ n).natAbs = 2 ^ n := by rw [Int.natAbs_pow]; rfl
theorem sz_pow {w : Int} (h0 : 0 ≤ w) (h1 : w < 9000) : 0 < (1 : Int) * 2 ^ w.toNat ∧ ((1 : Int) * 2 ^ w.toNat).natAbs.log2 < 9000 := by
  rw [Int.one_mul]
  refine ⟨PySem.W.kbt_pos _, ?_⟩
  rw [pow_cast]
  exact log2_pow_lt (by omega)
theorem sz_small {n : Int} (h0 : 0 ≤ n) (h1 : n < 2 ^ 8999) : n.natAbs.log2 < 9000 := by
  by_cases z : n = 0
  · subst z; decide
  · have : n.natAbs < 2 ^ 8999 := by
      have e : ((n.natAbs : Nat) : Int) < ((2 ^ 8999 : Nat) : Int) := by
        rw [PySem.W.kbt_cast]; omega
      exact Int.ofNat_lt.mp e
    have := (Nat.log2_lt (by omega)).mpr this
    omega
theorem same_of {H G G1 : Hp} {st : Addr} (hs : H st = none) (e : Ex H G) (k : ∀ a o, a ≠ st → G a = some o → G1 a = some o) : Ex H G1 := fun a o h => k a o (fun z => by rw [z, hs] at h; cases h) (e a o h)
/-! ### rules with the written part by its own name -/
section
variable {X : Cx} {K : PySem.W.Frag} {e : Expr} {te : TE} {tg : Expr} {pos : Pos}
theorem kx_list (h : X.K = K := by rfl) : IxR X (rIxL K) := by subst h; exact ix_list
theorem kx_tup (h : X.K = K := by rfl) : IxR X (rIxT K) := by subst h; exact ix_tup
theorem kq_len (h : X.K = K := by rfl) : CallR X (.builtin "len") (rLenQ K) := by subst h; exact cq_len
theorem kq_list (h : X.K = K := by rfl) : CallR X (.type "list") (rListQ K) := by subst h; exact cq_list
theorem kq_tuple (h : X.K = K := by rfl) : CallR X (.type "tuple") (rTupQ K) := by subst h; exact cq_tuple
theorem kr_sum (h : X.K = K := by rfl) (hc : X.calm = true := by rfl) : CallR X (.builtin "sum") (rSum K) := by subst h; exact cr_sum hc
theorem kr_all (h : X.K = K := by rfl) (hc : X.calm = true := by rfl) : CallR X (.builtin "all") (rAll K) := by subst h; exact cr_all hc
theorem kr_any (h : X.K = K := by rfl) (hc : X.calm = true := by rfl) : CallR X (.builtin "any") (rAny K) := by subst h; exact cr_any hc
theorem kr_isi (h : X.K = K := by rfl) : CallR X (.builtin "isinstance") (rIsi K) := by subst h; exact call_isi
theorem kp_eqD (hu : X.A.units + 64 < cLine) (h : X.K = K := by rfl) : OpR X (compareOp .Eq) (rEqD K) := by subst h; exact op_eqD hu
theorem kp_neD (hu : X.A.units + 64 < cLine) (h : X.K = K := by rfl) : OpR X (compareOp .NotEq) (rNeD K) := by subst h; exact op_neD hu
theorem kp_catT (h : X.K = K := by rfl) : OpR X (binaryOp .Add) (rCatT K) := by subst h; exact op_catT
theorem kp_in (h : X.K = K := by rfl) : OpR X (compareOp .In) (rIn K false) := by subst h; exact op_in_seq
theorem kp_notIn (h : X.K = K := by rfl) : OpR X (compareOp .NotIn) (rIn K true) := by subst h; exact op_notIn_seq
theorem kl_list (h : X.K = K := by rfl) : SlR X (rSlL K) := by subst h; exact sl_list
theorem kl_tup (h : X.K = K := by rfl) : SlR X (rSlT K) := by subst h; exact sl_tup
theorem ke_fld {f : Str} (he : PE X e te) (hb : attributeBase e f X.env (eval e X.env) = eval e X.env := by rfl) (h : X.K = K := by rfl) : PE X (.Attribute e f pos) (tFld K te f) := by subst h; exact pe_fld he hb
theorem ki_list (hl : PE X e te) (h : X.K = K := by rfl) : PI X tg e (iList K te) := by subst h; exact pi_list hl
theorem ki_tup (hl : PE X e te) (h : X.K = K := by rfl) : PI X tg e (iTup K te) := by subst h; exact pi_tup hl
theorem ka_star {es : List Expr} {t : TA} {p : Pos} (he : PE X e te) (hr : PA X es t) (hs : starEach (.Starred e p :: es) X.env = (true, eval e X.env) :: starEach es X.env := by rfl) (h : X.K = K := by rfl) : PA X (.Starred e p :: es) (tStar K te t) := by subst h; exact pa_star he hr hs
end
/-! ### a list or a tuple -/
def SqS (K : PySem.W.Frag) (H : Hp) (a : Addr) (xs : List V) : Prop := SqL K H a xs ∨ SqT K H a xs
theorem ex_s {K : PySem.W.Frag} {H H' : Hp} {a : Addr} {xs : List V} (e : Ex H H') (h : SqS K H a xs) : SqS K H' a xs := h.elim (fun h => .inl (ex_l e h)) fun h => .inr (ex_t e h)
def iOr (w1 w2 : TI) : TI := fun σ H R => w1 σ H R ∨ w2 σ H R
theorem pi_or {X : Cx} {tg e : Expr} {w1 w2 : TI} (h1 : PI X tg e w1) (h2 : PI X tg e w2) : PI X tg e (iOr w1 w2) := ⟨fun pins s σ H R I h => h.elim (h1.run pins s σ H R I) (h2.run pins s σ H R I)⟩
def iSeq (K : PySem.W.Frag) (tl : TE) : TI := iOr (iList K tl) (iTup K tl)
theorem ki_seq {X : Cx} {K : PySem.W.Frag} {tg e : Expr} {te : TE} (hl : PE X e te) (h : X.K = K := by rfl) : PI X tg e (iSeq K te) := pi_or (ki_list hl h) (ki_tup hl h)
section
variable {U : Vx} {σ : L2.St} {G : Hp} {Q : VK} {K : PySem.W.Frag} {tl te ta : TE} {tt : TT} {g : TG} {ts : TS} {D : Ends}
/-- over a list or tuple of B, which stays -/
theorem sm_forS {a : Addr} {xs : List V} {B : Hp} (P : Nat → L2.St → Hp → Prop) (hx : SqS K B a xs) (hB : Ex B G) (h : EM U tl σ G fun v G1 => v = .ref a ∧ G1 = G) (h0 : P 0 σ G) (hp : ∀ i σ' G', P i σ' G' → Ex B G')
    (hs : ∀ i x σ' G', xs[i]? = some x → P i σ' G' → GM U g x σ' G' fun σ2 G2 => SM U ts ⟨KJ U (P (i + 1)), D.rt, D.nx, KJ U (P (i + 1))⟩ σ2 G2) (hd : ∀ σ' G', P xs.length σ' G' → KM U D.nx σ' G') : SM U (tFor (iSeq K tl) g ts) D σ G := by
  rcases hx with hx | hx
  · have k : SM U (tFor (iList K tl) g ts) D σ G := sm_forL (fun H j QH q => h H j QH fun v H' G1 j1 ⟨e, eg⟩ => q v H' G1 j1 ⟨a, xs, e, by rw [eg]; exact ex_l hB hx, P, by rw [eg]; exact h0, fun i σ' G' _ p => ex_l (hp i σ' G' p) hx, hs, hd⟩)
    exact fun H j => .inl (k H j)
  · have k : SM U (tFor (iTup K tl) g ts) D σ G := sm_forT (fun H j QH q => h H j QH fun v H' G1 j1 ⟨e, eg⟩ => q v H' G1 j1 ⟨a, xs, e, by rw [eg]; exact ex_t hB hx, P, by rw [eg]; exact h0, fun i σ' G' _ p => ex_t (hp i σ' G' p) hx, hs, hd⟩)
    exact fun H j => .inr (k H j)
theorem rm_lenS {p : Addr} {ys : List V} (h : SqS K G p ys) (k : Q (.int ys.length) G) : RM U (rLenQ K [.ref p]) G Q := h.elim (fun h => rm_lenL h k) fun h => rm_lenT h k
theorem rm_tupS {p : Addr} {ys : List V} (h : SqS K G p ys) (k : ∀ l G', Ex G G' → SqT K G' l ys → Q (.ref l) G') : RM U (rTupQ K [.ref p]) G Q :=
  h.elim (fun h => rm_tupL h fun l G' _ e g => k l G' e (st_of g)) fun h => rm_tupT h (k p G (Ex.refl G) h)
/-! ### making -/
theorem J.writeX {H G H' : Hp} {p : Addr} {o' : HO} (j : J U H G) (hk : ∀ b o, b ≠ p → H b = some o → H' b = some o) (hp : H' p = some o') (h : ∃ o, G p = some o) (g : U.Ge p = none) : J U H' (upd G p o') := by
  obtain ⟨o, h⟩ := h
  exact {
    up := fun a u e => by
      by_cases z : a = p
      · subst z; rw [upd_same] at e; rw [hp]; exact e
      · rw [upd_ne z] at e; exact hk a u z (j.up a u e)
    keep := fun a u e => by
      have : a ≠ p := fun z => by
        subst z
        rw [j.new a (by rw [h]; exact fun q => by cases q) g] at e; cases e
      exact hk a u this (j.keep a u e)
    new := fun a e q => by
      by_cases z : a = p
      · subst z; exact j.new a (by rw [h]; exact fun q => by cases q) q
      · rw [upd_ne z] at e; exact j.new a e q
    hid := U.st H _ j.hid fun a ma => by
      have q := (j.msk a ma)
      have : a ≠ p := fun z => by subst z; rw [h] at q; cases q.1
      cases z : H a with
      | none => exact absurd z q.2
      | some o => rw [hk a o this z]
    msk := fun a ma => by
      obtain ⟨q1, q2⟩ := j.msk a ma
      have : a ≠ p := fun z => by subst z; rw [h] at q1; cases q1
      rw [upd_ne this]
      refine ⟨q1, ?_⟩
      cases z : H a with
      | none => exact absurd z q2
      | some o => rw [hk a o this z]; exact fun q => by cases q }
theorem em_makeI {C : Addr} {fs : List (Str × V)} {sp : Sp} {E : XK} {tas : TA} (h : AM U tas σ G fun vs G1 => (∀ x dx H QI EI, H x = some (.ins C dx []) → (∀ H', (∀ b o, b ≠ x → H b = some o → H' b = some o) → H' x = some (.ins C dx fs) → QI .non H') → sp (.ref x :: vs) H QI EI) ∧
    ∀ x dx G2, G1 x = none → Ex G1 G2 → G2 x = some (.ins C dx fs) → Q (.ref x) G2) : EM U (tMake C sp [] E tas) σ G Q := fun H j QH q =>
  h H j _ fun vs H1 G1 j1 ⟨hi, hk⟩ x dx nx ndx ne => by
    show sp (.ref x :: (vs ++ [])) _ _ _
    rw [List.append_nil]
    have n2 : upd H1 dx (.own x) x = none := by rw [upd_ne (Ne.symm ne)]; exact nx
    have j2 := (j1.alloc (o := .own x) ndx).alloc (o := .ins C dx []) n2
    refine hi x dx _ _ _ upd_same fun H' hk' hx' => ⟨rfl, ?_⟩
    have gx : U.Ge x = none ∨ U.Ge x ≠ none := by cases U.Ge x <;> simp
    have gn : G1 x = none := j1.free nx
    refine q _ H' _ (?_ : J U H' (upd (upd G1 dx (.own x)) x (.ins C dx fs))) (hk x dx _ gn (fun a o e => ?_) upd_same)
    · have e1 : upd (upd (upd G1 dx (.own x)) x (.ins C dx [])) x (.ins C dx fs) = upd (upd G1 dx (.own x)) x (.ins C dx fs) := upd_upd
      exact {
        up := fun a u e => by
          by_cases z : a = x
          · subst z; rw [upd_same] at e; rw [hx']; exact e
          · rw [upd_ne z] at e; exact hk' a u z (j2.up a u (by rw [upd_ne z]; exact e))
        keep := fun a u e => by
          have e0 := j1.keep a u e
          have na : a ≠ x := ne_of_none e0 nx
          exact hk' a u na (j2.keep a u e)
        new := fun a e q => by
          by_cases z : a = x
          · subst z; exact none_of_ex j1.keep nx
          · exact j2.new a (by rw [upd_ne z] at e ⊢; exact e) q
        hid := U.st _ _ j2.hid fun a ma => by
          have q := j2.msk a ma
          have na : a ≠ x := fun z => by subst z; rw [upd_same] at q; cases q.1
          cases z : upd (upd H1 dx (HO.own x)) x (HO.ins C dx []) a with
          | none => exact absurd z q.2
          | some o => rw [hk' a o na z]
        msk := fun a ma => by
          obtain ⟨q1, q2⟩ := j2.msk a ma
          have na : a ≠ x := fun z => by subst z; rw [upd_same] at q1; cases q1
          refine ⟨by rw [upd_ne na] at q1 ⊢; exact q1, ?_⟩
          cases z : upd (upd H1 dx (HO.own x)) x (HO.ins C dx []) a with
          | none => exact absurd z q2
          | some o => rw [hk' a o na z]; exact fun q => by cases q }
    · have na : a ≠ x := ne_of_none e gn
      have nd : a ≠ dx := ne_of_none e (j1.free ndx)
      rw [upd_ne na, upd_ne nd]; exact e
/-! ### a law's own defs that draw -/
end
def spS (K : PySem.W.Frag) (pre : List V → Hp → Prop) (post : List V → V → Hp → Prop) : Sp := fun vs H Q _ => ∃ (st sc : Addr) (ns : List Int) (rest : List V) (G : Hp), vs = .ref st :: .ref sc :: rest ∧ StAt H st ∧ G st = none ∧ Ex G H ∧ SqL K G sc (ns.map V.int) ∧ pre rest G ∧
  ∀ v H' G', (∀ x o, x ≠ st → H x = some o → H' x = some o) → StAt H' st → Ex G G' → Ex G' H' → (∀ a, G' a ≠ none → G a = none → H a = none) → G' st = none → post rest v G' → Q v H'
/-- the view of such a def -/
def VS (st : Addr) (H G : Hp) : Vx := ⟨wo st H, G, fun H' => StAt H' st, fun a => a = st, fun H1 H2 ⟨a, b, e, h⟩ k => ⟨a, b, by rw [k st rfl]; exact e, h⟩⟩
theorem VS.draw {st : Addr} {H G : Hp} : DrawOk (VS st H G) st := ⟨rfl, wo_same, fun _ i => i, fun _ _ _ _ s => s⟩
theorem VS.start {st : Addr} {H G : Hp} (s : StAt H st) (g : G st = none) (e : Ex G H) : J (VS st H G) H G := ⟨e, wo_ex, fun a q z => absurd z q, s, fun a z => by
  have z' : a = st := z
  subst z'
  obtain ⟨x, y, h, _⟩ := s
  exact ⟨g, by rw [h]; exact fun q => by cases q⟩⟩
section
variable {U : Vx} {σ : L2.St} {G : Hp} {Q : VK} {K : PySem.W.Frag}
theorem kv_s {st : Addr} {H0 G0 : Hp} {p : V → Hp → Prop} {v : V} (k : ∀ v H' G', (∀ x o, x ≠ st → H0 x = some o → H' x = some o) → StAt H' st → Ex G0 G' → Ex G' H' → (∀ a, G' a ≠ none → G0 a = none → H0 a = none) → G' st = none → p v G' → Q v H') (e : Ex G0 G) (h : p v G) : KV (VS st H0 G0) Q v G := fun H j =>
  k v H G (fun x o nx ex => j.keep x o (by show wo st H0 x = some o; rw [wo_ne nx]; exact ex)) j.hid e j.up (fun a q z => by
    have n := j.new a q z
    have na : a ≠ st := fun w => by subst w; exact q (j.msk a rfl).1
    have n' : wo st H0 a = none := n
    rw [wo_ne na] at n'; exact n') (j.msk st rfl).1 h
theorem cm_s {pre : List V → Hp → Prop} {post : List V → V → Hp → Prop} {st sc : Addr} {ns : List Int} {rest : List V} (d : DrawOk U st) (hs : SqL K G sc (ns.map V.int)) (h : pre rest G) (k : ∀ v G', Ex G G' → post rest v G' → Q v G') : CM U (spS K pre post) (.ref st :: .ref sc :: rest) G Q := fun H j QH q E => by
  have gs := (j.msk st d.m).1
  refine ⟨st, sc, ns, rest, G, rfl, d.at_ H j.hid, gs, j.up, hs, h, fun v H' G' hx hst e1 e2 hn gn hp => q v H' G' ?_ (k v G' e1 hp)⟩
  obtain ⟨a0, b0, est, _⟩ := hst
  exact {
    up := e2
    keep := fun x o ex => hx x o (fun z => by subst z; rw [d.ne] at ex; cases ex) (j.keep x o ex)
    new := fun a z g => by
      cases w : G a with
      | none => exact none_of_ex j.keep (hn a z w)
      | some o => exact j.new a (by rw [w]; exact fun q => by cases q) g
    hid := d.to H H' j.hid (fun x mx nx => by
      cases z : H x with
      | none => exact absurd z (j.msk x mx).2
      | some o => exact hx x o nx z) ⟨a0, b0, est, by assumption⟩
    msk := fun x mx => by
      refine ⟨?_, ?_⟩
      · cases z : G' x with
        | none => rfl
        | some o => exact absurd (hn x (by rw [z]; exact fun q => by cases q) (j.msk x mx).1) (j.msk x mx).2
      · by_cases nx : x = st
        · subst nx; rw [est]; exact fun q => by cases q
        · cases z : H x with
          | none => exact absurd z (j.msk x mx).2
          | some o => rw [hx x o nx z]; exact fun q => by cases q }
end
/-! ### promises over a datum -/
def spA {α : Type} (pre : α → List V → Hp → Prop) (post : α → V → Hp → Prop) : Sp := fun vs H Q _ => ∃ (x : α) (G : Hp), Ex G H ∧ pre x vs G ∧ ∀ v H' G', Ex H H' → Ex G G' → Ex G' H' → (∀ a, G' a ≠ none → G a = none → H a = none) → post x v G' → Q v H'
def spSA {α : Type} (K : PySem.W.Frag) (pre : α → List V → Hp → Prop) (post : α → V → Hp → Prop) : Sp := fun vs H Q _ => ∃ (x : α) (st sc : Addr) (ns : List Int) (rest : List V) (G : Hp), vs = .ref st :: .ref sc :: rest ∧ StAt H st ∧ G st = none ∧ Ex G H ∧ SqL K G sc (ns.map V.int) ∧ pre x rest G ∧
  ∀ v H' G', (∀ x o, x ≠ st → H x = some o → H' x = some o) → StAt H' st → Ex G G' → Ex G' H' → (∀ a, G' a ≠ none → G a = none → H a = none) → G' st = none → post x v G' → Q v H'
section
variable {U : Vx} {σ : L2.St} {G : Hp} {Q : VK} {K : PySem.W.Frag} {α : Type}
theorem cm_a {pre : α → List V → Hp → Prop} {post : α → V → Hp → Prop} {vs : List V} (x : α) (h : pre x vs G) (k : ∀ v G', Ex G G' → post x v G' → Q v G') : CM U (spA pre post) vs G Q := fun H j QH q E =>
  ⟨x, G, j.up, h, fun v H' G' e1 e2 e3 n p => q v H' G' (j.call e1 e3 n) (k v G' e2 p)⟩
theorem cm_sa {pre : α → List V → Hp → Prop} {post : α → V → Hp → Prop} {st sc : Addr} {ns : List Int} {rest : List V} (x : α) (d : DrawOk U st) (hs : SqL K G sc (ns.map V.int)) (h : pre x rest G) (k : ∀ v G', Ex G G' → post x v G' → Q v G') : CM U (spSA K pre post) (.ref st :: .ref sc :: rest) G Q := fun H j QH q E =>
  have c := cm_s (K := K) (pre := pre x) (post := fun _ => post x) d hs h k H j QH q E
  let ⟨st', sc', ns', rest', G', e, r⟩ := c
  ⟨x, st', sc', ns', rest', G', e, r⟩
end
theorem ifNT {A B : Prop} (h : B) : if (!true) = true then A else B := h
theorem ifNF {A B : Prop} (h : A) : if (!false) = true then A else B := h
theorem kg_tup {X : Cx} {K : PySem.W.Frag} {es : List Expr} {k n : Nat} {t : TGs} {pos : Pos} (hc : X.calm = true) (h : PGs X es t) (hn : (assignEach es X.env).length = n := by rfl) (hst : (assignEach es X.env).findIdx? (·.1) = none := by rfl) (hk : X.K = K := by rfl) : PG X (.Tuple es k pos) (gTup K n t) := by
  subst hk; exact pg_tup hc h hn hst
section
variable {U : Vx} {σ : L2.St} {G : Hp} {Q : VK} {K : PySem.W.Frag} {QG : L2.St → Hp → Prop} {g : TG} {gs : TGs}
def GsM (U : Vx) (g : TGs) (vs : List V) (σ : L2.St) (G : Hp) (Q : L2.St → Hp → Prop) : Prop := ∀ H, J U H G → ∀ QH : L2.St → Hp → Prop, (∀ σ' H' G', J U H' G' → Q σ' G' → QH σ' H') → g vs σ H QH
theorem gm_tup {a : Addr} {xs : List V} {n : Nat} (h : SqT K G a xs) (hl : xs.length = n) (k : GsM U gs xs σ G QG) : GM U (gTup K n gs) (.ref a) σ G QG := fun H j QH q => ⟨a, xs, rfl, ex_t j.up h, hl, k H j QH q⟩
theorem gs_nil (k : QG σ G) : GsM U gNil [] σ G QG := fun H j QH q => ⟨rfl, q _ _ _ j k⟩
theorem gs_cons {v : V} {vs : List V} (k : GM U g v σ G fun σ' G' => GsM U gs vs σ' G' QG) : GsM U (gCons g gs) (v :: vs) σ G QG := fun H j QH q => ⟨v, vs, rfl, k H j _ fun σ' H' G' j' k' => k' H' j' QH q⟩
end
section
variable {U : Vx} {σ : L2.St} {G : Hp} {Q : VK} {K : PySem.W.Frag} {te : TE} {tt : TT}
/-- over a tuple that stands -/
theorem em_lcT {tl : TE} {g : TG} {vs : List Nat} (h : EM U tl σ G fun w G1 => ∃ a xs, w = .ref a ∧ SqT K G1 a xs ∧ xs.length < 16000000 ∧ ∃ P : Nat → List V → Hp → Prop, P 0 [] G1 ∧ (∀ i acc G', P i acc G' → acc.length ≤ i ∧ SqT K G' a xs) ∧
    (∀ (i : Nat) x acc G' (D : Addr) (U' : Vx), U' = U.hide D (.lst acc) → ¬ U.m D → xs[i]? = some x → P i acc G' → GM U' g x (wipe σ vs) G' fun σ2 G0 => wipe σ2 vs = wipe σ vs ∧ TM U' tt σ2 G0 fun b G2 => if b = true then EM U' te σ2 G2 fun y G3 => P (i + 1) (acc ++ [y]) G3 else P (i + 1) acc G2) ∧
    (∀ acc D G' G'', P xs.length acc G' → Ex G' G'' → G' D = none → G'' D = some (.lst acc) → Q (.ref D) G'')) : EM U (tLc (iTup K tl) g tt te vs) σ G Q := fun H j QH q =>
  h H j _ fun w H1 G1 j1 ⟨a, xs, e, hx, hlen, P, h0, hz, hs, hd⟩ => ⟨a, e, ⟨xs, ex_t j1.up hx⟩, fun D hD => by
    have nm : ¬ U.m D := fun z => (j1.msk D z).2 hD
    have nh : U.He D = none := none_of_ex j1.keep hD
    refine lc_tup (K := K) (a := a) (xs := xs) (fun i H' => i ≤ xs.length ∧ ∃ acc G', J (U.hide D (.lst acc)) H' G' ∧ P i acc G') ⟨Nat.zero_le _, [], G1, ?_, h0⟩ (fun i H' _ ⟨_, acc, G', j', p⟩ => ex_t j'.up (hz i acc G' p).2) (fun i x H' hi ⟨_, acc, G', j', p⟩ => ?_) (fun H' ⟨_, acc, G', j', p⟩ => ?_)
    · have ja := j1.alloc (o := .lst []) hD
      refine ⟨fun a u e => ?_, ja.keep, j1.new, ⟨ja.hid, upd_same⟩, fun a ma => ?_⟩
      · rw [upd_ne (fun z => by subst z; rw [j1.free hD] at e; cases e)]; exact j1.up a u e
      · rcases ma with ma | rfl
        · obtain ⟨q1, q2⟩ := j1.msk a ma
          refine ⟨q1, ?_⟩
          rw [upd_ne (fun z => by subst z; exact q2 hD)]; exact q2
        · exact ⟨j1.free hD, by rw [upd_same]; exact fun q => by cases q⟩
    · have hil : i < xs.length := (List.getElem?_eq_some_iff.mp hi).1
      refine hs i x acc G' D _ rfl nm hi p H' j' _ fun σ2 H2 G2 j2 ⟨w2, k2⟩ => ⟨w2, k2 H2 j2 _ fun b H3 G3 j3 h3 => ?_⟩
      cases b with
      | true =>
        rw [if_pos rfl] at h3 ⊢
        refine h3 H3 j3 _ fun y H4 G4 j4 h4 => ⟨acc, j4.hid.2, ?_, hil, acc ++ [y], G4, j4.rehide nm nh, h4⟩
        have := (hz i acc G' p).1
        exact Nat.lt_of_le_of_lt this (Nat.lt_of_lt_of_le (show i < 16000000 by omega) (by decide))
      | false =>
        rw [if_neg Bool.false_ne_true] at h3 ⊢
        exact ⟨hil, acc, G3, j3, h3⟩
    · have gd : G' D = none := (j'.msk D (.inr rfl)).1
      exact q _ _ _ (j'.unhide nm nh) (hd acc D G' _ p (Ex.new gd) gd upd_same)⟩
theorem em_mapT {tl : TE} {g : TG} {vs : List Nat} (v : V → V) (h : EM U tl σ G fun w G1 => ∃ a xs, w = .ref a ∧ SqT K G1 a xs ∧ xs.length < 16000000 ∧
    (∀ (i : Nat) x G' (U' : Vx), Ex G1 G' → xs[i]? = some x → GM U' g x (wipe σ vs) G' fun σ2 G2 => wipe σ2 vs = wipe σ vs ∧ Ex G' G2 ∧ EM U' te σ2 G2 fun y G3 => y = v x ∧ Ex G2 G3) ∧
    (∀ D G'', Ex G1 G'' → G1 D = none → G'' D = some (.lst (xs.map v)) → Q (.ref D) G'')) : EM U (tLc (iTup K tl) g tYes te vs) σ G Q := by
  refine em_lcT (fun H j QH q => h H j QH fun w H' G1 j1 ⟨a, xs, e, hx, hlen, hs, hd⟩ => q w H' G1 j1 ⟨a, xs, e, hx, hlen, fun i acc G' => i ≤ xs.length ∧ acc = (xs.take i).map v ∧ Ex G1 G', ⟨Nat.zero_le _, rfl, Ex.refl G1⟩, fun i acc G' p => ⟨by rw [p.2.1, List.length_map, List.length_take]; omega, ex_t p.2.2 hx⟩, ?_, ?_⟩)
  · intro i x acc G' D U' _ _ hi ⟨p0, p1, p2⟩ H j QT qt
    have hil : i < xs.length := (List.getElem?_eq_some_iff.mp hi).1
    refine hs i x G' U' p2 hi H j _ fun σ2 H1 G2 j1 ⟨hw, e1, k⟩ => qt σ2 H1 G2 j1 ⟨hw, tm_yes ?_⟩
    rw [if_pos rfl]
    intro H2 j2 QE qe
    refine k H2 j2 _ fun y H3 G3 j3 ⟨hy, e3⟩ => qe y H3 G3 j3 ⟨hil, ?_, (p2.trans e1).trans e3⟩
    rw [p1, hy, List.take_add_one, hi]
    simp
  · intro acc D G' G'' ⟨_, p1, p2⟩ e g1 g2
    refine hd D G'' (p2.trans e) (none_of_ex p2 g1) ?_
    rw [p1, List.take_length] at g2; exact g2
end
/-! ### slices, None, texts -/
section
variable {U : Vx} {σ : L2.St} {G : Hp} {Q : VK} {K : PySem.W.Frag} {te : TE} {tl th : TO} {x : V}
def OM (U : Vx) (to : TO) (σ : L2.St) (G : Hp) (Q : Option Int → Hp → Prop) : Prop := ∀ H, J U H G → ∀ QH : Option Int → Hp → Prop, (∀ v H' G', J U H' G' → Q v G' → QH v H') → to σ H QH
theorem om_none {QO : Option Int → Hp → Prop} (k : QO none G) : OM U tNoPart σ G QO := fun H j QH q => q _ _ _ j k
theorem om_some {QO : Option Int → Hp → Prop} (h : EM U te σ G fun x G1 => IV x fun i => QO (some i) G1) : OM U (tPart te) σ G QO := fun H j QH q => h H j _ fun x H1 G1 j1 ⟨i, e, k⟩ => ⟨i, e, q _ _ _ j1 k⟩
theorem em_sl {r : V → Option Int → Option Int → Hp → VK → Prop} (h : EM U te σ G fun x G1 => OM U tl σ G1 fun l G2 => OM U th σ G2 fun u G3 => RM U (r x l u) G3 Q) : EM U (tSl r te tl th) σ G Q := fun H j QH q =>
  h H j _ fun x H1 G1 j1 h1 => h1 H1 j1 _ fun l H2 G2 j2 h2 => h2 H2 j2 _ fun u H3 G3 j3 h3 => h3 H3 j3 QH q
theorem rm_slT {a : Addr} {xs : List V} {lo hi : Option Int} (h : SqT K G a xs) (hn : ¬ (HT.sIx xs.length 0 lo = 0 ∧ HT.sIx xs.length xs.length hi = xs.length)) (k : ∀ p G', Ex G G' → G' p = some (.tup (cutV xs lo hi)) → Q (.ref p) G') : RM U (rSlT K (.ref a) lo hi) G Q :=
  fun H j _ q => ⟨a, xs, rfl, ex_t j.up h, hn, fun p hp => q _ _ _ (j.alloc hp) (k p _ (Ex.new (j.free hp)) upd_same)⟩
theorem rm_slL {a : Addr} {xs : List V} {lo hi : Option Int} (h : SqL K G a xs) (k : ∀ p G', G p = none → Ex G G' → G' p = some (.lst (cutV xs lo hi)) → Q (.ref p) G') : RM U (rSlL K (.ref a) lo hi) G Q :=
  fun H j _ q => ⟨a, xs, rfl, ex_l j.up h, fun p hp => q _ _ _ (j.alloc hp) (k p _ (j.free hp) (Ex.new (j.free hp)) upd_same)⟩
theorem rm_isN_ref {a : Addr} (k : Q (.bl false) G) : RM U (rIsN (.ref a) .non) G Q := fun H j _ q => ⟨rfl, q _ _ _ j k⟩
theorem rm_isN_non (k : Q (.bl true) G) : RM U (rIsN .non .non) G Q := fun H j _ q => ⟨rfl, q _ _ _ j k⟩
theorem rm_isN_int {i : Int} (k : Q (.bl false) G) : RM U (rIsN (.int i) .non) G Q := fun H j _ q => ⟨rfl, q _ _ _ j k⟩
theorem rm_notN_ref {a : Addr} (k : Q (.bl true) G) : RM U (rNotN (.ref a) .non) G Q := fun H j _ q => ⟨rfl, q _ _ _ j k⟩
theorem rm_notN_non (k : Q (.bl false) G) : RM U (rNotN .non .non) G Q := fun H j _ q => ⟨rfl, q _ _ _ j k⟩
theorem rm_notN_int {i : Int} (k : Q (.bl true) G) : RM U (rNotN (.int i) .non) G Q := fun H j _ q => ⟨rfl, q _ _ _ j k⟩
theorem rm_eqS {s t : Str} (k : Q (.bl (decide (s = t))) G) : RM U (rEq (.str s) (.str t)) G Q := rm_eq rfl (by
  have e : decide (V.str s = V.str t) = decide (s = t) := by simp
  rw [e]; exact k)
theorem rm_neS {s t : Str} (k : Q (.bl (!decide (s = t))) G) : RM U (rNe (.str s) (.str t)) G Q := rm_ne rfl (by
  have e : decide (V.str s = V.str t) = decide (s = t) := by simp
  rw [e]; exact k)
theorem rm_eqB {s t : Bool} (k : Q (.bl (decide (s = t))) G) : RM U (rEq (.bl s) (.bl t)) G Q := rm_eq rfl (by
  have e : decide (V.bl s = V.bl t) = decide (s = t) := by simp
  rw [e]; exact k)
theorem rm_neB {s t : Bool} (k : Q (.bl (!decide (s = t))) G) : RM U (rNe (.bl s) (.bl t)) G Q := rm_ne rfl (by
  have e : decide (V.bl s = V.bl t) = decide (s = t) := by simp
  rw [e]; exact k)
end
/-! ### one hidden object that a def may change, kept good -/
structure HidOk (U : Vx) (a : Addr) (P : HO → Prop) : Prop where
  m : U.m a
  ne : U.He a = none
  at_ : ∀ H, U.I H → ∃ o, H a = some o ∧ P o
  to : ∀ H H', U.I H → (∀ x, U.m x → x ≠ a → H' x = H x) → (∃ o, H' a = some o ∧ P o) → U.I H'
def Vx.hid (U : Vx) (a : Addr) (P : HO → Prop) : Vx := ⟨U.He, U.Ge, fun H => U.I H ∧ ∃ o, H a = some o ∧ P o, fun x => U.m x ∨ x = a, fun H H' ⟨i, o, h, p⟩ e => ⟨U.st H H' i fun x mx => e x (.inl mx), o, by rw [e a (.inr rfl)]; exact h, p⟩⟩
theorem HidOk.self {U : Vx} {a : Addr} {P : HO → Prop} (hm : ¬ U.m a) (hn : U.He a = none) : HidOk (U.hid a P) a P where
  m := .inr rfl
  ne := hn
  at_ := fun _ i => i.2
  to := fun H H' i e h => ⟨U.st H H' i.1 fun x mx => e x (.inl mx) (fun z => by subst z; exact hm mx), h⟩
theorem HidOk.hide {U : Vx} {a D : Addr} {P : HO → Prop} {o : HO} (d : HidOk U a P) (h : ¬ U.m D) : HidOk (U.hide D o) a P where
  m := .inl d.m
  ne := d.ne
  at_ := fun H i => d.at_ H i.1
  to := fun H H' i e s => ⟨d.to H H' i.1 (fun x mx nx => e x (.inl mx) nx) s, by
    rw [e D (.inr rfl) (fun z => by subst z; exact h d.m)]; exact i.2⟩
theorem DrawOk.hid {U : Vx} {st D : Addr} {P : HO → Prop} (d : DrawOk U st) (h : ¬ U.m D) : DrawOk (U.hid D P) st where
  m := .inl d.m
  ne := d.ne
  at_ := fun H i => d.at_ H i.1
  to := fun H H' i e s => ⟨d.to H H' i.1 (fun x mx nx => e x (.inl mx) nx) s, by
    rw [e D (.inr rfl) (fun z => by subst z; exact h d.m)]; exact i.2⟩
def spM {α : Type} (hid : α → Addr) (P : α → HO → Prop) (pre : α → List V → Hp → Prop) (post : α → V → Hp → Prop) : Sp := fun vs H Q _ => ∃ (x : α) (G : Hp) (o : HO), H (hid x) = some o ∧ P x o ∧ G (hid x) = none ∧ Ex G H ∧ pre x vs G ∧
  ∀ v H' G' o', (∀ y u, y ≠ hid x → H y = some u → H' y = some u) → H' (hid x) = some o' → P x o' → Ex G G' → Ex G' H' → (∀ a, G' a ≠ none → G a = none → H a = none) → G' (hid x) = none → post x v G' → Q v H'
def VM (a : Addr) (P : HO → Prop) (H G : Hp) : Vx := ⟨wo a H, G, fun H' => ∃ o, H' a = some o ∧ P o, fun x => x = a, fun H1 H2 ⟨o, e, h⟩ k => ⟨o, by rw [k a rfl]; exact e, h⟩⟩
theorem VM.ok {a : Addr} {P : HO → Prop} {H G : Hp} : HidOk (VM a P H G) a P := ⟨rfl, wo_same, fun _ i => i, fun _ _ _ _ s => s⟩
theorem VM.start {a : Addr} {P : HO → Prop} {H G : Hp} {o : HO} (h : H a = some o) (p : P o) (g : G a = none) (e : Ex G H) : J (VM a P H G) H G := ⟨e, wo_ex, fun x q z => absurd z q, ⟨o, h, p⟩, fun x z => by
  have z' : x = a := z
  subst z'
  exact ⟨g, by rw [h]; exact fun q => by cases q⟩⟩
section
variable {U : Vx} {σ : L2.St} {G : Hp} {Q : VK} {K : PySem.W.Frag} {α : Type}
theorem kv_m {a : Addr} {P : HO → Prop} {H0 G0 : Hp} {p : V → Hp → Prop} {v : V} (k : ∀ v H' G' o', (∀ y u, y ≠ a → H0 y = some u → H' y = some u) → H' a = some o' → P o' → Ex G0 G' → Ex G' H' → (∀ x, G' x ≠ none → G0 x = none → H0 x = none) → G' a = none → p v G' → Q v H') (e : Ex G0 G) (h : p v G) : KV (VM a P H0 G0) Q v G := fun H j => by
  obtain ⟨o, ho, po⟩ := j.hid
  refine k v H G o (fun x o nx ex => j.keep x o (by show wo a H0 x = some o; rw [wo_ne nx]; exact ex)) ho po e j.up (fun x q z => ?_) (j.msk a rfl).1 h
  have n := j.new x q z
  have na : x ≠ a := fun w => by subst w; exact q (j.msk x rfl).1
  have n' : wo a H0 x = none := n
  rw [wo_ne na] at n'; exact n'
theorem J.hidden_call {a : Addr} {P : HO → Prop} {H H' G' : Hp} {o' : HO} (d : HidOk U a P) (j : J U H G) (hx : ∀ y u, y ≠ a → H y = some u → H' y = some u) (ho : H' a = some o') (hp : P o') (e2 : Ex G' H') (hn : ∀ x, G' x ≠ none → G x = none → H x = none) : J U H' G' where
  up := e2
  keep := fun x o ex => hx x o (fun z => by subst z; rw [d.ne] at ex; cases ex) (j.keep x o ex)
  new := fun x z g => by
    cases w : G x with
    | none => exact none_of_ex j.keep (hn x z w)
    | some o => exact j.new x (by rw [w]; exact fun q => by cases q) g
  hid := d.to H H' j.hid (fun x mx nx => by
    cases z : H x with
    | none => exact absurd z (j.msk x mx).2
    | some o => exact hx x o nx z) ⟨o', ho, hp⟩
  msk := fun x mx => by
    refine ⟨?_, ?_⟩
    · cases z : G' x with
      | none => rfl
      | some o => exact absurd (hn x (by rw [z]; exact fun q => by cases q) (j.msk x mx).1) (j.msk x mx).2
    · by_cases nx : x = a
      · subst nx; rw [ho]; exact fun q => by cases q
      · cases z : H x with
        | none => exact absurd z (j.msk x mx).2
        | some o => rw [hx x o nx z]; exact fun q => by cases q
theorem cm_m {hid : α → Addr} {P : α → HO → Prop} {pre : α → List V → Hp → Prop} {post : α → V → Hp → Prop} {vs : List V} (x : α) (d : HidOk U (hid x) (P x)) (h : pre x vs G) (k : ∀ v G', Ex G G' → post x v G' → Q v G') : CM U (spM hid P pre post) vs G Q := fun H j QH q E => by
  obtain ⟨o, ho, po⟩ := d.at_ H j.hid
  exact ⟨x, G, o, ho, po, (j.msk _ d.m).1, j.up, h, fun v H' G' o' hx ho' po' e1 e2 hn gn hp => q v H' G' (J.hidden_call d j hx ho' po' e2 hn) (k v G' e1 hp)⟩
/-- over enumerate(xs): a new pair each turn -/
theorem em_mapE {ta : TA} {te : TE} {i0 i1 : Nat} {vs : List Nat} (v : Nat → V → V) (h : AM U ta σ G fun ws G1 => ∃ a xs, ws = [.ref a] ∧ SqL K G1 a xs ∧ xs.length < 16000000 ∧
    (∀ x y, wipe (((wipe σ vs).set i0 (some x)).set i1 (some y)) vs = wipe σ vs) ∧
    (∀ (i : Nat) x G' (D : Addr) (acc : List V) (U' : Vx), U' = U.hide D (.lst acc) → ¬ U.m D → Ex G1 G' → xs[i]? = some x → EM U' te (((wipe σ vs).set i0 (some (.int (i : Int)))).set i1 (some x)) G' fun y G3 => y = v i x ∧ Ex G' G3) ∧
    (∀ D G'', Ex G1 G'' → G1 D = none → G'' D = some (.lst ((List.range xs.length).map fun i => v i (xs.getD i .non))) → Q (.ref D) G'')) : EM U (tLc (iEnum K ta) (gTup K 2 (gCons (gName i0) (gCons (gName i1) gNil))) tYes te vs) σ G Q := fun H j QH q =>
  h H j _ fun ws H1 G1 j1 ⟨a, xs, e, hx, hlen, hw, hs, hd⟩ => ⟨a, xs, e, ex_l j1.up hx, fun D hD => by
    have nm : ¬ U.m D := fun z => (j1.msk D z).2 hD
    have nh : U.He D = none := none_of_ex j1.keep hD
    have wk : Walk (Ite K a) xs.length (fun H => SqL K H a xs) (fun i H v H' => ∃ T x, v = .ref T ∧ H T = none ∧ H' = upd H T (.tup [.int (i : Nat), x]) ∧ xs[i]? = some x) :=
      ⟨fun i H hi hq => ⟨xs, xs[i], hq, by simp [hi]⟩, fun H hq => ⟨xs, hq, Nat.le_refl _⟩, fun i H x H' hi hq ⟨T, y, e1, e2, e3, e4⟩ => ⟨T, y, e1, e2, e3, e4 xs hq⟩⟩
    refine lc_it wk (fun i H' => i ≤ xs.length ∧ ∃ G', J (U.hide D (.lst ((List.range i).map fun i => v i (xs.getD i .non)))) H' G' ∧ Ex G1 G') ⟨Nat.zero_le _, G1, ?_, Ex.refl _⟩ (fun i H' _ ⟨_, G', j', e'⟩ => ex_l j'.up (ex_l e' hx)) (fun i x H' H'' hi ⟨_, G', j', e'⟩ ⟨T, y, ex, hT, eH, hy⟩ => ?_) (fun H' ⟨_, G', j', e'⟩ => ?_)
    · have ja := j1.alloc (o := .lst []) hD
      refine ⟨fun a u e => ?_, ja.keep, j1.new, ⟨ja.hid, upd_same⟩, fun a ma => ?_⟩
      · rw [upd_ne (fun z => by subst z; rw [j1.free hD] at e; cases e)]; exact j1.up a u e
      · rcases ma with ma | rfl
        · obtain ⟨q1, q2⟩ := j1.msk a ma
          refine ⟨q1, ?_⟩
          rw [upd_ne (fun z => by subst z; exact q2 hD)]; exact q2
        · exact ⟨j1.free hD, by rw [upd_same]; exact fun q => by cases q⟩
    · subst ex eH
      have jT := j'.alloc (o := .tup [.int (i : Nat), y]) hT
      have gT := j'.free hT
      have e2 : Ex G' (upd G' T (.tup [.int (i : Nat), y])) := Ex.new gT
      refine ⟨T, [.int (i : Nat), y], rfl, SqT.of upd_same, rfl, _, _, rfl, _, _, rfl, rfl, hw _ _, ?_⟩
      show (if true = true then te (((wipe σ vs).set i0 (some (.int (i : Int)))).set i1 (some y)) (upd H' T (.tup [.int (i : Nat), y])) (fun y H4 => ∃ acc, H4 D = some (.lst acc) ∧ acc.length < sizeLine ∧ (i + 1 ≤ xs.length ∧ ∃ G', J (U.hide D (.lst ((List.range (i + 1)).map fun i => v i (xs.getD i .non)))) (upd H4 D (.lst (acc ++ [y]))) G' ∧ Ex G1 G')) else (i + 1 ≤ xs.length ∧ ∃ G'', J (U.hide D (.lst ((List.range (i + 1)).map fun i => v i (xs.getD i .non)))) (upd H' T (.tup [.int (i : Nat), y])) G'' ∧ Ex G1 G''))
      rw [if_pos rfl]
      refine hs i y _ D _ _ rfl nm (e'.trans e2) hy _ jT _ fun z H4 G4 j4 ⟨ez, e4⟩ => ⟨_, j4.hid.2, ?_, hi, G4, ?_, (e'.trans e2).trans e4⟩
      · rw [List.length_map, List.length_range]
        exact Nat.lt_of_lt_of_le (show i < 16000000 by omega) (by decide)
      · have je := j4.rehide (o' := .lst (((List.range i).map fun i => v i (xs.getD i .non)) ++ [z])) nm nh
        have el : (List.range (i + 1)).map (fun i => v i (xs.getD i .non)) = ((List.range i).map fun i => v i (xs.getD i .non)) ++ [z] := by
          rw [List.range_succ, List.map_append, ez]
          show _ ++ [v i (xs.getD i .non)] = _
          rw [List.getD_eq_getElem?_getD, hy]
          rfl
        rw [el]; exact je
    · have gd : G' D = none := (j'.msk D (.inr rfl)).1
      exact q _ _ _ (j'.unhide nm nh) (hd D _ (e'.trans (Ex.new gd)) (none_of_ex e' gd) upd_same)⟩
end
theorem nodup_len {α : Type} [DecidableEq α] : ∀ (ks L : List α), ks.Nodup → (∀ k ∈ ks, k ∈ L) → ks.length ≤ L.length
  | [], _, _, _ => Nat.zero_le _
  | k :: ks, L, h, s => by
    have hk := s k (by simp)
    have h1 := List.nodup_cons.mp h
    have ih := nodup_len ks (L.erase k) h1.2 fun x hx => (List.mem_erase_of_ne (fun e => by subst e; exact h1.1 hx)).mpr (s x (by simp [hx]))
    rw [List.length_erase_of_mem hk] at ih
    have := List.length_pos_of_mem hk
    rw [List.length_cons]
    omega
/-! ### fields stored, objects hidden on the way, instances made with an object of their own -/
section
variable {U : Vx} {σ : L2.St} {G : Hp} {Q : VK} {K : PySem.W.Frag} {ta tv te : TE} {ts : TS} {D : Ends}
theorem em_newT (k : ∀ p G', G p = none → Ex G G' → G' p = some (.dT []) → Q (.ref p) G') : EM U tDNewT σ G Q := fun H j QH q p hp => q _ _ _ (j.alloc hp) (k p _ (j.free hp) (Ex.new (j.free hp)) upd_same)
theorem em_newK (k : ∀ p G', G p = none → Ex G G' → G' p = some (.dK []) → Q (.ref p) G') : EM U tDNewK σ G Q := fun H j QH q p hp => q _ _ _ (j.alloc hp) (k p _ (j.free hp) (Ex.new (j.free hp)) upd_same)
theorem sm_fld {f : Str} (h : EM U tv σ G fun y G1 => EM U ta σ G1 fun x G2 => ∃ a C dx fs, x = .ref a ∧ G2 a = some (.ins C dx fs) ∧ Cls K C ∧ NoAttr K C f ∧ fs.length < 1000 ∧ U.Ge a = none ∧ KM U D.nx σ (upd G2 a (.ins C dx (putF f y fs)))) : SM U (sFld K ta tv f) D σ G := fun H j =>
  h H j _ fun y H1 G1 j1 h1 => h1 H1 j1 _ fun x H2 G2 j2 ⟨a, C, dx, fs, e, g, c, n, l, ge, k⟩ => ⟨a, C, dx, fs, e, j2.up _ _ g, c, n, l, k _ (j2.write g ge)⟩
theorem J.mask {H : Hp} {d : Addr} {P : HO → Prop} {o : HO} (j : J U H G) (h : G d = some o) (p : P o) (hn : U.Ge d = none) : J (U.hid d P) H (wo d G) where
  up := fun a u e => by
    by_cases z : a = d
    · rw [z, wo_same] at e; cases e
    · rw [wo_ne z] at e; exact j.up a u e
  keep := j.keep
  new := fun a q g => by
    by_cases z : a = d
    · rw [z, wo_same] at q; exact absurd rfl q
    · rw [wo_ne z] at q; exact j.new a q g
  hid := ⟨j.hid, o, j.up _ _ h, p⟩
  msk := fun a ma => by
    rcases ma with ma | rfl
    · obtain ⟨q1, q2⟩ := j.msk a ma
      refine ⟨?_, q2⟩
      by_cases z : a = d
      · rw [z, wo_same]
      · rw [wo_ne z]; exact q1
    · exact ⟨wo_same, by rw [j.up _ _ h]; exact fun q => by cases q⟩
/-- an object of the def's own is hidden from here on, kept good -/
theorem sm_hide {d : Addr} (P : HO → Prop) {o : HO} (h : G d = some o) (p : P o) (hn : U.Ge d = none) (k : ∀ G1, (∀ a u, a ≠ d → G a = some u → G1 a = some u) → G1 d = none → (¬ U.m d) → U.He d = none → SM (U.hid d P) ts D σ G1) : SM U ts D σ G := fun H j =>
  k (wo d G) (fun a u z e => by rw [wo_ne z]; exact e) wo_same (fun m => by have := (j.msk d m).1; rw [h] at this; cases this) (j.new d (by rw [h]; exact fun q => by cases q) hn) H (j.mask h p hn)
theorem em_make2 {C : Addr} {fs : Addr → List (Str × V)} {P : HO → Prop} {sp : Sp} {E : XK} {tas : TA} (h : AM U tas σ G fun vs G1 => (∀ x dx H QI EI, Ex G1 H → H x = some (.ins C dx []) → G1 x = none → (∀ H' d o, (∀ b u, b ≠ x → H b = some u → H' b = some u) → H d = none → H' d = some o → P o → H' x = some (.ins C dx (fs d)) → QI .non H') → sp (.ref x :: vs) H QI EI) ∧
    ∀ x dx d o G2, G1 x = none → G1 d = none → d ≠ x → Ex G1 G2 → G2 x = some (.ins C dx (fs d)) → G2 d = some o → P o → Q (.ref x) G2) : EM U (tMake C sp [] E tas) σ G Q := fun H j QH q =>
  h H j _ fun vs H1 G1 j1 ⟨hi, hk⟩ x dx nx ndx ne => by
    show sp (.ref x :: (vs ++ [])) _ _ _
    rw [List.append_nil]
    have n2 : upd H1 dx (.own x) x = none := by rw [upd_ne (Ne.symm ne)]; exact nx
    have j2 := (j1.alloc (o := .own x) ndx).alloc (o := .ins C dx []) n2
    have gn : G1 x = none := j1.free nx
    have gdx : G1 dx = none := j1.free ndx
    have e12 : Ex G1 (upd (upd H1 dx (.own x)) x (.ins C dx [])) := fun a o e => by
      rw [upd_ne (ne_of_none e gn), upd_ne (ne_of_none e gdx)]; exact j1.up a o e
    refine hi x dx _ _ _ e12 upd_same gn fun H' d o hk' hd hd' hp hx' => ⟨rfl, ?_⟩
    have dx1 : d ≠ x := fun z => by rw [z, upd_same] at hd; cases hd
    have dx2 : d ≠ dx := fun z => by rw [z, upd_ne ne, upd_same] at hd; cases hd
    have hd1 : H1 d = none := by rw [upd_ne dx1, upd_ne dx2] at hd; exact hd
    refine q _ H' (upd (upd (upd G1 dx (.own x)) x (.ins C dx (fs d))) d o) ?_ (hk x dx d o _ gn (j1.free hd1) dx1 (fun a u e => ?_) ?_ upd_same hp)
    · exact {
        up := fun a u e => by
          by_cases z : a = d
          · subst z; rw [upd_same] at e; rw [hd']; exact e
          · rw [upd_ne z] at e
            by_cases z2 : a = x
            · subst z2; rw [upd_same] at e; rw [hx']; exact e
            · rw [upd_ne z2] at e; exact hk' a u z2 (j2.up a u (by rw [upd_ne z2]; exact e))
        keep := fun a u e => by
          have e0 := j1.keep a u e
          exact hk' a u (ne_of_none e0 nx) (j2.keep a u e)
        new := fun a e q => by
          by_cases z : a = d
          · subst z; exact none_of_ex j1.keep hd1
          · by_cases z2 : a = x
            · subst z2; exact none_of_ex j1.keep nx
            · exact j2.new a (by rw [upd_ne z, upd_ne z2] at e; rw [upd_ne z2]; exact e) q
        hid := U.st _ _ j2.hid fun a ma => by
          have q := j2.msk a ma
          have na : a ≠ x := fun z => by subst z; rw [upd_same] at q; cases q.1
          cases z : upd (upd H1 dx (HO.own x)) x (HO.ins C dx []) a with
          | none => exact absurd z q.2
          | some o => rw [hk' a o na z]
        msk := fun a ma => by
          obtain ⟨q1, q2⟩ := j2.msk a ma
          have na : a ≠ x := fun z => by subst z; rw [upd_same] at q1; cases q1
          have nd : a ≠ d := fun z => by subst z; exact q2 hd
          refine ⟨by rw [upd_ne na] at q1; rw [upd_ne nd, upd_ne na]; exact q1, ?_⟩
          cases z : upd (upd H1 dx (HO.own x)) x (HO.ins C dx []) a with
          | none => exact absurd z q2
          | some o => rw [hk' a o na z]; exact fun q => by cases q }
    · rw [upd_ne (ne_of_none e (j1.free hd1)), upd_ne (ne_of_none e gn), upd_ne (ne_of_none e gdx)]; exact e
    · rw [upd_ne (Ne.symm dx1)]; exact upd_same
/-- [e for i in range(n)], the items told by the turn, where e may change what is hidden -/
theorem em_mapR1H {ta : TA} {i0 : Nat} {vs : List Nat} (v : Nat → V) (h : AM U ta σ G fun ws G1 => ∃ n : Int, ws = [.int n] ∧ 0 ≤ n ∧ n ≤ 16000000 ∧ (∀ x, wipe ((wipe σ vs).set i0 (some x)) vs = wipe σ vs) ∧
    (∀ (i : Nat) G' (D : Addr) (acc : List V) (U' : Vx), U' = U.hide D (.lst acc) → ¬ U.m D → Ex G1 G' → (i : Int) < n → EM U' te ((wipe σ vs).set i0 (some (.int (i : Int)))) G' fun y G3 => y = v i ∧ Ex G' G3) ∧
    (∀ D G'', Ex G1 G'' → G1 D = none → G'' D = some (.lst ((List.range n.toNat).map v)) → Q (.ref D) G'')) : EM U (tLc (iRng1 ta) (gName i0) tYes te vs) σ G Q := by
  refine em_lcR1 (fun H j QH q => h H j QH fun ws H' G1 j1 ⟨n, e, b1, b2, hw, hs, hd⟩ => q ws H' G1 j1 ⟨n, e, b1, b2, hw, fun i acc G' => acc = (List.range i).map v ∧ Ex G1 G', ⟨rfl, Ex.refl G1⟩, fun i acc G' p => by rw [p.1]; simp, ?_, ?_⟩)
  · intro i acc G' D U' hU hm hi ⟨p1, p2⟩
    refine tm_yes ?_
    rw [if_pos rfl]
    intro H j QE qe
    refine hs i G' D acc U' hU hm p2 hi H j _ fun y H3 G3 j3 ⟨hy, e3⟩ => qe y H3 G3 j3 ⟨?_, p2.trans e3⟩
    rw [List.range_succ, List.map_append, p1, hy]; rfl
  · intro acc D G' G'' ⟨p1, p2⟩ e g1 g2
    refine hd D G'' (p2.trans e) (none_of_ex p2 g1) ?_
    rw [← p1]; exact g2
end
section
open PySem.Spec PyProof.Rows
/-! ### enumerate(tuple) -/
section
open PySem.AutoSeq1 (wpAny_loadPart')
theorem meets_enumerate_newT (l : Addr) (items : Array Value) (n : Nat) (dct : Option Addr) (sl : Array (Option Value)) :
    Meets (Builtin.«enumerate.__new__» ⟨[.type "enumerate", .ref l], []⟩) (fun _ R s => s.heap.get? l = some { cls := .type "tuple", dict := dct, data := .seq items n, slots := sl } ∧
      R (.ok (.ret (.ref (s.heap.push { cls := .type "tuple_iterator", data := .fields #[.ref l, .int 0 0] }).objs.size)))
        { s with heap := (s.heap.push { cls := .type "tuple_iterator", data := .fields #[.ref l, .int 0 0] }).push { cls := .type "enumerate", data := .fields #[.none, .bool false, .ref s.heap.objs.size, rawInt 0, .none, .none] } }) :=
  .of_wp fun prog w A R s h => by
    obtain ⟨hp, g, d, tk, os⟩ := s; obtain ⟨hl, h⟩ := h
    have hsub := sub_enumerate
    have hL : Heap.IsTuple (Shared.heap ⟨hp, g, d, tk, os⟩) l items := ⟨_, hl, rfl, n, rfl⟩
    wp_walk using wpAny_loadPart' hl
    refine wpAny_stack_any fun st => wpAny_pure ?_
    split
    · rename_i c _ _ _ _ _
      cases (c == Value.type "enumerate")
      · wp_walk using wpAny_loadPart' hl, wpAny_pyIter_tuple hL
        exact ⟨_, rfl, h⟩
      · wp_walk using wpAny_loadPart' hl, wpAny_pyIter_tuple hL
        exact ⟨_, rfl, h⟩
    · wp_walk using wpAny_loadPart' hl, wpAny_pyIter_tuple hL
      exact ⟨_, rfl, h⟩
theorem call_enumerate_tuple {prog : Program} {w : World} {A : Around} {E : Value → Shared → Prop} {s : Shared} {l : Addr} {items : Array Value} {Q : Value → Shared → Prop} (hL : s.heap.IsTuple l items)
    (h : ∀ h', IsEnum h' (s.heap.objs.size + 1) s.heap.objs.size 0 .none → h'.IsTupleIter s.heap.objs.size l 0 → h'.objs.size = s.heap.objs.size + 2 →
      (∀ b o, s.heap.get? b = some o → h'.get? b = some o) → Q (.ref (s.heap.objs.size + 1)) { s with heap := h' }) :
    wpAny (model prog w) A (call (.type "enumerate") [.ref l]) Q E s := by
  obtain ⟨⟨c, dct, dt, sl⟩, hl, hc, n, hd⟩ := hL
  replace hc : c = .type "tuple" := hc
  replace hd : dt = .seq items n := hd
  subst hc hd
  refine callType_new F.called_enumerate (by decide) (F.typeCall_enumerate_1 _) (F.newCall_enumerate_1 _) (fun obj => F.args_object_init_2 obj _) F.entry_enumerate_new
    (meets_enumerate_newT l items n dct sl) ⟨hl, ?_⟩
  have hz : (s.heap.push { cls := .type "tuple_iterator", data := .fields #[.ref l, .int 0 0] }).objs.size = s.heap.objs.size + 1 := Heap.size_push ..
  show _ ∧ _
  rw [hz]
  have he : IsEnum ((s.heap.push { cls := .type "tuple_iterator", data := .fields #[.ref l, .int 0 0] }).push
      { cls := .type "enumerate", data := .fields #[.none, .bool false, .ref s.heap.objs.size, rawInt 0, .none, .none] }) (s.heap.objs.size + 1) s.heap.objs.size 0 .none := by
    have := Heap.get?_push_size (s.heap.push { cls := .type "tuple_iterator", data := .fields #[.ref l, .int 0 0] })
      (o := { cls := .type "enumerate", data := .fields #[.none, .bool false, .ref s.heap.objs.size, rawInt 0, .none, .none] }) rfl
    rw [hz] at this; exact this
  refine ⟨⟨_, he, rfl⟩, h _ he ⟨_, Heap.get?_push_of_some _ (Heap.get?_push_size _ rfl), rfl, rfl⟩ (by rw [Heap.size_push, hz]) fun b o x => Heap.get?_push_of_some _ (Heap.get?_push_of_some _ x)⟩
def IteT (K : PySem.W.Frag) (a : Addr) : It :=
  ⟨fun i H => ∃ (xs : List V) (x : V), SqT K H a xs ∧ xs[i]? = some x, fun i H v H' => ∃ T x, v = .ref T ∧ H T = none ∧ H' = upd H T (.tup [.int (i : Nat), x]) ∧ ∀ xs, SqT K H a xs → xs[i]? = some x, fun i H => ∃ xs : List V, SqT K H a xs ∧ xs.length ≤ i⟩
theorem turn_enumT {P : Program} {w : World} {K : PySem.W.Frag} {elts : List Expr} {kk : Nat} {tpos : Pos} (a e it : Addr) :
    Turn P w K (.Tuple elts kk tpos) (IteT K a) [e, it] e (fun i h => (∃ old, IsEnum h e it ((i : Nat) : Int) old) ∧ h.IsTupleIter it a i ∧ e ≠ it ∧ a ≠ it ∧ e ≠ a) where
  mem := by simp
  obj := fun i h st b hb => by
    obtain ⟨⟨old, he⟩, ⟨o, ho, hc, hd⟩, _⟩ := st
    have e' : b = e ∨ b = it := by simpa using hb
    rcases e' with z | z
    · rw [z]; exact ⟨_, he, fun v q => nomatch q⟩
    · rw [z]; exact ⟨o, ho, fun v q => by rw [hd] at q; cases q⟩
  keep := fun i h h' st k => let ⟨⟨old, he⟩, hi, hne⟩ := st; ⟨⟨old, k e (by simp) _ he⟩, hi.at fun o q => k it (by simp) o q, hne⟩
  item := by
    intro X hP hw hK hc i pins s σ H E I hf st hg
    subst hP hw hK
    obtain ⟨⟨old, he⟩, hit, hne, hai, hea⟩ := st
    obtain ⟨xs, x, hq, hx⟩ := hg
    obtain ⟨its, rv, p, hz⟩ := I.tuple hq
    obtain ⟨u, hu, ru⟩ := rv.get hx
    have hel : e < s.heap.objs.size := Heap.lt_size he
    have hil : it < s.heap.objs.size := by obtain ⟨_, q, _⟩ := hit; exact Heap.lt_size q
    have D := Draws.tuple (prog := X.prog) (w := X.w) (A := X.A.in1) (I.ok.hd hc) it a hai its.toArray
    have hlt : i < its.toArray.size := by
      have := (List.getElem?_eq_some_iff.mp hu).1
      simpa using this
    refine wpAny_pyNext_enum_itemD D he ⟨hit, p⟩ hlt hne (by simp [hne, hea]) fun u' h' tk hPu ho hit' hT hsz hk => ?_
    have hu' : u' = u := by
      have h1 : its.toArray[i]? = some u' := hPu
      have h2 : its[i]? = some u' := by simpa using h1
      rw [hu] at h2; exact (Option.some.inj h2).symm
    subst hu'
    refine ⟨_, rfl, wpAny_letOwnedTupleGo_enum (s := { s with heap := h', toks := tk + 1 }) ho fun h'' he' sb => ?_⟩
    have hT2 : h''.get? s.heap.objs.size = some { cls := .type "tuple", data := .seq #[.int i tk, u'] } := (sb.2 _ (Nat.ne_of_gt hel)).trans hT
    have new : ObjOk X.prog X.w (upd H s.heap.objs.size (.tup [.int (i : Nat), x])) h'' s.heap.objs.size (.tup [.int (i : Nat), x]) :=
      ⟨by show 2 ≤ sizeLine; decide, [.int i tk, u'], .cons ⟨_, rfl⟩ (.cons ru .nil), ⟨_, hT2, rfl, _, rfl⟩⟩
    have I1 : Inv X pins σ (upd H s.heap.objs.size (.tup [.int (i : Nat), x])) { s with heap := h'', toks := tk + 1 } :=
      I.turnedNew (ch := [e, it]) (fun b ob hb q => (sb.2 b (fun z => hb (by simp [z]))).trans (hk b ob (fun z => hb (by simp [z])) (fun z => hb (by simp [z])) q)) hf (Nat.le_refl _) new
    refine ⟨.ref s.heap.objs.size, _, I1, rfl, ⟨_, x, rfl, I.hok.fresh (Nat.le_refl _), rfl, fun ys hy => by rw [I.tuple_inj hy hq]; exact hx⟩, ⟨⟨u', ?_⟩, hit'.1.at fun o q => (sb.2 it (Ne.symm hne)).trans q, hne, hai, hea⟩, fun b hb => ?_⟩
    · have e1 : ((i + 1 : Nat) : Int) = (i : Int) + 1 := by omega
      rw [e1]; exact he'
    · have hb' : b < s.heap.objs.size := by
        have e' : b = e ∨ b = it := by simpa using hb
        rcases e' with z | z
        · rw [z]; exact hel
        · rw [z]; exact hil
      rw [upd_ne (Nat.ne_of_lt hb')]
      exact (hf b hb).1
  done := by
    intro X hP hw hK hc i pins s σ H E I hf st hg
    subst hP hw hK
    obtain ⟨⟨old, he⟩, hit, hne, hai, hea⟩ := st
    obtain ⟨xs, hq, hx⟩ := hg
    obtain ⟨its, rv, p, hz⟩ := I.tuple hq
    obtain ⟨f0, f1, f2, f3, f4, f5⟩ := hf it (by simp)
    have hl := rv.length
    have hT : s.TypeIs (.ref e) "enumerate" := ⟨_, he, rfl⟩
    unfold pyNext
    refine wpAny_bind (wpAny_attempt (wpAny_callSpecial?_slot (name := Str.ofString "__next__") hT F.slot_enumerate_next
      (wpAny_call_entry F.slot_enumerate_next hT F.entry_enumerate_next ?_ (F.args_enumerate_next_1 _))))
    show wpAny _ _ (field (.ref e) 2 >>= _) _ _ _
    refine wpAny_bind (wpAny_field he rfl (x := .ref it) rfl ?_)
    refine wpAny_bind (wpAny_nextOf_tuple_end (I.ok.hd hc) hit p (by simp; omega) fun h' x he' hx' => ?_)
    obtain ⟨o, ho, hc'⟩ := hx'
    refine wpAny_bind (wpAny_isInstance (T := "StopIteration") (b := true) ⟨o, ho, hc'⟩ isSubtype_stop ?_)
    exact wpAny_pure ⟨rfl, I.turned (t' := s.toks) (fun b o hb q => he' b o hb q) f0 f1 f3 f4 f5⟩
  self := fun A i s Q E st h => let ⟨⟨_, he⟩, _⟩ := st; wpAny_pyIter_enum he h
def iEnumT (K : PySem.W.Frag) (ta : TA) : TI := fun σ H R => ta σ H fun vs H1 => ∃ a xs, vs = [.ref a] ∧ SqT K H1 a xs ∧ R (IteT K a) H1
theorem ki_enumT {X : Cx} {K : PySem.W.Frag} {e : Expr} {ta : TA} {p pos tpos : Pos} {elts : List Expr} {kk : Nat} (hg : Gl X "enumerate") (hm : X.mg "enumerate" = none) (ha : PA X [e] ta) (hs : starEach [e] X.env = [(false, eval e X.env)] := by rfl) (hK : X.K = K := by rfl) :
    PI X (.Tuple elts kk tpos) (.Call (.Name "enumerate" p) [e] [] pos) (iEnumT K ta) := by
  subst hK
  refine ⟨fun pins s σ H R I h => ?_⟩
  refine Call_ (ld_blt I hg hm PyProof.Rows.boot_enumerate (PyProof.Rows.callWith_type1 (thn (ha.run pos pins s σ H _ I h) fun us s1 ⟨vs, H1, I1, r1, q1⟩ => ?_) hs rfl))
  obtain ⟨a, xs, ex, hq, q⟩ := q1
  subst ex
  cases r1 with
  | cons r rr =>
    cases rr
    cases r
    obtain ⟨its, rv, p', hz⟩ := I1.tuple hq
    have hal : a < s1.heap.objs.size := p'.lt
    refine call_enumerate_tuple p' fun h' he hit hsz hk => wpAny_pyIter_enum he ?_
    have I2 : Inv X pins σ H1 { s1 with heap := h' } := I1.kept (t' := s1.toks) hk
    refine ⟨s1.heap.objs.size + 1, [s1.heap.objs.size + 1, s1.heap.objs.size], _, _, H1, rfl, I2, turn_enumT a (s1.heap.objs.size + 1) s1.heap.objs.size, ⟨⟨.none, he⟩, hit, Nat.succ_ne_self _, Nat.ne_of_lt hal, Nat.ne_of_gt (Nat.lt_succ_of_lt hal)⟩, fun b hb => ?_, q⟩
    have e' : b = s1.heap.objs.size + 1 ∨ b = s1.heap.objs.size := by simpa using hb
    have hle : s1.heap.objs.size ≤ b := by
      rcases e' with z | z
      · rw [z]; exact Nat.le_add_right _ _
      · rw [z]; exact Nat.le_refl _
    exact I1.fpOk hle (I1.hok.fresh hle)
end
end
section
variable {U : Vx} {σ : L2.St} {G : Hp} {Q : VK} {K : PySem.W.Frag}
/-- over enumerate(a tuple): a new pair each turn -/
theorem em_mapET {ta : TA} {te : TE} {i0 i1 : Nat} {vs : List Nat} (v : Nat → V → V) (h : AM U ta σ G fun ws G1 => ∃ a xs, ws = [.ref a] ∧ SqT K G1 a xs ∧ xs.length < 16000000 ∧
    (∀ x y, wipe (((wipe σ vs).set i0 (some x)).set i1 (some y)) vs = wipe σ vs) ∧
    (∀ (i : Nat) x G' (D : Addr) (acc : List V) (U' : Vx), U' = U.hide D (.lst acc) → ¬ U.m D → Ex G1 G' → xs[i]? = some x → EM U' te (((wipe σ vs).set i0 (some (.int (i : Int)))).set i1 (some x)) G' fun y G3 => y = v i x ∧ Ex G' G3) ∧
    (∀ D G'', Ex G1 G'' → G1 D = none → G'' D = some (.lst ((List.range xs.length).map fun i => v i (xs.getD i .non))) → Q (.ref D) G'')) : EM U (tLc (iEnumT K ta) (gTup K 2 (gCons (gName i0) (gCons (gName i1) gNil))) tYes te vs) σ G Q := fun H j QH q =>
  h H j _ fun ws H1 G1 j1 ⟨a, xs, e, hx, hlen, hw, hs, hd⟩ => ⟨a, xs, e, ex_t j1.up hx, fun D hD => by
    have nm : ¬ U.m D := fun z => (j1.msk D z).2 hD
    have nh : U.He D = none := none_of_ex j1.keep hD
    have wk : Walk (IteT K a) xs.length (fun H => SqT K H a xs) (fun i H v H' => ∃ T x, v = .ref T ∧ H T = none ∧ H' = upd H T (.tup [.int (i : Nat), x]) ∧ xs[i]? = some x) :=
      ⟨fun i H hi hq => ⟨xs, xs[i], hq, by simp [hi]⟩, fun H hq => ⟨xs, hq, Nat.le_refl _⟩, fun i H x H' hi hq ⟨T, y, e1, e2, e3, e4⟩ => ⟨T, y, e1, e2, e3, e4 xs hq⟩⟩
    refine lc_it wk (fun i H' => i ≤ xs.length ∧ ∃ G', J (U.hide D (.lst ((List.range i).map fun i => v i (xs.getD i .non)))) H' G' ∧ Ex G1 G') ⟨Nat.zero_le _, G1, ?_, Ex.refl _⟩ (fun i H' _ ⟨_, G', j', e'⟩ => ex_t j'.up (ex_t e' hx)) (fun i x H' H'' hi ⟨_, G', j', e'⟩ ⟨T, y, ex, hT, eH, hy⟩ => ?_) (fun H' ⟨_, G', j', e'⟩ => ?_)
    · have ja := j1.alloc (o := .lst []) hD
      refine ⟨fun a u e => ?_, ja.keep, j1.new, ⟨ja.hid, upd_same⟩, fun a ma => ?_⟩
      · rw [upd_ne (fun z => by subst z; rw [j1.free hD] at e; cases e)]; exact j1.up a u e
      · rcases ma with ma | rfl
        · obtain ⟨q1, q2⟩ := j1.msk a ma
          refine ⟨q1, ?_⟩
          rw [upd_ne (fun z => by subst z; exact q2 hD)]; exact q2
        · exact ⟨j1.free hD, by rw [upd_same]; exact fun q => by cases q⟩
    · subst ex eH
      have jT := j'.alloc (o := .tup [.int (i : Nat), y]) hT
      have gT := j'.free hT
      have e2 : Ex G' (upd G' T (.tup [.int (i : Nat), y])) := Ex.new gT
      refine ⟨T, [.int (i : Nat), y], rfl, SqT.of upd_same, rfl, _, _, rfl, _, _, rfl, rfl, hw _ _, ?_⟩
      show (if true = true then te (((wipe σ vs).set i0 (some (.int (i : Int)))).set i1 (some y)) (upd H' T (.tup [.int (i : Nat), y])) (fun y H4 => ∃ acc, H4 D = some (.lst acc) ∧ acc.length < sizeLine ∧ (i + 1 ≤ xs.length ∧ ∃ G', J (U.hide D (.lst ((List.range (i + 1)).map fun i => v i (xs.getD i .non)))) (upd H4 D (.lst (acc ++ [y]))) G' ∧ Ex G1 G')) else (i + 1 ≤ xs.length ∧ ∃ G'', J (U.hide D (.lst ((List.range (i + 1)).map fun i => v i (xs.getD i .non)))) (upd H' T (.tup [.int (i : Nat), y])) G'' ∧ Ex G1 G''))
      rw [if_pos rfl]
      refine hs i y _ D _ _ rfl nm (e'.trans e2) hy _ jT _ fun z H4 G4 j4 ⟨ez, e4⟩ => ⟨_, j4.hid.2, ?_, hi, G4, ?_, (e'.trans e2).trans e4⟩
      · rw [List.length_map, List.length_range]
        exact Nat.lt_of_lt_of_le (show i < 16000000 by omega) (by decide)
      · have je := j4.rehide (o' := .lst (((List.range i).map fun i => v i (xs.getD i .non)) ++ [z])) nm nh
        have el : (List.range (i + 1)).map (fun i => v i (xs.getD i .non)) = ((List.range i).map fun i => v i (xs.getD i .non)) ++ [z] := by
          rw [List.range_succ, List.map_append, ez]
          show _ ++ [v i (xs.getD i .non)] = _
          rw [List.getD_eq_getElem?_getD, hy]
          rfl
        rw [el]; exact je
    · have gd : G' D = none := (j'.msk D (.inr rfl)).1
      exact q _ _ _ (j'.unhide nm nh) (hd D _ (e'.trans (Ex.new gd)) (none_of_ex e' gd) upd_same)⟩
end
theorem ke_revL {X : Cx} {K : PySem.W.Frag} {e : Expr} {te : TE} {k : Nat} {p1 p2 p3 pos : Pos} (he : PE X e te) (h : X.K = K := by rfl) : PE X (.Subscript e (.Slice none none (some (.UnaryOp .USub (.Constant (.int 1) k p1) p2)) p3) pos) (tRevL K te) := by subst h; exact pe_revL he
theorem em_revL {U : Vx} {σ : L2.St} {G : Hp} {Q : VK} {K : PySem.W.Frag} {te : TE} (h : EM U te σ G fun x G1 => ∃ a xs, x = .ref a ∧ SqL K G1 a xs ∧ ∀ p G2, G1 p = none → Ex G1 G2 → G2 p = some (.lst xs.reverse) → Q (.ref p) G2) : EM U (tRevL K te) σ G Q := fun H j QH q =>
  h H j _ fun x H1 G1 j1 ⟨a, xs, e, hx, k⟩ => ⟨a, xs, e, ex_l j1.up hx, fun p hp => q _ _ _ (j1.alloc hp) (k p _ (j1.free hp) (Ex.new (j1.free hp)) upd_same)⟩
theorem sqt_wo {K : PySem.W.Frag} {G : Hp} {I p : Addr} {xs ys : List V} (h : G I = some (.lst xs)) (hp : SqT K G p ys) : SqT K (wo I G) p ys := by
  rcases hp with (hp | ⟨o, hp⟩) | hp
  · exact .inl (.inl (by rw [wo_ne (fun z => by rw [z, h] at hp; cases hp)]; exact hp))
  · exact .inl (.inr ⟨o, by rw [wo_ne (fun z => by rw [z, h] at hp; cases hp)]; exact hp⟩)
  · exact .inr hp
/-- for i, x in enumerate(a tuple) -/
theorem sm_forET {U : Vx} {σ : L2.St} {G : Hp} {K : PySem.W.Frag} {ta : TA} {ts : TS} {D : Ends} {i0 i1 : Nat} (h : AM U ta σ G fun vs G1 => ∃ a xs, vs = [.ref a] ∧ SqT K G1 a xs ∧ ∃ P : Nat → L2.St → Hp → Prop, P 0 σ G1 ∧ (∀ i σ' G', i ≤ xs.length → P i σ' G' → SqT K G' a xs) ∧
    (∀ (i : Nat) x σ' G' G'', xs[i]? = some x → P i σ' G' → Ex G' G'' → (∀ a o, (∃ ys, o = HO.lst ys) → G'' a = some o → G' a = some o) → SM U ts ⟨KJ U (P (i + 1)), D.rt, D.nx, KJ U (P (i + 1))⟩ ((σ'.set i0 (some (.int (i : Int)))).set i1 (some x)) G'') ∧ (∀ σ' G', P xs.length σ' G' → KM U D.nx σ' G')) : SM U (tFor (iEnumT K ta) (gTup K 2 (gCons (gName i0) (gCons (gName i1) gNil))) ts) D σ G := fun H j =>
  h H j _ fun vs H1 G1 j1 ⟨a, xs, e, hx, P, h0, hl, hs, hd⟩ => by
    have wk : Walk (IteT K a) xs.length (fun H => SqT K H a xs) (fun i H v H' => ∃ T x, v = .ref T ∧ H T = none ∧ H' = upd H T (.tup [.int (i : Nat), x]) ∧ xs[i]? = some x) :=
      ⟨fun i H hi hq => ⟨xs, xs[i], hq, by simp [hi]⟩, fun H hq => ⟨xs, hq, Nat.le_refl _⟩, fun i H x H' hi hq ⟨T, y, e1, e2, e3, e4⟩ => ⟨T, y, e1, e2, e3, e4 xs hq⟩⟩
    refine ⟨a, xs, e, ex_t j1.up hx, for_it wk (fun i => KJ U (P i)) ⟨G1, j1, h0⟩ (fun i σ' H' hi ⟨G', j', p⟩ => ex_t j'.up (hl i σ' G' hi p)) (fun i x σ' H' H'' hi ⟨G', j', p⟩ ⟨T, y, ex, hT, eH, hy⟩ => ?_) (fun σ' H' ⟨G', j', p⟩ => hd σ' G' p H' j')⟩
    subst ex eH
    have gT := j'.free hT
    refine ⟨T, [.int (i : Nat), y], rfl, SqT.of upd_same, rfl, _, _, rfl, _, _, rfl, rfl, ?_⟩
    have k := hs i y σ' G' (upd G' T (.tup [.int (i : Nat), y])) hy p (Ex.new gT) (fun b o ⟨ys, eo⟩ hb => by
      have nb : b ≠ T := fun z => by rw [z, upd_same, eo] at hb; cases hb
      rw [upd_ne nb] at hb; exact hb) _ (j'.alloc hT)
    exact k
end Wp

set_option Elab.async false
set_option linter.all false
set_option maxRecDepth 100000
set_option maxHeartbeats 4000000
/-! Data in place of addresses: what a part of the heap shows, by value. -/
namespace Wp
open PySem L2 Evl StX
set_option autoImplicit false
inductive D where
  | non
  | bl (b : Bool)
  | int (i : Int)
  | str (s : Str)
  | lst (ds : List D)
  | tup (ds : List D)
  | obj (C : Addr) (ks : List Str) (ds : List D)
  | dct (ks : List Key) (ds : List D)
  | adr (a : Addr)
mutual
inductive Rp (K : PySem.W.Frag) (F : Hp) : V → D → Prop
  | non : Rp K F .non .non
  | bl (b : Bool) : Rp K F (.bl b) (.bl b)
  | int (i : Int) : Rp K F (.int i) (.int i)
  | str (s : Str) : Rp K F (.str s) (.str s)
  | lst {a : Addr} {vs : List V} {ds : List D} : F a = some (.lst vs) → RpA K F vs ds → Rp K F (.ref a) (.lst ds)
  | tup {a : Addr} {vs : List V} {ds : List D} : SqT K F a vs → RpA K F vs ds → Rp K F (.ref a) (.tup ds)
  | obj {a C dx : Addr} {fvs : List (Str × V)} {ks : List Str} {ds : List D} : F a = some (.ins C dx fvs) → fvs.map (·.1) = ks → RpA K F (fvs.map (·.2)) ds → Rp K F (.ref a) (.obj C ks ds)
  | dct {a : Addr} {kvs : List (Key × V)} {ks : List Key} {ds : List D} : Rd F a (.dK kvs) → kvs.map (·.1) = ks → ks.Nodup → RpA K F (kvs.map (·.2)) ds → Rp K F (.ref a) (.dct ks ds)
  | adr (a : Addr) : Rp K F (.ref a) (.adr a)
inductive RpA (K : PySem.W.Frag) (F : Hp) : List V → List D → Prop
  | nil : RpA K F [] []
  | cons {v : V} {vs : List V} {d : D} {ds : List D} : Rp K F v d → RpA K F vs ds → RpA K F (v :: vs) (d :: ds)
end
section
variable {K : PySem.W.Frag} {F F' : Hp}
theorem rp_mono (e : Ex F F') : ∀ (d : D) (v : V), Rp K F v d → Rp K F' v d
  | .non, v, h => by cases h; exact .non
  | .bl b, v, h => by cases h; exact .bl b
  | .int b, v, h => by cases h; exact .int b
  | .str b, v, h => by cases h; exact .str b
  | .lst ds, v, h => by cases h with | lst a b => exact .lst (e _ _ a) (all ds _ b)
  | .tup ds, v, h => by cases h with | tup a b => exact .tup (ex_t e a) (all ds _ b)
  | .obj C ks ds, v, h => by cases h with | obj a k b => exact .obj (e _ _ a) k (all ds _ b)
  | .dct ks ds, v, h => by cases h with | dct a k n b => exact .dct (ex_rd e a) k n (all ds _ b)
  | .adr a, v, h => by cases h; exact .adr a
where
  all : ∀ (ds : List D) (vs : List V), RpA K F vs ds → RpA K F' vs ds
  | [], vs, h => by cases h; exact .nil
  | d :: ds, vs, h => by cases h with | cons a b => exact .cons (rp_mono e d _ a) (all ds _ b)
theorem Rp.mono {v : V} {d : D} (h : Rp K F v d) (e : Ex F F') : Rp K F' v d := rp_mono e d v h
theorem RpA.mono {vs : List V} {ds : List D} (h : RpA K F vs ds) (e : Ex F F') : RpA K F' vs ds := rp_mono.all e ds vs h
theorem RpA.len {vs : List V} : ∀ {ds : List D}, RpA K F vs ds → vs.length = ds.length := by
  induction vs with
  | nil => intro ds h; cases h; rfl
  | cons v vs ih => intro ds h; cases h with | cons a b => rw [List.length_cons, List.length_cons, ih b]
theorem RpA.at {vs : List V} : ∀ {ds : List D}, RpA K F vs ds → ∀ {i : Nat} {v : V}, vs[i]? = some v → ∃ d, ds[i]? = some d ∧ Rp K F v d := by
  induction vs with
  | nil => intro ds h i v e; simp at e
  | cons w ws ih =>
    intro ds h i v e
    cases h with
    | cons a b =>
      cases i with
      | zero => simp at e; subst e; exact ⟨_, rfl, a⟩
      | succ i => simp at e; obtain ⟨d, h1, h2⟩ := ih b e; exact ⟨d, by simpa using h1, h2⟩
theorem RpA.get {vs : List V} : ∀ {ds : List D}, RpA K F vs ds → ∀ {i : Nat} {d : D}, ds[i]? = some d → ∃ v, vs[i]? = some v ∧ Rp K F v d := by
  induction vs with
  | nil => intro ds h i v e; cases h; simp at e
  | cons w ws ih =>
    intro ds h i v e
    cases h with
    | cons a b =>
      cases i with
      | zero => simp at e; subst e; exact ⟨_, rfl, a⟩
      | succ i => simp at e; obtain ⟨d, h1, h2⟩ := ih b e; exact ⟨d, by simpa using h1, h2⟩
theorem RpA.app {vs ws : List V} {es : List D} (h2 : RpA K F ws es) : ∀ {ds : List D}, RpA K F vs ds → RpA K F (vs ++ ws) (ds ++ es) := by
  induction vs with
  | nil => intro ds h; cases h; exact h2
  | cons v vs ih => intro ds h; cases h with | cons a b => exact .cons a (ih b)
theorem RpA.one {v : V} {d : D} (h : Rp K F v d) : RpA K F [v] [d] := .cons h .nil
theorem RpA.drop {vs : List V} : ∀ {ds : List D} (n : Nat), RpA K F vs ds → RpA K F (vs.drop n) (ds.drop n) := by
  induction vs with
  | nil => intro ds n h; cases h; simp; exact .nil
  | cons v vs ih =>
    intro ds n h
    cases n with
    | zero => exact h
    | succ n => cases h with | cons a b => exact ih n b
theorem RpA.take {vs : List V} : ∀ {ds : List D} (n : Nat), RpA K F vs ds → RpA K F (vs.take n) (ds.take n) := by
  induction vs with
  | nil => intro ds n h; cases h; simp; exact .nil
  | cons v vs ih =>
    intro ds n h
    cases n with
    | zero => simp; exact .nil
    | succ n => cases h with | cons a b => exact .cons a (ih n b)
theorem RpA.rev {vs : List V} : ∀ {ds : List D}, RpA K F vs ds → RpA K F vs.reverse ds.reverse := by
  induction vs with
  | nil => intro ds h; cases h; exact .nil
  | cons v vs ih => intro ds h; cases h with | cons a b => rw [List.reverse_cons, List.reverse_cons]; exact (RpA.one a).app (ih b)
theorem RpA.set {vs : List V} {v : V} {d : D} (hv : Rp K F v d) : ∀ {ds : List D} (n : Nat), RpA K F vs ds → RpA K F (vs.set n v) (ds.set n d) := by
  induction vs with
  | nil => intro ds n h; cases h; exact .nil
  | cons w ws ih =>
    intro ds n h
    cases h with
    | cons a b =>
      cases n with
      | zero => exact .cons hv b
      | succ n => exact .cons a (ih n b)
theorem RpA.cut {vs : List V} {ds : List D} (h : RpA K F vs ds) (lo hi : Option Int) : RpA K F (cutV vs lo hi) ((ds.drop (HT.sIx ds.length 0 lo)).take (HT.sIx ds.length ds.length hi - HT.sIx ds.length 0 lo)) := by
  unfold cutV
  rw [h.len]
  exact (h.drop _).take _
theorem RpA.atI {vs : List V} {ds : List D} (h : RpA K F vs ds) {i : Int} {d : D} (e : atI ds i = some d) : ∃ v, atI vs i = some v ∧ Rp K F v d := by
  unfold L2.atI at e ⊢
  rw [h.len]
  cases z : ixN ds.length i with
  | none => rw [z] at e; simp at e
  | some j => rw [z] at e; simp at e ⊢; exact h.get e
/-! ### from the heap's data to the library's -/
mutual
def D.py : D → PyData
  | .non => .none
  | .bl b => .bool b
  | .int i => .int i
  | .str s => .str s
  | .lst ds => .list (D.pys ds)
  | .tup ds => .tuple (D.pys ds)
  | .obj _ _ _ => .none
  | .dct _ _ => .none
  | .adr _ => .none
def D.pys : List D → List PyData
  | [] => []
  | d :: ds => d.py :: D.pys ds
end
mutual
/-- no objects, no bools -/
def D.plain : D → Bool
  | .non => true
  | .bl _ => false
  | .int _ => true
  | .str s => PyData.strOk s
  | .lst ds => D.plains ds
  | .tup ds => D.plains ds
  | .obj _ _ _ => false
  | .dct _ _ => false
  | .adr _ => false
def D.plains : List D → Bool
  | [] => true
  | d :: ds => d.plain && D.plains ds
end
mutual
def D.dep : D → Nat
  | .lst ds => D.deps ds + 1
  | .tup ds => D.deps ds + 1
  | _ => 0
def D.deps : List D → Nat
  | [] => 0
  | d :: ds => max d.dep (D.deps ds)
end
theorem rp_dp : ∀ (d : D) (v : V), d.plain = true → Rp K F v d → Dp K F v d.py
  | .non, v, p, h => by cases h; exact .non
  | .bl b, v, p, h => by cases p
  | .int b, v, p, h => by cases h; exact .int b
  | .str b, v, p, h => by cases h; exact .str b
  | .lst ds, v, p, h => by cases h with | lst a b => exact .lst (.inl (.inl a)) (all ds _ p b)
  | .tup ds, v, p, h => by cases h with | tup a b => exact .tup a (all ds _ p b)
  | .obj C ks ds, v, p, h => by cases p
  | .dct ks ds, v, p, h => by cases p
  | .adr a, v, p, h => by cases p
where
  all : ∀ (ds : List D) (vs : List V), D.plains ds = true → RpA K F vs ds → DpAll K F vs (D.pys ds)
  | [], vs, p, h => by cases h; exact .nil
  | d :: ds, vs, p, h => by
    have p' : d.plain = true ∧ D.plains ds = true := by simpa [D.plains] using p
    cases h with | cons a b => exact .cons (rp_dp d _ p'.1 a) (all ds _ p'.2 b)
theorem py_eqv : ∀ (d e : D), d.plain = true → e.plain = true → (PyData.eqv d.py e.py = true ↔ d = e)
  | .non, e, p, q => by cases e <;> simp [D.py, PyData.eqv, D.plain] at *
  | .bl b, e, p, q => by cases p
  | .int b, e, p, q => by cases e <;> simp [D.py, PyData.eqv, D.plain] at *
  | .str b, e, p, q => by cases e <;> simp [D.py, PyData.eqv, D.plain] at *
  | .lst ds, e, p, q => by
    cases e <;> simp [D.py, PyData.eqv, D.plain] at *
    exact all ds _ p q
  | .tup ds, e, p, q => by
    cases e <;> simp [D.py, PyData.eqv, D.plain] at *
    exact all ds _ p q
  | .obj C ks ds, e, p, q => by cases p
  | .dct ks ds, e, p, q => by cases p
  | .adr a, e, p, q => by cases p
where
  all : ∀ (ds es : List D), D.plains ds = true → D.plains es = true → (PyData.eqvAll (D.pys ds) (D.pys es) = true ↔ ds = es)
  | [], es, p, q => by cases es <;> simp [D.pys, PyData.eqvAll]
  | d :: ds, es, p, q => by
    cases es with
    | nil => simp [D.pys, PyData.eqvAll]
    | cons e es =>
      have p' : d.plain = true ∧ D.plains ds = true := by simpa [D.plains] using p
      have q' : e.plain = true ∧ D.plains es = true := by simpa [D.plains] using q
      simp only [D.pys, PyData.eqvAll, Bool.and_eq_true, py_eqv d e p'.1 q'.1, all ds es p'.2 q'.2, List.cons.injEq]
theorem py_lay : ∀ (d : D), d.plain = true → PyData.canLay0 d.py = true
  | .non, _ => by simp [D.py, PyData.canLay0]
  | .bl b, _ => by simp [D.py, PyData.canLay0]
  | .int b, _ => by simp [D.py, PyData.canLay0]
  | .str b, h => by simp [D.py, PyData.canLay0]; exact h
  | .lst ds, h => by simp [D.py, PyData.canLay0]; exact all ds h
  | .tup ds, h => by simp [D.py, PyData.canLay0]; exact all ds h
  | .obj C ks ds, _ => by simp [D.py, PyData.canLay0]
  | .dct ks ds, _ => by simp [D.py, PyData.canLay0]
  | .adr a, _ => by simp [D.py, PyData.canLay0]
where
  all : ∀ (ds : List D), D.plains ds = true → PyData.canLayAll0 (D.pys ds) = true
  | [], _ => by simp [D.pys, PyData.canLayAll0]
  | d :: ds, h => by
    have p' : d.plain = true ∧ D.plains ds = true := by simpa [D.plains] using h
    simp [D.pys, PyData.canLayAll0]; exact ⟨py_lay d p'.1, all ds p'.2⟩
theorem py_dep : ∀ (d : D), PyData.depth d.py ≤ d.dep + 1
  | .non => by simp [D.py, PyData.depth]
  | .bl b => by simp [D.py, PyData.depth]
  | .int b => by simp [D.py, PyData.depth]
  | .str b => by simp [D.py, PyData.depth]
  | .lst ds => by simp [D.py, PyData.depth, D.dep]; have := all ds; omega
  | .tup ds => by simp [D.py, PyData.depth, D.dep]; have := all ds; omega
  | .obj C ks ds => by simp [D.py, PyData.depth]
  | .dct ks ds => by simp [D.py, PyData.depth]
  | .adr a => by simp [D.py, PyData.depth]
where
  all : ∀ (ds : List D), PyData.depthAll (D.pys ds) ≤ D.deps ds + 1
  | [] => by simp [D.pys, PyData.depthAll]
  | d :: ds => by simp [D.pys, PyData.depthAll, D.deps]; have h1 := py_dep d; have h2 := all ds; omega
theorem py_shaped {d : D} (hp : d.plain = true) (h : d.dep ≤ 60) : SeqAt.shaped d.py = true := by
  unfold SeqAt.shaped
  rw [py_lay d hp]
  have := py_dep d
  simp; omega
theorem plains_map {α : Type} {f : α → D} (h : ∀ x, (f x).plain = true) : ∀ xs : List α, D.plains (xs.map f) = true
  | [] => rfl
  | x :: xs => by rw [List.map_cons, D.plains, h x, plains_map h xs]; rfl
theorem deps_map {α : Type} {f : α → D} {n : Nat} (h : ∀ x, (f x).dep ≤ n) : ∀ xs : List α, D.deps (xs.map f) ≤ n
  | [] => Nat.zero_le _
  | x :: xs => by rw [List.map_cons, D.deps]; have := h x; have := deps_map h xs; omega
end
/-! ### owned objects are hidden -/
/-- what is known of a hidden object: just that one; or that it is one of some -/
inductive HI where
  | ex (o : HO)
  | ce (I : HO → Prop)
def HI.ok : HI → HO → Prop
  | .ex o, x => x = o
  | .ce I, x => I x
abbrev Ow := List (Addr × HI)
abbrev Ce := List (Addr × (HO → Prop))
def Vx.hides (U : Vx) (L : Ow) : Vx := ⟨U.He, U.Ge, fun H => U.I H ∧ ∀ p ∈ L, ∃ o, H p.1 = some o ∧ p.2.ok o, fun a => U.m a ∨ ∃ o, (a, o) ∈ L,
  fun H H' ⟨i, h⟩ e => ⟨U.st H H' i fun a ma => e a (.inl ma), fun p hp => by rw [e p.1 (.inr ⟨p.2, hp⟩)]; exact h p hp⟩⟩
section
variable {U : Vx} {L : Ow} {H G : Hp}
theorem J.hides_nil (j : J U H G) : J (U.hides []) H G := ⟨j.up, j.keep, j.new, ⟨j.hid, fun _ h => nomatch h⟩, fun a ma => j.msk a (ma.elim id fun ⟨_, h⟩ => nomatch h)⟩
theorem J.unhides (j : J (U.hides L) H G) : J U H G := ⟨j.up, j.keep, j.new, j.hid.1, fun a ma => j.msk a (.inl ma)⟩
/-- an object that is new and shown is hidden from here on -/
theorem J.own {p : Addr} {o : HO} {I : HI} (j : J (U.hides L) H G) (h : G p = some o) (hI : I.ok o) (hn : U.Ge p = none) : J (U.hides ((p, I) :: L)) H (wo p G) where
  up := fun a u e => by
    by_cases z : a = p
    · rw [z, wo_same] at e; cases e
    · rw [wo_ne z] at e; exact j.up a u e
  keep := j.keep
  new := fun a q g => by
    by_cases z : a = p
    · rw [z, wo_same] at q; exact absurd rfl q
    · rw [wo_ne z] at q; exact j.new a q g
  hid := ⟨j.hid.1, fun q hq => by
    rcases List.mem_cons.mp hq with rfl | hq
    · exact ⟨o, j.up _ _ h, hI⟩
    · exact j.hid.2 q hq⟩
  msk := fun a ma => by
    have k : (U.hides L).m a → (wo p G) a = none ∧ H a ≠ none := fun m => by
      obtain ⟨q1, q2⟩ := j.msk a m
      refine ⟨?_, q2⟩
      by_cases z : a = p
      · rw [z, wo_same]
      · rw [wo_ne z]; exact q1
    rcases ma with ma | ⟨ws, hw⟩
    · exact k (.inl ma)
    · rcases List.mem_cons.mp hw with e | hw
      · cases e; exact ⟨wo_same, by rw [j.up _ _ h]; exact fun q => by cases q⟩
      · exact k (.inr ⟨ws, hw⟩)
/-- an owned object is shown -/
theorem J.at {a : Addr} {o : HO} (j : J (U.hides L) H G) (h : (a, HI.ex o) ∈ L) : H a = some o := by
  obtain ⟨x, h1, h2⟩ := j.hid.2 _ h
  rw [h1, show x = o from h2]
theorem J.show {a : Addr} {o : HO} (j : J (U.hides L) H G) (h : (a, HI.ex o) ∈ L) (hm : ¬ U.m a) (hn : U.He a = none) : J (U.hides (L.filter fun p => decide (p.1 ≠ a))) H (upd G a o) where
  up := fun b u e => by
    by_cases z : b = a
    · subst z; rw [upd_same] at e; rw [j.at h]; exact e
    · rw [upd_ne z] at e; exact j.up b u e
  keep := j.keep
  new := fun b q g => by
    by_cases z : b = a
    · subst z; exact hn
    · rw [upd_ne z] at q; exact j.new b q g
  hid := ⟨j.hid.1, fun q hq => j.hid.2 q (List.mem_filter.mp hq).1⟩
  msk := fun b mb => by
    rcases mb with mb | ⟨ws, hw⟩
    · have : b ≠ a := fun z => by subst z; exact hm mb
      rw [upd_ne this]; exact j.msk b (.inl mb)
    · obtain ⟨h1, h2⟩ := List.mem_filter.mp hw
      have : b ≠ a := by simpa using h2
      rw [upd_ne this]; exact j.msk b (.inr ⟨ws, h1⟩)
def setO (a : Addr) (I : HI) (L : Ow) : Ow := L.map fun p => if p.1 = a then (a, I) else p
theorem setO_mem {a b : Addr} {I u : HI} {L : Ow} : (b, u) ∈ setO a I L → (b = a ∧ u = I ∧ ∃ x, (a, x) ∈ L) ∨ (b ≠ a ∧ (b, u) ∈ L) := by
  unfold setO
  intro h
  obtain ⟨p, hp, e⟩ := List.mem_map.mp h
  by_cases z : p.1 = a
  · rw [if_pos z] at e; cases e; exact .inl ⟨rfl, rfl, p.2, by rw [← z]; exact hp⟩
  · rw [if_neg z] at e; subst e; exact .inr ⟨z, hp⟩
theorem mem_setO {a b : Addr} {I u : HI} {L : Ow} (n : b ≠ a) (h : (b, u) ∈ L) : (b, u) ∈ setO a I L := List.mem_map.mpr ⟨(b, u), h, by rw [if_neg n]⟩
theorem mem_setO_self {a : Addr} {x I : HI} {L : Ow} (h : (a, x) ∈ L) : (a, I) ∈ setO a I L := List.mem_map.mpr ⟨(a, x), h, by rw [if_pos rfl]⟩
/-- an owned object is changed -/
theorem J.chg {a : Addr} {x I : HI} {o : HO} (j : J (U.hides L) H G) (h : (a, x) ∈ L) (hI : I.ok o) (hm : ¬ U.m a) (hn : U.He a = none) : J (U.hides (setO a I L)) (upd H a o) G where
  up := fun b u e => by
    have : b ≠ a := fun z => by subst z; rw [(j.msk b (.inr ⟨x, h⟩)).1] at e; cases e
    rw [upd_ne this]; exact j.up b u e
  keep := fun b u e => by
    have : b ≠ a := fun z => by subst z; exact absurd (show U.He b = some u from e) (by rw [hn]; exact fun q => by cases q)
    rw [upd_ne this]; exact j.keep b u e
  new := j.new
  hid := ⟨U.st H _ j.hid.1 fun b mb => by
    have : b ≠ a := fun z => by subst z; exact hm mb
    rw [upd_ne this], fun q hq => by
    rcases setO_mem (b := q.1) (u := q.2) hq with ⟨e1, e2, _⟩ | ⟨n, hq⟩
    · rw [e1, e2, upd_same]; exact ⟨o, rfl, hI⟩
    · rw [upd_ne n]; exact j.hid.2 _ hq⟩
  msk := fun b mb => by
    have k : (U.hides L).m b → G b = none ∧ (upd H a o) b ≠ none := fun m => by
      obtain ⟨q1, q2⟩ := j.msk b m
      refine ⟨q1, ?_⟩
      by_cases z : b = a
      · subst z; rw [upd_same]; exact fun q => by cases q
      · rw [upd_ne z]; exact q2
    rcases mb with mb | ⟨us, hu⟩
    · exact k (.inl mb)
    · rcases setO_mem hu with ⟨e1, _, vs', e2⟩ | ⟨_, hu⟩
      · rw [e1] at k ⊢; exact k (.inr ⟨vs', e2⟩)
      · exact k (.inr ⟨us, hu⟩)
theorem J.chgHead {a : Addr} {x I : HI} {o : HO} (j : J (U.hides ((a, x) :: L)) H G) (hI : I.ok o) (hL : ∀ q ∈ L, q.1 ≠ a) (hm : ¬ U.m a) (hn : U.He a = none) : J (U.hides ((a, I) :: L)) (upd H a o) G := by
  have jj := j.chg (o := o) (I := I) List.mem_cons_self hI hm hn
  refine ⟨jj.up, jj.keep, jj.new, ⟨jj.hid.1, fun q hq => ?_⟩, fun b ma => ?_⟩
  · rcases List.mem_cons.mp hq with rfl | hq
    · exact ⟨o, upd_same, hI⟩
    · rw [upd_ne (hL q hq)]; exact j.hid.2 _ (List.mem_cons_of_mem _ hq)
  · refine jj.msk b ?_
    rcases ma with ma | ⟨ws, hw'⟩
    · exact .inl ma
    · rcases List.mem_cons.mp hw' with e | hw'
      · cases e; exact .inr ⟨_, mem_setO_self List.mem_cons_self⟩
      · by_cases z : b = a
        · rw [z]; exact .inr ⟨_, mem_setO_self List.mem_cons_self⟩
        · exact .inr ⟨ws, mem_setO z (List.mem_cons_of_mem _ hw')⟩
/-! ### a hidden place of which something is known, whatever its object -/
structure CellOk (U : Vx) (a : Addr) (I : HO → Prop) : Prop where
  m : U.m a
  ne : U.He a = none
  at_ : ∀ H, U.I H → ∃ o, H a = some o ∧ I o
  to : ∀ H H', U.I H → (∀ x, U.m x → x ≠ a → H' x = H x) → (∃ o, H' a = some o ∧ I o) → U.I H'
end
end Wp

set_option Elab.async false
set_option linter.all false
set_option maxRecDepth 100000
set_option maxHeartbeats 4000000
namespace Wp
open PySem L2 Evl StX
set_option autoImplicit false
/-- an own thing, by data -/
inductive OD where
  | ins (C : Addr) (ks : List Str) (ds : List D)
  | dct (ks : List Key) (ds : List D)
  | lst (ds : List D)
  | tab (q : Str)
inductive ODr (K : PySem.W.Frag) (G : Hp) : OD → HO → Prop
  | ins {C dx : Addr} {fvs : List (Str × V)} {ks : List Str} {ds : List D} : fvs.map (·.1) = ks → RpA K G (fvs.map (·.2)) ds → ODr K G (.ins C ks ds) (.ins C dx fvs)
  | dct {kvs : List (Key × V)} {ks : List Key} {ds : List D} : kvs.map (·.1) = ks → ks.Nodup → RpA K G (kvs.map (·.2)) ds → ODr K G (.dct ks ds) (.dK kvs)
  | lst {vs : List V} {ds : List D} : RpA K G vs ds → ODr K G (.lst ds) (.lst vs)
  | tab {q : Str} {ps : Array Value} : TriplesOk ps.toList → (∀ (pos : Pos) (cv : Value), codeAmong pos ps.toList = some cv → ∃ c, cv = .ref c ∧ G c = some (LamX.CodeO c q)) → ODr K G (.tab q) (.tbl ps)
theorem ODr.mono {K : PySem.W.Frag} {G G' : Hp} {w : OD} {o : HO} (h : ODr K G w o) (e : Ex G G') : ODr K G' w o := by
  cases h with
  | ins a b => exact .ins a (b.mono e)
  | dct a n b => exact .dct a n (b.mono e)
  | lst b => exact .lst (b.mono e)
  | tab a b => exact .tab a fun pos cv hc => let ⟨c, h1, h2⟩ := b pos cv hc; ⟨c, h1, e _ _ h2⟩
/-- what is known of a slot: a datum; a list, a dict, an object, a list of such of the def's own; the law's draws; its script -/
inductive E where
  | any
  | d (d : D)
  | own (ds : List D)
  | dic (ks : List Key) (ds : List D)
  | ob (C : Addr) (ks : List Str) (es : List E)
  | lo (es : List E)
  | st
  | sc
  | cd (d : D) (cs : Ce)
  | oa (a : Addr) (w : OD)
  | nd (ad : Option Addr) (d : D) (ws : List (Addr × OD))
def E.known : E → Bool
  | .any => false
  | _ => true
/-- may stand at two names -/
def E.free : E → Bool
  | .d _ => true
  | .st => true
  | .sc => true
  | .cd _ _ => true
  | _ => false
/-- own things at known addresses -/
def OwsA (K : PySem.W.Frag) (L : Ow) (G : Hp) (ws : List (Addr × OD)) : Prop := ∀ p ∈ ws, ∃ o, (p.1, HI.ex o) ∈ L ∧ ODr K G p.2 o
section
variable {K : PySem.W.Frag}
mutual
inductive Sv (K : PySem.W.Frag) (U : Vx) (L : Ow) (G : Hp) : E → V → List Addr → Prop
  | any (v : V) : Sv K U L G .any v []
  | d {d : D} {v : V} : Rp K G v d → Sv K U L G (.d d) v []
  | own {a : Addr} {vs : List V} {ds : List D} : (a, HI.ex (.lst vs)) ∈ L → RpA K G vs ds → Sv K U L G (.own ds) (.ref a) [a]
  | dic {a : Addr} {kvs : List (Key × V)} {ks : List Key} {ds : List D} : (a, HI.ex (.dK kvs)) ∈ L → kvs.map (·.1) = ks → ks.Nodup → RpA K G (kvs.map (·.2)) ds → Sv K U L G (.dic ks ds) (.ref a) [a]
  | ob {a C dx : Addr} {fvs : List (Str × V)} {ks : List Str} {es : List E} {F : List Addr} : (a, HI.ex (.ins C dx fvs)) ∈ L → fvs.map (·.1) = ks → SvA K U L G es (fvs.map (·.2)) F → Sv K U L G (.ob C ks es) (.ref a) (a :: F)
  | lo {a : Addr} {vs : List V} {es : List E} {F : List Addr} : (a, HI.ex (.lst vs)) ∈ L → SvA K U L G es vs F → Sv K U L G (.lo es) (.ref a) (a :: F)
  | st {a : Addr} : DrawOk U a → Sv K U L G .st (.ref a) []
  | sc {a : Addr} {ns : List Int} : SqL K G a (ns.map V.int) → Sv K U L G .sc (.ref a) []
  | cd {d : D} {v : V} {cs : Ce} : Rp K G v d → (∀ c ∈ cs, CellOk U c.1 c.2 ∨ (c.1, HI.ce c.2) ∈ L) → Sv K U L G (.cd d cs) v []
  | oa {a : Addr} {o : HO} {w : OD} : (a, HI.ex o) ∈ L → ODr K G w o → Sv K U L G (.oa a w) (.ref a) [a]
  | nd {ad : Option Addr} {d : D} {v : V} {ws : List (Addr × OD)} : (∀ a, ad = some a → v = .ref a) → Rp K G v d → OwsA K L G ws → Sv K U L G (.nd ad d ws) v (ws.map (·.1))
inductive SvA (K : PySem.W.Frag) (U : Vx) (L : Ow) (G : Hp) : List E → List V → List Addr → Prop
  | nil : SvA K U L G [] [] []
  | cons {e : E} {v : V} {es : List E} {vs : List V} {F F' : List Addr} : Sv K U L G e v F → SvA K U L G es vs F' → SvA K U L G (e :: es) (v :: vs) (F ++ F')
end
def CeK (L L' : Ow) : Prop := ∀ a I, (a, HI.ce I) ∈ L → (a, HI.ce I) ∈ L'
theorem sv_mono {U : Vx} {L L' : Ow} {G G' : Hp} (x : Ex G G') (hc : CeK L L') : ∀ (e : E) (v : V) (F : List Addr), (∀ a ∈ F, ∀ o, (a, o) ∈ L → (a, o) ∈ L') → Sv K U L G e v F → Sv K U L' G' e v F
  | .any, v, F, hl, h => by cases h; exact .any _
  | .d d, v, F, hl, h => by cases h with | d r => exact .d (r.mono x)
  | .own ds, v, F, hl, h => by cases h with | own m r => exact .own (hl _ (by simp) _ m) (r.mono x)
  | .dic ks ds, v, F, hl, h => by cases h with | dic m k n r => exact .dic (hl _ (by simp) _ m) k n (r.mono x)
  | .ob C ks es, v, F, hl, h => by cases h with | ob m k s => exact .ob (hl _ (by simp) _ m) k (all es _ _ (fun a ha => hl a (List.mem_cons_of_mem _ ha)) s)
  | .lo es, v, F, hl, h => by cases h with | lo m s => exact .lo (hl _ (by simp) _ m) (all es _ _ (fun a ha => hl a (List.mem_cons_of_mem _ ha)) s)
  | .st, v, F, hl, h => by cases h with | st d => exact .st d
  | .sc, v, F, hl, h => by cases h with | sc s => exact .sc (ex_l x s)
  | .cd d cs, v, F, hl, h => by cases h with | cd r q => exact .cd (r.mono x) fun c hm => (q c hm).imp id (hc _ _)
  | .oa b w, v, F, hl, h => by cases h with | oa m r => exact .oa (hl _ (by simp) _ m) (r.mono x)
  | .nd ad d ws, v, F, hl, h => by cases h with | nd ha r q => exact .nd ha (r.mono x) fun p hp => let ⟨o, h1, h2⟩ := q p hp; ⟨o, hl _ (List.mem_map.mpr ⟨p, hp, rfl⟩) _ h1, h2.mono x⟩
where
  all : ∀ (es : List E) (vs : List V) (F : List Addr), (∀ a ∈ F, ∀ o, (a, o) ∈ L → (a, o) ∈ L') → SvA K U L G es vs F → SvA K U L' G' es vs F
  | [], vs, F, hl, h => by cases h; exact .nil
  | e :: es, vs, F, hl, h => by
    cases h with
    | cons a b => exact .cons (sv_mono x hc e _ _ (fun a ha => hl a (List.mem_append_left _ ha)) a) (all es _ _ (fun a ha => hl a (List.mem_append_right _ ha)) b)
theorem sv_in {U : Vx} {L : Ow} {G : Hp} : ∀ (e : E) (v : V) (F : List Addr), Sv K U L G e v F → ∀ a ∈ F, ∃ o, (a, o) ∈ L
  | .any, v, F, h, a, ha => by cases h; simp at ha
  | .d d, v, F, h, a, ha => by cases h; simp at ha
  | .own ds, v, F, h, a, ha => by cases h with | own m r => simp at ha; subst ha; exact ⟨_, m⟩
  | .dic ks ds, v, F, h, a, ha => by cases h with | dic m k n r => simp at ha; subst ha; exact ⟨_, m⟩
  | .ob C ks es, v, F, h, a, ha => by
    cases h with
    | ob m k s => rcases List.mem_cons.mp ha with rfl | ha; exact ⟨_, m⟩; exact all es _ _ s a ha
  | .lo es, v, F, h, a, ha => by
    cases h with
    | lo m s => rcases List.mem_cons.mp ha with rfl | ha; exact ⟨_, m⟩; exact all es _ _ s a ha
  | .st, v, F, h, a, ha => by cases h; simp at ha
  | .sc, v, F, h, a, ha => by cases h; simp at ha
  | .cd d cs, v, F, h, a, ha => by cases h; simp at ha
  | .oa b w, v, F, h, a, ha => by cases h with | oa m r => simp at ha; subst ha; exact ⟨_, m⟩
  | .nd ad d ws, v, F, h, a, ha => by cases h with | nd ha0 r q => obtain ⟨p, hp, e⟩ := List.mem_map.mp ha; obtain ⟨o, h1, _⟩ := q p hp; exact ⟨_, e ▸ h1⟩
where
  all : ∀ (es : List E) (vs : List V) (F : List Addr), SvA K U L G es vs F → ∀ a ∈ F, ∃ o, (a, o) ∈ L
  | [], vs, F, h, a, ha => by cases h; simp at ha
  | e :: es, vs, F, h, a, ha => by
    cases h with
    | cons x y => rcases List.mem_append.mp ha with ha | ha; exact sv_in e _ _ x a ha; exact all es _ _ y a ha
def SlotV (K : PySem.W.Frag) (U : Vx) (L : Ow) (G : Hp) : E → V → Prop
  | .any, _ => True
  | .d d, v => Rp K G v d
  | .own ds, v => ∃ a vs, v = .ref a ∧ (a, HI.ex (.lst vs)) ∈ L ∧ RpA K G vs ds
  | .dic ks ds, v => ∃ a kvs, v = .ref a ∧ (a, HI.ex (.dK kvs)) ∈ L ∧ kvs.map (·.1) = ks ∧ ks.Nodup ∧ RpA K G (kvs.map (·.2)) ds
  | .ob C ks es, v => ∃ F, Sv K U L G (.ob C ks es) v F
  | .lo es, v => ∃ F, Sv K U L G (.lo es) v F
  | .st, v => ∃ a, v = .ref a ∧ DrawOk U a
  | .sc, v => ∃ (a : Addr) (ns : List Int), v = .ref a ∧ SqL K G a (ns.map V.int)
  | .cd d cs, v => Rp K G v d ∧ ∀ c ∈ cs, CellOk U c.1 c.2 ∨ (c.1, HI.ce c.2) ∈ L
  | .oa a w, v => v = .ref a ∧ ∃ o, (a, HI.ex o) ∈ L ∧ ODr K G w o
  | .nd ad d ws, v => (∀ a, ad = some a → v = .ref a) ∧ Rp K G v d ∧ OwsA K L G ws
theorem Sv.slot {U : Vx} {L : Ow} {G : Hp} {e : E} {v : V} {F : List Addr} (h : Sv K U L G e v F) : SlotV K U L G e v := by
  cases h with
  | any => trivial
  | d h => exact h
  | own m r => exact ⟨_, _, rfl, m, r⟩
  | dic m k n r => exact ⟨_, _, rfl, m, k, n, r⟩
  | ob m k s => exact ⟨_, .ob m k s⟩
  | lo m s => exact ⟨_, .lo m s⟩
  | st d => exact ⟨_, rfl, d⟩
  | sc s => exact ⟨_, _, rfl, s⟩
  | cd r q => exact ⟨r, q⟩
  | oa m r => exact ⟨rfl, _, m, r⟩
  | nd ha r q => exact ⟨ha, r, q⟩
theorem SlotV.sv {U : Vx} {L : Ow} {G : Hp} {e : E} {v : V} (h : SlotV K U L G e v) : ∃ F, Sv K U L G e v F := by
  cases e with
  | any => exact ⟨_, .any v⟩
  | d d => exact ⟨_, .d h⟩
  | own ds => obtain ⟨a, vs, rfl, m, r⟩ := h; exact ⟨_, .own m r⟩
  | dic ks ds => obtain ⟨a, vs, rfl, m, k, n, r⟩ := h; exact ⟨_, .dic m k n r⟩
  | ob C ks es => exact h
  | lo es => exact h
  | st => obtain ⟨a, rfl, d⟩ := h; exact ⟨_, .st d⟩
  | sc => obtain ⟨a, ns, rfl, d⟩ := h; exact ⟨_, .sc d⟩
  | cd d cs => exact ⟨_, .cd h.1 h.2⟩
  | oa a w => obtain ⟨rfl, o, m, r⟩ := h; exact ⟨_, .oa m r⟩
  | nd ad d ws => exact ⟨_, .nd h.1 h.2.1 h.2.2⟩
theorem SlotV.mono {U : Vx} {L : Ow} {G G' : Hp} {e : E} {v : V} (h : SlotV K U L G e v) (x : Ex G G') : SlotV K U L G' e v := let ⟨F, h⟩ := h.sv; (sv_mono x (fun _ _ h => h) e v F (fun _ _ _ h => h) h).slot
theorem SlotV.more {U : Vx} {L L' : Ow} {G : Hp} {e : E} {v : V} (h : SlotV K U L G e v) (hl : ∀ p ∈ L, p ∈ L') : SlotV K U L' G e v := let ⟨F, h⟩ := h.sv; (sv_mono (Ex.refl G) (fun _ _ h => hl _ h) e v F (fun _ _ _ h => hl _ h) h).slot
theorem sv_free {U : Vx} {L : Ow} {G : Hp} {e : E} {v : V} {F : List Addr} (f : e.free = true) (h : Sv K U L G e v F) : F = [] := by
  cases h <;> first | rfl | cases f
structure LOk (U : Vx) (L : Ow) : Prop where
  nm : ∀ p ∈ L, ¬ U.m p.1 ∧ U.He p.1 = none ∧ U.Ge p.1 = none
  fn : ∀ a x y, (a, x) ∈ L → (a, y) ∈ L → x = y
structure EnvF (K : PySem.W.Frag) (U : Vx) (ρ : List E) (σ : L2.St) (L : Ow) (G : Hp) (fp : Nat → List Addr) : Prop where
  sl : ∀ (i : Nat) (e : E), ρ[i]? = some e → ∃ o, σ[i]? = some o ∧ ((e = .any ∧ fp i = []) ∨ ∃ v, o = some v ∧ Sv K U L G e v (fp i))
  nd : ∀ i, (fp i).Nodup
  ds : ∀ i j a, i ≠ j → a ∈ fp i → a ∈ fp j → False
  il : ∀ i, ∀ a ∈ fp i, ∃ o, (a, o) ∈ L
structure EnvOk (K : PySem.W.Frag) (U : Vx) (ρ : List E) (σ : L2.St) (L : Ow) (G : Hp) : Prop where
  len : σ.length = ρ.length
  fs : ∃ fp, EnvF K U ρ σ L G fp
  lo : LOk U L
  ge : Ex U.Ge G
section
variable {U : Vx} {ρ ρ' : List E} {σ : L2.St} {L L' : Ow} {G G' : Hp} {fp : Nat → List Addr}
theorem EnvF.mono (o : EnvF K U ρ σ L G fp) (x : Ex G G') : EnvF K U ρ σ L G' fp := ⟨fun i e h => let ⟨u, h1, h2⟩ := o.sl i e h; ⟨u, h1, h2.elim .inl fun ⟨v, h3, h4⟩ => .inr ⟨v, h3, sv_mono x (fun _ _ h => h) _ _ _ (fun _ _ _ h => h) h4⟩⟩, o.nd, o.ds, o.il⟩
theorem EnvOk.mono (o : EnvOk K U ρ σ L G) (x : Ex G G') : EnvOk K U ρ σ L G' := ⟨o.len, o.fs.elim fun fp h => ⟨fp, h.mono x⟩, o.lo, o.ge.trans x⟩
theorem EnvF.at (o : EnvF K U ρ σ L G fp) {i : Nat} {e : E} (h : ρ[i]? = some e) (k : e.known = true) : ∃ v, σ[i]? = some (some v) ∧ Sv K U L G e v (fp i) := by
  obtain ⟨u, h1, h2⟩ := o.sl i e h
  rcases h2 with ⟨h2, _⟩ | ⟨v, h3, h4⟩
  · subst h2; cases k
  · subst h3; exact ⟨v, h1, h4⟩
theorem EnvOk.at (o : EnvOk K U ρ σ L G) {i : Nat} {e : E} (h : ρ[i]? = some e) (k : e.known = true) : ∃ v, σ[i]? = some (some v) ∧ SlotV K U L G e v := by
  obtain ⟨fp, f⟩ := o.fs
  obtain ⟨v, h1, h2⟩ := f.at h k
  exact ⟨v, h1, h2.slot⟩
/-- a slot is set, and the heap's hidden part changed at no other slot's places -/
theorem EnvF.put (o : EnvF K U ρ σ L G fp) {i : Nat} {e : E} {v : V} {F : List Addr} (x : Ex G G') (hc : CeK L L') (hl : ∀ j, j ≠ i → ∀ a ∈ fp j, ∀ h, (a, h) ∈ L → (a, h) ∈ L') (s : Sv K U L' G' e v F) (nd : F.Nodup) (dj : ∀ j, j ≠ i → ∀ a ∈ fp j, a ∉ F) (σ' : L2.St) (hσ : ∀ j, j ≠ i → σ'[j]? = σ[j]?) (hi : i < ρ.length → σ'[i]? = some (some v)) :
    EnvF K U (ρ.set i e) σ' L' G' (fun j => if j = i then F else fp j) where
  sl := fun j e' hj => by
    by_cases z : i = j
    · subst z
      rw [List.getElem?_set] at hj
      split at hj
      · split at hj
        · rename_i hl'
          cases hj
          exact ⟨_, hi hl', .inr ⟨v, rfl, by rw [if_pos rfl]; exact s⟩⟩
        · cases hj
      · exact absurd rfl ‹_›
    · rw [List.getElem?_set_ne z] at hj
      rw [hσ j (Ne.symm z)]
      obtain ⟨u, h1, h2⟩ := o.sl j e' hj
      rw [if_neg (Ne.symm z)]
      exact ⟨u, h1, h2.elim .inl fun ⟨w, h3, h4⟩ => .inr ⟨w, h3, sv_mono x hc _ _ _ (hl j (Ne.symm z)) h4⟩⟩
  nd := fun j => by
    try dsimp only
    split
    · exact nd
    · exact o.nd j
  ds := fun j k a n h1 h2 => by
    try dsimp only at h1 h2
    split at h1 <;> split at h2
    · rename_i p q; exact n (p.trans q.symm)
    · rename_i p q; exact dj k q a h2 h1
    · rename_i p q; exact dj j p a h1 h2
    · exact o.ds j k a n h1 h2
  il := fun j a ha => by
    try dsimp only at ha
    split at ha
    · exact sv_in _ _ _ s a ha
    · rename_i z; obtain ⟨u, hu⟩ := o.il j a ha; exact ⟨u, hl j z a ha u hu⟩
theorem set_ne {α : Type} {xs : List α} {i j : Nat} {x : α} (h : j ≠ i) : (xs.set i x)[j]? = xs[j]? := List.getElem?_set_ne (Ne.symm h)
theorem EnvOk.set (o : EnvOk K U ρ σ L G) {i : Nat} {e : E} {v : V} (f : e.free = true) (h : SlotV K U L G e v) : EnvOk K U (ρ.set i e) (σ.set i (some v)) L G := by
  obtain ⟨fp, of⟩ := o.fs
  obtain ⟨F, s⟩ := h.sv
  have := sv_free f s
  subst this
  exact ⟨by rw [List.length_set, List.length_set, o.len], ⟨_, of.put (Ex.refl G) (fun _ _ h => h) (fun _ _ _ _ _ h => h) s List.nodup_nil (fun _ _ _ _ h => by simp at h) _ (fun j hj => set_ne hj) (fun hi => by rw [List.getElem?_set_self (by rw [o.len]; exact hi)])⟩, o.lo, o.ge⟩
/-- a new thing of the def's own, at slot i -/
theorem EnvOk.put (o : EnvOk K U ρ σ L G) {i : Nat} {e : E} {v : V} {F : List Addr} (x : Ex G G') (hl : ∀ p ∈ L, p ∈ L') (lo : LOk U L') (s : Sv K U L' G' e v F) (nd : F.Nodup) (hf : ∀ a ∈ F, ∀ u, (a, u) ∉ L) : EnvOk K U (ρ.set i e) (σ.set i (some v)) L' G' := by
  obtain ⟨fp, of⟩ := o.fs
  exact ⟨by rw [List.length_set, List.length_set, o.len], ⟨_, of.put x (fun _ _ h => hl _ h) (fun _ _ _ _ _ h => hl _ h) s nd (fun j _ a ha hF => by obtain ⟨u, hu⟩ := of.il j a ha; exact hf a hF u hu) _ (fun j hj => set_ne hj) (fun hi => by rw [List.getElem?_set_self (by rw [o.len]; exact hi)])⟩, lo, o.ge.trans x⟩
/-- what stands at slot i is changed in its place -/
theorem EnvOk.upd (o : EnvOk K U ρ σ L G) {i : Nat} {e : E} (hi : ρ[i]? = some e) (hk : e.known = true) : ∃ v F, σ[i]? = some (some v) ∧ Sv K U L G e v F ∧ F.Nodup ∧
    ∀ L' G' e' F', Ex G G' → CeK L L' → (∀ a u, a ∉ F → (a, u) ∈ L → (a, u) ∈ L') → LOk U L' → Sv K U L' G' e' v F' → F'.Nodup → (∀ a ∈ F', a ∈ F ∨ ∀ u, (a, u) ∉ L) → EnvOk K U (ρ.set i e') σ L' G' := by
  obtain ⟨fp, of⟩ := o.fs
  obtain ⟨v, h1, h2⟩ := of.at hi hk
  refine ⟨v, fp i, h1, h2, of.nd i, fun L' G' e' F' x hc hl lo s nd hF => ⟨by rw [List.length_set, o.len], ⟨_, of.put (σ' := σ) x hc (fun j hj a ha u hu => hl a u (fun z => of.ds j i a hj ha z) hu) s nd (fun j hj a ha hF' => ?_) (fun _ _ => rfl) (fun _ => h1)⟩, lo, o.ge.trans x⟩⟩
  rcases hF a hF' with z | z
  · exact of.ds j i a hj ha z
  · obtain ⟨u, hu⟩ := of.il j a ha; exact z u hu
theorem EnvOk.wipe1 (o : EnvOk K U ρ σ L G) (i : Nat) (u : Option V) : EnvOk K U (ρ.set i .any) (σ.set i u) L G := by
  obtain ⟨fp, of⟩ := o.fs
  refine ⟨by rw [List.length_set, List.length_set, o.len], ⟨fun j => if j = i then [] else fp j, ?_, fun j => ?_, fun j k a n h1 h2 => ?_, fun j a ha => ?_⟩, o.lo, o.ge⟩
  · intro j e' hj
    by_cases z : i = j
    · subst z
      rw [List.getElem?_set] at hj
      split at hj
      · split at hj
        · rename_i hl
          cases hj
          exact ⟨u, by rw [List.getElem?_set_self (by rw [o.len]; exact hl)], .inl ⟨rfl, by rw [if_pos rfl]⟩⟩
        · cases hj
      · exact absurd rfl ‹_›
    · rw [List.getElem?_set_ne z] at hj ⊢
      rw [if_neg (Ne.symm z)]
      exact of.sl j e' hj
  · try dsimp only
    split
    · exact List.nodup_nil
    · exact of.nd j
  · try dsimp only at h1 h2
    split at h1
    · simp at h1
    · split at h2
      · simp at h2
      · exact of.ds j k a n h1 h2
  · try dsimp only at ha
    split at ha
    · simp at ha
    · exact of.il j a ha
def wipeE (ρ : List E) : List Nat → List E
  | [] => ρ
  | v :: vs => (wipeE ρ vs).set v .any
theorem EnvOk.wipe (o : EnvOk K U ρ σ L G) : ∀ vs, EnvOk K U (wipeE ρ vs) (L2.wipe σ vs) L G
  | [] => o
  | v :: vs => (EnvOk.wipe o vs).wipe1 v none
theorem LOk.nce (lo : LOk U L) {a b : Addr} {I : HO → Prop} {u : HO} (h1 : (b, HI.ce I) ∈ L) (h2 : (a, HI.ex u) ∈ L) : b ≠ a := fun z => by subst z; cases lo.fn _ _ _ h1 h2
theorem LOk.cons (lo : LOk U L) {p : Addr} {o : HI} (hl : ∀ u, (p, u) ∉ L) (hm : ¬ U.m p) (hn : U.He p = none) (hg : U.Ge p = none) : LOk U ((p, o) :: L) := ⟨fun q hq => by
  rcases List.mem_cons.mp hq with rfl | hq
  · exact ⟨hm, hn, hg⟩
  · exact lo.nm q hq, fun a us ws h1 h2 => by
  rcases List.mem_cons.mp h1 with e1 | h1 <;> rcases List.mem_cons.mp h2 with e2 | h2
  · cases e1; cases e2; rfl
  · cases e1; exact absurd h2 (hl _)
  · cases e2; exact absurd h1 (hl _)
  · exact lo.fn a us ws h1 h2⟩
theorem LOk.filter (lo : LOk U L) (p : Addr × HI → Bool) : LOk U (L.filter p) := ⟨fun q hq => lo.nm q (List.mem_filter.mp hq).1, fun b us ws h1 h2 => lo.fn b us ws (List.mem_filter.mp h1).1 (List.mem_filter.mp h2).1⟩
theorem LOk.setO (lo : LOk U L) (a : Addr) (o : HI) : LOk U (Wp.setO a o L) := ⟨fun q hq => by
  rcases setO_mem (b := q.1) (u := q.2) hq with ⟨e1, _, us, e2⟩ | ⟨_, e2⟩
  · rw [e1]; exact lo.nm _ e2
  · exact lo.nm _ e2, fun b us xs h1 h2 => by
  rcases setO_mem h1 with ⟨e1, e2, _⟩ | ⟨n1, h1⟩ <;> rcases setO_mem h2 with ⟨f1, f2, _⟩ | ⟨n2, h2⟩
  · rw [e2, f2]
  · exact absurd e1 n2
  · exact absurd f1 n1
  · exact lo.fn b us xs h1 h2⟩
theorem woEx {G G' : Hp} {p : Addr} (np : G p = none) (x : Ex G G') : Ex G (wo p G') := fun a u e => by
  have : a ≠ p := fun z => by rw [z, np] at e; cases e
  rw [wo_ne this]; exact x a u e
/-- a new object, at no other name, becomes the def's own, at slot i -/
theorem EnvOk.own (o : EnvOk K U ρ σ L G) {i : Nat} {p : Addr} {u : HI} {e : E} (np : G p = none) (x : Ex G G') (s : Ex G (wo p G') → Sv K U ((p, u) :: L) (wo p G') e (.ref p) [p]) (hl : ∀ ws, (p, ws) ∉ L) (hm : ¬ U.m p) (hn : U.He p = none) (hg : U.Ge p = none) :
    EnvOk K U (ρ.set i e) (σ.set i (some (.ref p))) ((p, u) :: L) (wo p G') :=
  o.put (woEx np x) (fun q hq => List.mem_cons_of_mem _ hq) (o.lo.cons hl hm hn hg) (s (woEx np x)) (by simp) (fun a ha u hu => by simp at ha; subst ha; exact hl u hu)
/-- the def's own flat thing at slot i is shown: it is a datum from here on -/
theorem EnvOk.shown (o : EnvOk K U ρ σ L G) {i : Nat} {e : E} {d : D} {a : Addr} {u : HO} (hi : ρ[i]? = some e) (hk : e.known = true) (hF : ∀ F, Sv K U L G e (.ref a) F → F = [a]) (hs : σ[i]? = some (some (.ref a))) (hx : (a, HI.ex u) ∈ L) (na : G a = none) (h : Ex G (L2.upd G a u) → Rp K (L2.upd G a u) (.ref a) d) :
    EnvOk K U (ρ.set i (.d d)) σ (L.filter fun p => decide (p.1 ≠ a)) (L2.upd G a u) := by
  obtain ⟨v, F, h1, h2, h3, h4⟩ := o.upd hi hk
  rw [hs] at h1; injection h1 with h1; injection h1 with h1; subst h1
  have := hF F h2
  subst this
  exact h4 _ _ _ [] (Ex.new na) (fun b I hb => List.mem_filter.mpr ⟨hb, by simpa using o.lo.nce hb hx⟩) (fun b w nb hb => List.mem_filter.mpr ⟨hb, by simpa using nb⟩) (o.lo.filter _) (.d (h (Ex.new na))) List.nodup_nil (fun _ h => by simp at h)
/-- the def's own flat thing at slot i is changed -/
theorem EnvOk.chg (o : EnvOk K U ρ σ L G) {i : Nat} {e e' : E} {a : Addr} {u : HO} (hi : ρ[i]? = some e) (hk : e.known = true) (hF : ∀ F, Sv K U L G e (.ref a) F → F = [a]) (hs : σ[i]? = some (some (.ref a))) {u0 : HO} (hx : (a, HI.ex u0) ∈ L) (h : Sv K U (setO a (.ex u) L) G e' (.ref a) [a]) :
    EnvOk K U (ρ.set i e') σ (setO a (.ex u) L) G := by
  obtain ⟨v, F, h1, h2, h3, h4⟩ := o.upd hi hk
  rw [hs] at h1; injection h1 with h1; injection h1 with h1; subst h1
  have := hF F h2
  subst this
  exact h4 _ _ _ [a] (Ex.refl G) (fun b I hb => mem_setO (o.lo.nce hb hx) hb) (fun b w nb hb => mem_setO (by simpa using nb) hb) (o.lo.setO _ _) h (by simp) (fun _ h => .inl h)
inductive EnvLe : List E → List E → Prop
  | nil : EnvLe [] []
  | same {e : E} {r r' : List E} : EnvLe r r' → EnvLe (e :: r) (e :: r')
  | any {e : E} {r r' : List E} : EnvLe r r' → EnvLe (e :: r) (.any :: r')
theorem EnvLe.refl : ∀ r : List E, EnvLe r r
  | [] => .nil
  | _ :: r => .same (EnvLe.refl r)
theorem EnvLe.at {r r' : List E} (h : EnvLe r r') : ∀ (i : Nat) (e : E), r'[i]? = some e → ∃ e', r[i]? = some e' ∧ (e = .any ∨ e' = e) := by
  induction h with
  | nil => intro i e h; simp at h
  | same _ ih =>
    intro i e h
    cases i with
    | zero => simp at h; subst h; exact ⟨_, rfl, .inr rfl⟩
    | succ i => simp at h; obtain ⟨e', h1, h2⟩ := ih i e h; exact ⟨e', by simpa using h1, h2⟩
  | any _ ih =>
    intro i e h
    cases i with
    | zero => simp at h; subst h; exact ⟨_, rfl, .inl rfl⟩
    | succ i => simp at h; obtain ⟨e', h1, h2⟩ := ih i e h; exact ⟨e', by simpa using h1, h2⟩
theorem EnvLe.len {r r' : List E} (h : EnvLe r r') : r.length = r'.length := by
  induction h with
  | nil => rfl
  | same _ ih => rw [List.length_cons, List.length_cons, ih]
  | any _ ih => rw [List.length_cons, List.length_cons, ih]
theorem EnvLe.sameE {e e' : E} {r r' : List E} (k : EnvLe r r') (h : e = e') : EnvLe (e :: r) (e' :: r') := by subst h; exact .same k
open Classical in
theorem EnvOk.le (o : EnvOk K U ρ σ L G) (h : EnvLe ρ ρ') : EnvOk K U ρ' σ L G := by
  obtain ⟨fp, of⟩ := o.fs
  refine ⟨by rw [o.len, h.len], ⟨fun i => if ρ'[i]? = some .any then [] else fp i, fun i e hi => ?_, fun i => ?_, fun i j a n h1 h2 => ?_, fun i a ha => ?_⟩, o.lo, o.ge⟩
  · obtain ⟨e', h1, h2⟩ := h.at i e hi
    obtain ⟨u, h3, h4⟩ := of.sl i e' h1
    rcases h2 with rfl | rfl
    · exact ⟨u, h3, .inl ⟨rfl, by rw [if_pos hi]⟩⟩
    · by_cases z : e' = .any
      · subst z; exact ⟨u, h3, .inl ⟨rfl, by rw [if_pos hi]⟩⟩
      · rw [if_neg (fun q => z (by rw [hi] at q; injection q))]; exact ⟨u, h3, h4⟩
  · try dsimp only
    split
    · exact List.nodup_nil
    · exact of.nd i
  · try dsimp only at h1 h2
    split at h1
    · simp at h1
    · split at h2
      · simp at h2
      · exact of.ds i j a n h1 h2
  · try dsimp only at ha
    split at ha
    · simp at ha
    · exact of.il i a ha
theorem EnvOk.more (o : EnvOk K U ρ σ L G) (hl : ∀ p ∈ L, p ∈ L') (lo : LOk U L') : EnvOk K U ρ σ L' G := by
  obtain ⟨fp, of⟩ := o.fs
  exact ⟨o.len, ⟨fp, fun i e h => let ⟨u, h1, h2⟩ := of.sl i e h; ⟨u, h1, h2.elim .inl fun ⟨v, h3, h4⟩ => .inr ⟨v, h3, sv_mono (Ex.refl G) (fun _ _ h => hl _ h) _ _ _ (fun _ _ _ h => hl _ h) h4⟩⟩, of.nd, of.ds, fun i a ha => let ⟨u, hu⟩ := of.il i a ha; ⟨u, hl _ hu⟩⟩, lo, o.ge⟩
theorem CellOk.hides {a : Addr} {I : HO → Prop} (c : CellOk U a I) (lo : LOk U L) : CellOk (U.hides L) a I where
  m := .inl c.m
  ne := c.ne
  at_ := fun H i => c.at_ H i.1
  to := fun H H' i e s => ⟨c.to H H' i.1 (fun x mx nx => e x (.inl mx) nx) s, fun p hp => by
    rw [e p.1 (.inr ⟨p.2, hp⟩) (fun z => (lo.nm p hp).1 (z ▸ c.m))]; exact i.2 p hp⟩
theorem CellOk.of {a : Addr} {I : HO → Prop} (h : (a, HI.ce I) ∈ L) (lo : LOk U L) : CellOk (U.hides L) a I where
  m := .inr ⟨_, h⟩
  ne := (lo.nm _ h).2.1
  at_ := fun H i => i.2 _ h
  to := fun H H' i e s => ⟨U.st H H' i.1 fun b mb => e b (.inl mb) fun z => (lo.nm _ h).1 (z ▸ mb), fun p hp => by
    by_cases z : p.1 = a
    · have : p.2 = HI.ce I := lo.fn a _ _ (z ▸ hp) h
      rw [z, this]; exact s
    · rw [e p.1 (.inr ⟨p.2, hp⟩) z]; exact i.2 p hp⟩
theorem cell_ok {a : Addr} {I : HO → Prop} (h : CellOk U a I ∨ (a, HI.ce I) ∈ L) (lo : LOk U L) : CellOk (U.hides L) a I := h.elim (fun h => h.hides lo) (fun h => .of h lo)
theorem DrawOk.hides {st : Addr} (d : DrawOk U st) (lo : LOk U L) : DrawOk (U.hides L) st where
  m := .inl d.m
  ne := d.ne
  at_ := fun H i => d.at_ H i.1
  to := fun H H' i e s => ⟨d.to H H' i.1 (fun x mx nx => e x (.inl mx) nx) s, fun p hp => by
    rw [e p.1 (.inr ⟨p.2, hp⟩) (fun z => (lo.nm p hp).1 (z ▸ d.m))]; exact i.2 p hp⟩
theorem own1 {ds : List D} {a : Addr} : ∀ F, Sv K U L G (.own ds) (.ref a) F → F = [a] := fun F h => by cases h; rfl
theorem oa1 {w : OD} {a : Addr} : ∀ F, Sv K U L G (.oa a w) (.ref a) F → F = [a] := fun F h => by cases h; rfl
theorem dic1 {ks : List Key} {ds : List D} {a : Addr} : ∀ F, Sv K U L G (.dic ks ds) (.ref a) F → F = [a] := fun F h => by cases h; rfl
end
end
end Wp

set_option Elab.async false
set_option linter.all false
set_option maxRecDepth 100000
set_option maxHeartbeats 4000000
namespace Wp
open PySem L2 Evl StX
set_option autoImplicit false
section
variable {K : PySem.W.Frag} {U : Vx} {σ : L2.St} {G : Hp} {te : TE} {ta : TA} {tt : TT} {g : TG}
theorem EM.w {Q Q' : VK} (h : EM U te σ G Q) (k : ∀ v G', Q v G' → Q' v G') : EM U te σ G Q' := fun H j QH q => h H j QH fun v H' G' j' p => q v H' G' j' (k v G' p)
theorem TM.w {Q Q' : Bool → Hp → Prop} (h : TM U tt σ G Q) (k : ∀ v G', Q v G' → Q' v G') : TM U tt σ G Q' := fun H j QH q => h H j QH fun v H' G' j' p => q v H' G' j' (k v G' p)
theorem AM.w {Q Q' : List V → Hp → Prop} (h : AM U ta σ G Q) (k : ∀ v G', Q v G' → Q' v G') : AM U ta σ G Q' := fun H j QH q => h H j QH fun v H' G' j' p => q v H' G' j' (k v G' p)
theorem RM.w {r : Hp → VK → Prop} {Q Q' : VK} (h : RM U r G Q) (k : ∀ v G', Q v G' → Q' v G') : RM U r G Q' := fun H j QH q => h H j QH fun v H' G' j' p => q v H' G' j' (k v G' p)
theorem CM.w {sp : Sp} {vs : List V} {Q Q' : VK} (h : CM U sp vs G Q) (k : ∀ v G', Q v G' → Q' v G') : CM U sp vs G Q' := fun H j QH q => h H j QH fun v H' G' j' p => q v H' G' j' (k v G' p)
theorem GM.w {v : V} {Q Q' : L2.St → Hp → Prop} (h : GM U g v σ G Q) (k : ∀ v G', Q v G' → Q' v G') : GM U g v σ G Q' := fun H j QH q => h H j QH fun v H' G' j' p => q v H' G' j' (k v G' p)
theorem OM.w {to : TO} {Q Q' : Option Int → Hp → Prop} (h : OM U to σ G Q) (k : ∀ v G', Q v G' → Q' v G') : OM U to σ G Q' := fun H j QH q => h H j QH fun v H' G' j' p => q v H' G' j' (k v G' p)
theorem GsM.w {gs : TGs} {vs : List V} {Q Q' : L2.St → Hp → Prop} (h : GsM U gs vs σ G Q) (k : ∀ v G', Q v G' → Q' v G') : GsM U gs vs σ G Q' := fun H j QH q => h H j QH fun v H' G' j' p => q v H' G' j' (k v G' p)
def Po (K : PySem.W.Frag) (U : Vx) (L : Ow) (G : Hp) (Q : E → Prop) : VK := fun v G' => Ex G G' ∧ ∃ e, SlotV K U L G' e v ∧ Q e
def DE (K : PySem.W.Frag) (te : TE) (ρ : List E) (Q : E → Prop) : Prop := ∀ U σ L G, EnvOk K U ρ σ L G → EM (U.hides L) te σ G (Po K U L G Q)
def DT (K : PySem.W.Frag) (tt : TT) (ρ : List E) (Q : Bool → Prop) : Prop := ∀ U σ L G, EnvOk K U ρ σ L G → TM (U.hides L) tt σ G fun b G' => Ex G G' ∧ Q b
def DA (K : PySem.W.Frag) (ta : TA) (ρ : List E) (Q : List D → Prop) : Prop := ∀ U σ L G, EnvOk K U ρ σ L G → AM (U.hides L) ta σ G fun vs G' => Ex G G' ∧ ∃ ds, RpA K G' vs ds ∧ Q ds
def DO (K : PySem.W.Frag) (to : TO) (ρ : List E) (Q : Option Int → Prop) : Prop := ∀ U σ L G, EnvOk K U ρ σ L G → OM (U.hides L) to σ G fun o G' => Ex G G' ∧ Q o
def DR (K : PySem.W.Frag) (r : R2) (x y : E) (Q : E → Prop) : Prop := ∀ U L G v w, LOk U L → SlotV K U L G x v → SlotV K U L G y w → RM (U.hides L) (r v w) G (Po K U L G Q)
def DU (K : PySem.W.Frag) (r : V → Hp → VK → Prop) (x : E) (Q : E → Prop) : Prop := ∀ U L G v, LOk U L → SlotV K U L G x v → RM (U.hides L) (r v) G (Po K U L G Q)
def DB (K : PySem.W.Frag) (r : List V → Hp → VK → Prop) (ds : List D) (Q : E → Prop) : Prop := ∀ U L G vs, LOk U L → RpA K G vs ds → RM (U.hides L) (r vs) G (Po K U L G Q)
def DC (K : PySem.W.Frag) (sp : Sp) (ds : List D) (Q : E → Prop) : Prop := ∀ U L G vs, LOk U L → RpA K G vs ds → CM (U.hides L) sp vs G (Po K U L G Q)
def DG (K : PySem.W.Frag) (g : TG) (e : E) (ρ : List E) (N : List E → Prop) : Prop := ∀ U σ L G v, EnvOk K U ρ σ L G → SlotV K U L G e v → GM (U.hides L) g v σ G fun σ' G' => Ex G G' ∧ ∃ ρ', EnvOk K U ρ' σ' L G' ∧ N ρ'
def DGs (K : PySem.W.Frag) (gs : TGs) (ds : List D) (ρ : List E) (N : List E → Prop) : Prop := ∀ U σ L G vs, EnvOk K U ρ σ L G → RpA K G vs ds → GsM (U.hides L) gs vs σ G fun σ' G' => Ex G G' ∧ ∃ ρ', EnvOk K U ρ' σ' L G' ∧ N ρ'
/-- a new list -/
def DN (K : PySem.W.Frag) (te : TE) (ρ : List E) (Q : List D → Prop) : Prop := ∀ U σ L G, EnvOk K U ρ σ L G → EM (U.hides L) te σ G fun v G' => ∃ p vs ds G1, v = .ref p ∧ Ex G G1 ∧ G1 p = none ∧ Ex G1 G' ∧ G' p = some (.lst vs) ∧ RpA K G1 vs ds ∧ Q ds
/-- a new dict -/
def DND (K : PySem.W.Frag) (te : TE) (ρ : List E) (Q : List Key → List D → Prop) : Prop := ∀ U σ L G, EnvOk K U ρ σ L G → EM (U.hides L) te σ G fun v G' => ∃ p kvs ks ds G1, v = .ref p ∧ Ex G G1 ∧ G1 p = none ∧ Ex G1 G' ∧ G' p = some (.dK kvs) ∧ kvs.map (·.1) = ks ∧ ks.Nodup ∧ RpA K G1 (kvs.map (·.2)) ds ∧ Q ks ds
def SE (e : E) (P : List D → Prop) : Prop := ∃ es, (e = .d (.tup es) ∨ e = .d (.lst es) ∨ e = .own es) ∧ P es
theorem se_tup {es : List D} {P : List D → Prop} (h : P es) : SE (.d (.tup es)) P := ⟨es, .inl rfl, h⟩
theorem se_lst {es : List D} {P : List D → Prop} (h : P es) : SE (.d (.lst es)) P := ⟨es, .inr (.inl rfl), h⟩
theorem se_own {es : List D} {P : List D → Prop} (h : P es) : SE (.own es) P := ⟨es, .inr (.inr rfl), h⟩
def ME (C : Addr) (m : Str) (e : E) (P : List Str → List D → Prop) : Prop := ∃ ks ds, e = .d (.obj C ks ds) ∧ m ∉ ks ∧ P ks ds
theorem me {C : Addr} {m : Str} {ks : List Str} {ds : List D} {P : List Str → List D → Prop} (n : m ∉ ks) (h : P ks ds) : ME C m (.d (.obj C ks ds)) P := ⟨ks, ds, rfl, n, h⟩
def FE (K : PySem.W.Frag) (f : Str) (e : E) (P : D → Prop) : Prop := ∃ C ks ds, e = .d (.obj C ks ds) ∧ Cls K C ∧ NoAttr K C f ∧ ∃ d, (ks.zip ds).lookup f = some d ∧ P d
theorem fe {K : PySem.W.Frag} {f : Str} {C : Addr} {ks : List Str} {ds : List D} {P : D → Prop} {d : D} (c : Cls K C) (n : NoAttr K C f) (l : (ks.zip ds).lookup f = some d) (h : P d) : FE K f (.d (.obj C ks ds)) P := ⟨C, ks, ds, rfl, c, n, d, l, h⟩
def Sz (n : Nat) (P : Prop) : Prop := n ≤ sizeLine ∧ P
theorem sz_ {n : Nat} {P : Prop} (h : n ≤ sizeLine) (k : P) : Sz n P := ⟨h, k⟩
def BE (e : E) (P : Bool → Prop) : Prop := ∃ b, e = .d (.bl b) ∧ P b
theorem be {b : Bool} {P : Bool → Prop} (h : P b) : BE (.d (.bl b)) P := ⟨b, rfl, h⟩
def IE (e : E) (P : Int → Prop) : Prop := ∃ b, e = .d (.int b) ∧ P b
theorem ie {b : Int} {P : Int → Prop} (h : P b) : IE (.d (.int b)) P := ⟨b, rfl, h⟩
/-- a datum -/
def DD (e : E) (P : D → Prop) : Prop := ∃ d, e = .d d ∧ P d
theorem dd {d : D} {P : D → Prop} (h : P d) : DD (.d d) P := ⟨d, rfl, h⟩
end
section
variable {K : PySem.W.Frag} {ρ : List E} {Q : E → Prop} {te ta tb tc tx : TE} {t u tt : TT} {r r' : R2} {QT : Bool → Prop} {tas tr : TA} {QA : List D → Prop} {x y : E}
theorem de_var {i : Nat} (h : ∃ e, ρ[i]? = some e ∧ e.known = true ∧ Q e) : DE K (tVar i) ρ Q := fun U σ L G o => by
  obtain ⟨e, h1, h2, q⟩ := h
  obtain ⟨v, h3, h4⟩ := o.at h1 h2
  exact em_var h3 ⟨Ex.refl G, e, h4, q⟩
theorem de_cI {i : Int} (k : Q (.d (.int i))) : DE K (tC (.int i)) ρ Q := fun U σ L G o => em_c ⟨Ex.refl G, .d (.int _), Rp.int i, k⟩
theorem de_cB {i : Bool} (k : Q (.d (.bl i))) : DE K (tC (.bl i)) ρ Q := fun U σ L G o => em_c ⟨Ex.refl G, .d (.bl _), Rp.bl i, k⟩
theorem de_cS {i : Str} (k : Q (.d (.str i))) : DE K (tC (.str i)) ρ Q := fun U σ L G o => em_c ⟨Ex.refl G, .d (.str _), Rp.str i, k⟩
theorem de_cN (k : Q (.d .non)) : DE K (tC .non) ρ Q := fun U σ L G o => em_c ⟨Ex.refl G, .d .non, Rp.non, k⟩
theorem de_op (h : DE K ta ρ fun x => DE K tb ρ fun y => DR K r x y Q) : DE K (tOp r ta tb) ρ Q := fun U σ L G o =>
  em_op ((h U σ L G o).w fun v G1 ⟨e1, x, sx, hx⟩ => (hx U σ L G1 (o.mono e1)).w fun w G2 ⟨e2, y, sy, hy⟩ => (hy U L G2 v w o.lo (sx.mono e2) sy).w fun z G3 ⟨e3, k⟩ => ⟨(e1.trans e2).trans e3, k⟩)
theorem de_un {ru : V → Hp → VK → Prop} (h : DE K ta ρ fun x => DU K ru x Q) : DE K (tUn ru ta) ρ Q := fun U σ L G o =>
  em_un ((h U σ L G o).w fun v G1 ⟨e1, x, sx, hx⟩ => (hx U L G1 v o.lo sx).w fun z G3 ⟨e3, k⟩ => ⟨e1.trans e3, k⟩)
theorem dr_I {C : Int → Int → Prop} {g : Int → Int → V} {i j : Int} {d : D} (c : C i j) (h : ∀ F, Rp K F (g i j) d) (k : Q (.d d)) : DR K (rI C g) (.d (.int i)) (.d (.int j)) Q := fun U L G v w _ sx sy => by
  cases (sx : Rp K G v (.int i)); cases (sy : Rp K G w (.int j))
  exact rm_I c ⟨Ex.refl G, .d d, h G, k⟩
theorem dr_I0 {g : Int → Int → V} {i j : Int} {d : D} (h : ∀ F, Rp K F (g i j) d) (k : Q (.d d)) : DR K (rI0 g) (.d (.int i)) (.d (.int j)) Q := fun U L G v w _ sx sy => by
  cases (sx : Rp K G v (.int i)); cases (sy : Rp K G w (.int j))
  exact rm_I0 ⟨Ex.refl G, .d d, h G, k⟩
theorem du_U {g : Int → V} {i : Int} {d : D} (h : ∀ F, Rp K F (g i) d) (k : Q (.d d)) : DU K (rU g) (.d (.int i)) Q := fun U L G v _ sx => by
  cases (sx : Rp K G v (.int i))
  exact rm_U ⟨Ex.refl G, .d d, h G, k⟩
theorem dr_eqI {i j : Int} (k : Q (.d (.bl (decide (i = j))))) : DR K rEq (.d (.int i)) (.d (.int j)) Q := fun U L G v w _ sx sy => by
  cases (sx : Rp K G v (.int i)); cases (sy : Rp K G w (.int j))
  exact rm_eqI ⟨Ex.refl G, .d (.bl _), Rp.bl _, k⟩
theorem dr_neI {i j : Int} (k : Q (.d (.bl (!decide (i = j))))) : DR K rNe (.d (.int i)) (.d (.int j)) Q := fun U L G v w _ sx sy => by
  cases (sx : Rp K G v (.int i)); cases (sy : Rp K G w (.int j))
  exact rm_neI ⟨Ex.refl G, .d (.bl _), Rp.bl _, k⟩
theorem dr_eqS {i j : Str} (k : Q (.d (.bl (decide (i = j))))) : DR K rEq (.d (.str i)) (.d (.str j)) Q := fun U L G v w _ sx sy => by
  cases (sx : Rp K G v (.str i)); cases (sy : Rp K G w (.str j))
  exact rm_eqS ⟨Ex.refl G, .d (.bl _), Rp.bl _, k⟩
theorem dr_neS {i j : Str} (k : Q (.d (.bl (!decide (i = j))))) : DR K rNe (.d (.str i)) (.d (.str j)) Q := fun U L G v w _ sx sy => by
  cases (sx : Rp K G v (.str i)); cases (sy : Rp K G w (.str j))
  exact rm_neS ⟨Ex.refl G, .d (.bl _), Rp.bl _, k⟩
theorem dr_eqB {i j : Bool} (k : Q (.d (.bl (decide (i = j))))) : DR K rEq (.d (.bl i)) (.d (.bl j)) Q := fun U L G v w _ sx sy => by
  cases (sx : Rp K G v (.bl i)); cases (sy : Rp K G w (.bl j))
  exact rm_eqB ⟨Ex.refl G, .d (.bl _), Rp.bl _, k⟩
theorem dr_neB {i j : Bool} (k : Q (.d (.bl (!decide (i = j))))) : DR K rNe (.d (.bl i)) (.d (.bl j)) Q := fun U L G v w _ sx sy => by
  cases (sx : Rp K G v (.bl i)); cases (sy : Rp K G w (.bl j))
  exact rm_neB ⟨Ex.refl G, .d (.bl _), Rp.bl _, k⟩
theorem dr_isB {i j : Bool} (k : Q (.d (.bl (decide (i = j))))) : DR K rIsB (.d (.bl i)) (.d (.bl j)) Q := fun U L G v w _ sx sy => by
  cases (sx : Rp K G v (.bl i)); cases (sy : Rp K G w (.bl j))
  exact rm_isB ⟨Ex.refl G, .d (.bl _), Rp.bl _, k⟩
theorem dr_notB {i j : Bool} (k : Q (.d (.bl (!decide (i = j))))) : DR K rNotB (.d (.bl i)) (.d (.bl j)) Q := fun U L G v w _ sx sy => by
  cases (sx : Rp K G v (.bl i)); cases (sy : Rp K G w (.bl j))
  exact rm_notB ⟨Ex.refl G, .d (.bl _), Rp.bl _, k⟩
def D.isN : D → Bool
  | .non => true
  | _ => false
theorem isN_of {F : Hp} {v : V} {d : D} (h : Rp K F v d) : decide (v = .non) = d.isN := by
  cases h <;> simp [D.isN]
theorem dr_isN {d : D} (k : Q (.d (.bl d.isN))) : DR K rIsN (.d d) (.d .non) Q := fun U L G v w _ sx sy H j _ q => by
  cases (sy : Rp K G w .non)
  refine ⟨rfl, q _ _ _ j ⟨Ex.refl G, _, (?_ : SlotV K U L G (.d (.bl d.isN)) _), k⟩⟩
  rw [isN_of sx]; exact .bl _
theorem dr_notN {d : D} (k : Q (.d (.bl (!d.isN)))) : DR K rNotN (.d d) (.d .non) Q := fun U L G v w _ sx sy H j _ q => by
  cases (sy : Rp K G w .non)
  refine ⟨rfl, q _ _ _ j ⟨Ex.refl G, _, (?_ : SlotV K U L G (.d (.bl (!d.isN))) _), k⟩⟩
  rw [isN_of sx]; exact .bl _
/-- data compared; b says whether they are one -/
theorem dr_eqD {d e : D} (b : Bool) (hb : b = true ↔ d = e) (hd : d.plain = true) (he : e.plain = true) (sd : d.dep ≤ 60) (se : e.dep ≤ 60) (k : Q (.d (.bl b))) : DR K (rEqD K) (.d d) (.d e) Q := fun U L G v w _ sx sy =>
  rm_eqD (rp_dp d v hd sx) (rp_dp e w he sy) (py_shaped hd sd) (py_shaped he se) ⟨Ex.refl G, .d (.bl b), by
    have z : PyData.eqv d.py e.py = b := Bool.eq_iff_iff.mpr ((py_eqv d e hd he).trans hb.symm)
    rw [z]; exact .bl _, k⟩
theorem dr_neD {d e : D} (b : Bool) (hb : b = true ↔ d = e) (hd : d.plain = true) (he : e.plain = true) (sd : d.dep ≤ 60) (se : e.dep ≤ 60) (k : Q (.d (.bl (!b)))) : DR K (rNeD K) (.d d) (.d e) Q := fun U L G v w _ sx sy =>
  rm_neD (rp_dp d v hd sx) (rp_dp e w he sy) (py_shaped hd sd) (py_shaped he se) ⟨Ex.refl G, .d (.bl (!b)), by
    have z : PyData.eqv d.py e.py = b := Bool.eq_iff_iff.mpr ((py_eqv d e hd he).trans hb.symm)
    rw [z]; exact .bl _, k⟩
theorem dr_ixL {ds : List D} {i : Int} (h : ∃ d, atI ds i = some d ∧ Q (.d d)) : DR K (rIxL K) (.d (.lst ds)) (.d (.int i)) Q := fun U L G v w _ sx sy => by
  obtain ⟨d, e, q⟩ := h
  cases (sy : Rp K G w (.int i))
  cases (sx : Rp K G v (.lst ds)) with
  | lst a b =>
    obtain ⟨v, h1, h2⟩ := b.atI e
    exact rm_ixL (sq_of a) h1 ⟨Ex.refl G, .d d, h2, q⟩
theorem dr_ixO {ds : List D} {i : Int} (h : ∃ d, atI ds i = some d ∧ Q (.d d)) : DR K (rIxL K) (.own ds) (.d (.int i)) Q := fun U L G v w _ sx sy => by
  obtain ⟨d, e, q⟩ := h
  cases (sy : Rp K G w (.int i))
  obtain ⟨a, vs, rfl, hm, b⟩ := sx
  obtain ⟨v, h1, h2⟩ := b.atI e
  exact fun H j _ q' => ⟨a, vs, i, v, rfl, rfl, sq_of (j.at hm), h1, q' v H G j ⟨Ex.refl G, .d d, h2, q⟩⟩
theorem dr_ixT {ds : List D} {i : Int} (h : ∃ d, atI ds i = some d ∧ Q (.d d)) : DR K (rIxT K) (.d (.tup ds)) (.d (.int i)) Q := fun U L G v w _ sx sy => by
  obtain ⟨d, e, q⟩ := h
  cases (sy : Rp K G w (.int i))
  cases (sx : Rp K G v (.tup ds)) with
  | tup a b =>
    obtain ⟨v, h1, h2⟩ := b.atI e
    exact rm_ixT a h1 ⟨Ex.refl G, .d d, h2, q⟩
theorem dr_cat {ds es : List D} (hz : ds.length + es.length ≤ sizeLine) (k : Q (.d (.lst (ds ++ es)))) : DR K rCat (.d (.lst ds)) (.d (.lst es)) Q := fun U L G v w _ sx sy => by
  cases (sx : Rp K G v (.lst ds)) with
  | lst a b =>
    cases (sy : Rp K G w (.lst es)) with
    | lst a' b' => exact rm_cat a a' (by rw [b.len, b'.len]; exact hz) fun p G' _ e g => ⟨e, .d (.lst (ds ++ es)), .lst g ((b'.mono e).app (b.mono e)), k⟩
theorem dr_catT {ds es : List D} (hn : ds ≠ []) (hz : ds.length + es.length ≤ sizeLine) (k : Q (.d (.tup (ds ++ es)))) : DR K (rCatT K) (.d (.tup ds)) (.d (.tup es)) Q := fun U L G v w _ sx sy => by
  cases (sx : Rp K G v (.tup ds)) with
  | tup a b =>
    cases (sy : Rp K G w (.tup es)) with
    | tup a' b' => exact rm_catT a a' (fun z => by have := b.len; rw [z] at this; exact hn (List.length_eq_zero_iff.mp this.symm)) (by rw [b.len, b'.len]; exact hz) fun p G' e g => ⟨e, .d (.tup (ds ++ es)), .tup g ((b'.mono e).app (b.mono e)), k⟩
theorem de_orV (h : DE K ta ρ fun x => BE x fun c => if c = true then Q (.d (.bl true)) else DE K tb ρ Q) : DE K (tOrV ta tb) ρ Q := fun U σ L G o =>
  em_orV ((h U σ L G o).w fun v G1 ⟨e1, x, sx, b, eb, hb⟩ => by
    subst eb; cases (sx : Rp K G1 v (.bl b))
    refine ⟨b, rfl, ?_⟩
    cases b with
    | true => rw [if_pos rfl] at hb ⊢; exact ⟨e1, .d (.bl _), Rp.bl true, hb⟩
    | false => rw [if_neg Bool.false_ne_true] at hb ⊢; exact (hb U σ L G1 (o.mono e1)).w fun v G2 ⟨e2, k⟩ => ⟨e1.trans e2, k⟩)
theorem de_andV (h : DE K ta ρ fun x => BE x fun c => if c = true then DE K tb ρ Q else Q (.d (.bl false))) : DE K (tAndV ta tb) ρ Q := fun U σ L G o =>
  em_andV ((h U σ L G o).w fun v G1 ⟨e1, x, sx, b, eb, hb⟩ => by
    subst eb; cases (sx : Rp K G1 v (.bl b))
    refine ⟨b, rfl, ?_⟩
    cases b with
    | false => rw [if_neg Bool.false_ne_true] at hb ⊢; exact ⟨e1, .d (.bl _), Rp.bl false, hb⟩
    | true => rw [if_pos rfl] at hb ⊢; exact (hb U σ L G1 (o.mono e1)).w fun v G2 ⟨e2, k⟩ => ⟨e1.trans e2, k⟩)
theorem de_notV (h : DE K ta ρ fun x => BE x fun c => Q (.d (.bl (!c)))) : DE K (tNotV ta) ρ Q := fun U σ L G o =>
  em_notV ((h U σ L G o).w fun v G1 ⟨e1, x, sx, b, eb, hb⟩ => by
    subst eb; cases (sx : Rp K G1 v (.bl b))
    exact ⟨b, rfl, e1, .d (.bl _), Rp.bl _, hb⟩)
theorem de_if (h : DT K t ρ fun c => if c = true then DE K ta ρ Q else DE K tb ρ Q) : DE K (tIf t ta tb) ρ Q := fun U σ L G o =>
  em_if ((h U σ L G o).w fun c G1 ⟨e1, hb⟩ => by
    cases c with
    | true => rw [if_pos rfl] at hb ⊢; exact (hb U σ L G1 (o.mono e1)).w fun v G2 ⟨e2, k⟩ => ⟨e1.trans e2, k⟩
    | false => rw [if_neg Bool.false_ne_true] at hb ⊢; exact (hb U σ L G1 (o.mono e1)).w fun v G2 ⟨e2, k⟩ => ⟨e1.trans e2, k⟩)
theorem de_chain (h : DE K ta ρ fun x => DE K tb ρ fun y => DR K r x y fun z => BE z fun k => if k = true then DE K tc ρ fun w => DR K r' y w Q else Q (.d (.bl false))) : DE K (tChain r r' ta tb tc) ρ Q := fun U σ L G o =>
  em_chain ((h U σ L G o).w fun v G1 ⟨e1, x, sx, hx⟩ => (hx U σ L G1 (o.mono e1)).w fun w G2 ⟨e2, y, sy, hy⟩ => (hy U L G2 v w o.lo (sx.mono e2) sy).w fun z G3 ⟨e3, b', sz, b, eb, hb⟩ => by
    subst eb; cases (sz : Rp K G3 z (.bl b))
    refine ⟨b, rfl, ?_⟩
    cases b with
    | true =>
      rw [if_pos rfl] at hb ⊢
      exact (hb U σ L G3 (o.mono ((e1.trans e2).trans e3))).w fun s G4 ⟨e4, w', sw, hw⟩ => (hw U L G4 w s o.lo ((sy.mono e3).mono e4) sw).w fun z G5 ⟨e5, k⟩ => ⟨((e1.trans e2).trans e3).trans (e4.trans e5), k⟩
    | false => rw [if_neg Bool.false_ne_true] at hb ⊢; exact ⟨(e1.trans e2).trans e3, .d (.bl _), Rp.bl false, hb⟩)
theorem da_nil (k : QA []) : DA K tNil ρ QA := fun U σ L G o => am_nil ⟨Ex.refl G, [], .nil, k⟩
theorem da_cons (h : DE K ta ρ fun x => DD x fun d => DA K tr ρ fun ds => QA (d :: ds)) : DA K (tCons ta tr) ρ QA := fun U σ L G o =>
  am_cons ((h U σ L G o).w fun v G1 ⟨e1, x, sx, d, ed, hd⟩ => (hd U σ L G1 (o.mono e1)).w fun vs G2 ⟨e2, ds, sd, k⟩ => ⟨e1.trans e2, d :: ds, .cons (by subst ed; exact SlotV.mono sx e2) sd, k⟩)
theorem da_star (h : DE K ta ρ fun x => SE x fun es => DA K tr ρ fun ds => QA (es ++ ds)) : DA K (tStar K ta tr) ρ QA := fun U σ L G o H j QH q =>
  h U σ L G o H j _ fun v H1 G1 j1 ⟨e1, x, sx, es, ed, hd⟩ => by
    have k : ∃ p xs, v = V.ref p ∧ (SqT K H1 p xs ∨ SqL K H1 p xs) ∧ RpA K G1 xs es := by
      rcases ed with rfl | rfl | rfl
      · cases (sx : Rp K G1 v (.tup es)) with | tup a b => exact ⟨_, _, rfl, .inl (ex_t j1.up a), b⟩
      · cases (sx : Rp K G1 v (.lst es)) with | lst a b => exact ⟨_, _, rfl, .inr (ex_l j1.up (sq_of a)), b⟩
      · obtain ⟨a, vs, rfl, hm, b⟩ := sx
        exact ⟨_, _, rfl, .inr (sq_of (j1.at hm)), b⟩
    obtain ⟨p, xs, rfl, hp, b⟩ := k
    exact ⟨p, xs, rfl, hp, hd U σ L G1 (o.mono e1) H1 j1 _ fun vs H2 G2 j2 ⟨e2, ds, sd, k⟩ => q _ _ _ j2 ⟨e1.trans e2, es ++ ds, sd.app (b.mono e2), k⟩⟩
theorem de_lst (h : DA K tas ρ fun ds => Sz ds.length (Q (.d (.lst ds)))) : DE K (tLst tas) ρ Q := fun U σ L G o =>
  em_lst ((h U σ L G o).w fun vs G1 ⟨e1, ds, sd, hz, k⟩ => ⟨by rw [sd.len]; exact hz, fun p G2 _ e2 g => ⟨e1.trans e2, .d (.lst ds), .lst g (sd.mono e2), k⟩⟩)
theorem de_tup (h : DA K tas ρ fun ds => Sz ds.length (Q (.d (.tup ds)))) : DE K (tTup tas) ρ Q := fun U σ L G o =>
  em_tup ((h U σ L G o).w fun vs G1 ⟨e1, ds, sd, hz, k⟩ => ⟨by rw [sd.len]; exact hz, fun p G2 _ e2 g => ⟨e1.trans e2, .d (.tup ds), .tup (st_of g) (sd.mono e2), k⟩⟩)
theorem dn_lst {QN : List D → Prop} (h : DA K tas ρ fun ds => Sz ds.length (QN ds)) : DN K (tLst tas) ρ QN := fun U σ L G o =>
  em_lst ((h U σ L G o).w fun vs G1 ⟨e1, ds, sd, hz, k⟩ => ⟨by rw [sd.len]; exact hz, fun p G2 n e2 g => ⟨p, vs, ds, G1, rfl, e1, n, e2, g, sd, k⟩⟩)
theorem de_cb {rc : List V → Hp → VK → Prop} (h : DA K tas ρ fun ds => DB K rc ds Q) : DE K (tCB rc tas) ρ Q := fun U σ L G o =>
  em_cb ((h U σ L G o).w fun vs G1 ⟨e1, ds, sd, hd⟩ => (hd U L G1 vs o.lo sd).w fun z G3 ⟨e3, k⟩ => ⟨e1.trans e3, k⟩)
theorem de_bits (h : DE K ta ρ fun x => IE x fun i => Q (.d (.int (Builtin.Int.intBits i : Nat)))) : DE K (tBits ta) ρ Q := fun U σ L G o =>
  em_bits ((h U σ L G o).w fun v G1 ⟨e1, x, sx, i, ei, k⟩ => by subst ei; cases (sx : Rp K G1 v (.int i)); exact ⟨i, rfl, e1, .d (.int _), Rp.int _, k⟩)
theorem de_call {sp : Sp} {E' : XK} (h : DA K tas ρ fun ds => DC K sp ds Q) : DE K (tCall sp [] E' tas) ρ Q := fun U σ L G o =>
  em_call ((h U σ L G o).w fun vs G1 ⟨e1, ds, sd, hd⟩ => (hd U L G1 vs o.lo sd).w fun z G3 ⟨e3, k⟩ => ⟨e1.trans e3, k⟩)
/-! ### len and its like, of a list of the def's own -/
theorem de_lenO {i : Nat} (h : ∃ ds, ρ[i]? = some (.own ds) ∧ Q (.d (.int (ds.length : Nat)))) : DE K (tCB (rLenQ K) (tCons (tVar i) tNil)) ρ Q := fun U σ L G o H j QH q => by
  obtain ⟨ds, h1, h2⟩ := h
  obtain ⟨v, h3, a, vs, rfl, hm, b⟩ := o.at h1 rfl
  refine ⟨_, h3, a, vs, rfl, .inl (sq_of (j.at hm)), q _ _ _ j ⟨Ex.refl G, .d (.int (ds.length : Nat)), ?_, h2⟩⟩
  rw [b.len]; exact .int _
theorem db_lenL {ds : List D} (k : Q (.d (.int (ds.length : Nat)))) : DB K (rLenQ K) [.lst ds] Q := fun U L G vs _ h => by
  cases h with
  | cons a n => cases n; cases a with | lst x b => exact rm_lenL (sq_of x) ⟨Ex.refl G, .d (.int (ds.length : Nat)), by rw [b.len]; exact .int _, k⟩
theorem db_lenT {ds : List D} (k : Q (.d (.int (ds.length : Nat)))) : DB K (rLenQ K) [.tup ds] Q := fun U L G vs _ h => by
  cases h with
  | cons a n => cases n; cases a with | tup x b => exact rm_lenT x ⟨Ex.refl G, .d (.int (ds.length : Nat)), by rw [b.len]; exact .int _, k⟩
theorem db_lenM {α : Type} {f : α → D} {xs : List α} (k : Q (.d (.int (xs.length : Nat)))) : DB K (rLenQ K) [.lst (xs.map f)] Q := db_lenL (by rw [List.length_map]; exact k)
theorem db_lenMT {α : Type} {f : α → D} {xs : List α} (k : Q (.d (.int (xs.length : Nat)))) : DB K (rLenQ K) [.tup (xs.map f)] Q := db_lenT (by rw [List.length_map]; exact k)
theorem db_int {i : Int} (k : Q (.d (.int i))) : DB K rIntQ [.int i] Q := fun U L G vs _ h => by
  cases h with | cons a n => cases n; cases a; exact rm_int ⟨Ex.refl G, .d (.int _), Rp.int _, k⟩
theorem db_intB {b : Bool} (k : Q (.d (.int (if b then 1 else 0)))) : DB K rIntQ [.bl b] Q := fun U L G vs _ h => by
  cases h with | cons a n => cases n; cases a; exact fun H j _ q => .inr ⟨b, rfl, q _ _ _ j ⟨Ex.refl G, .d (.int _), Rp.int _, k⟩⟩
theorem db_max {i l : Int} (k : Q (.d (.int (if l > i then l else i)))) : DB K rMaxQ [.int i, .int l] Q := fun U L G vs _ h => by
  cases h with | cons a n => cases n with | cons a' n => cases n; cases a; cases a'; exact rm_max ⟨Ex.refl G, .d (.int _), Rp.int _, k⟩
theorem db_min {i l : Int} (k : Q (.d (.int (if l < i then l else i)))) : DB K rMinQ [.int i, .int l] Q := fun U L G vs _ h => by
  cases h with | cons a n => cases n with | cons a' n => cases n; cases a; cases a'; exact rm_min ⟨Ex.refl G, .d (.int _), Rp.int _, k⟩
theorem db_listL {ds : List D} (k : Q (.d (.lst ds))) : DB K (rListQ K) [.lst ds] Q := fun U L G vs _ h => by
  cases h with
  | cons a n => cases n; cases a with | lst x b => exact rm_list (.inl (sq_of x)) fun l G' _ e g => ⟨e, .d (.lst ds), .lst g (b.mono e), k⟩
theorem db_listT {ds : List D} (k : Q (.d (.lst ds))) : DB K (rListQ K) [.tup ds] Q := fun U L G vs _ h => by
  cases h with
  | cons a n => cases n; cases a with | tup x b => exact rm_list (.inr x) fun l G' _ e g => ⟨e, .d (.lst ds), .lst g (b.mono e), k⟩
theorem db_tupL {ds : List D} (k : Q (.d (.tup ds))) : DB K (rTupQ K) [.lst ds] Q := fun U L G vs _ h => by
  cases h with
  | cons a n => cases n; cases a with | lst x b => exact rm_tupL (sq_of x) fun l G' _ e g => ⟨e, .d (.tup ds), .tup (st_of g) (b.mono e), k⟩
theorem db_tupT {ds : List D} (k : Q (.d (.tup ds))) : DB K (rTupQ K) [.tup ds] Q := fun U L G vs _ h => by
  cases h with
  | cons a n => cases n; cases a with | tup x b => exact rm_tupT x ⟨Ex.refl G, .d (.tup ds), .tup x b, k⟩
theorem rpa_ints {F : Hp} {ns : List Int} : ∀ {vs : List V}, RpA K F vs (ns.map D.int) → vs = ns.map V.int := by
  induction ns with
  | nil => intro vs h; cases h; rfl
  | cons n ns ih => intro vs h; cases h with | cons a b => cases a; rw [ih b]; rfl
theorem rpa_bls {F : Hp} {ns : List Bool} : ∀ {vs : List V}, RpA K F vs (ns.map D.bl) → vs = ns.map V.bl := by
  induction ns with
  | nil => intro vs h; cases h; rfl
  | cons n ns ih => intro vs h; cases h with | cons a b => cases a; rw [ih b]; rfl
theorem db_sum {ns : List Int} (k : Q (.d (.int ns.sum))) : DB K (rSum K) [.lst (ns.map D.int)] Q := fun U L G vs _ h => by
  cases h with
  | cons a n => cases n; cases a with | lst x b => rw [rpa_ints b] at x; exact rm_sum (sq_of x) ⟨Ex.refl G, .d (.int _), Rp.int _, k⟩
theorem db_all {ns : List Bool} (k : Q (.d (.bl (ns.all id)))) : DB K (rAll K) [.lst (ns.map D.bl)] Q := fun U L G vs _ h => by
  cases h with
  | cons a n => cases n; cases a with | lst x b => rw [rpa_bls b] at x; exact rm_all (sq_of x) ⟨Ex.refl G, .d (.bl _), Rp.bl _, k⟩
theorem db_any {ns : List Bool} (k : Q (.d (.bl (ns.any id)))) : DB K (rAny K) [.lst (ns.map D.bl)] Q := fun U L G vs _ h => by
  cases h with
  | cons a n => cases n; cases a with | lst x b => rw [rpa_bls b] at x; exact rm_any (sq_of x) ⟨Ex.refl G, .d (.bl _), Rp.bl _, k⟩
/-! ### slices -/
def cutO (ds : List D) (lo hi : Option Int) : List D := (ds.drop (HT.sIx ds.length 0 lo)).take (HT.sIx ds.length ds.length hi - HT.sIx ds.length 0 lo)
theorem do_none {QO : Option Int → Prop} (k : QO none) : DO K tNoPart ρ QO := fun U σ L G o => om_none ⟨Ex.refl G, k⟩
theorem do_some {QO : Option Int → Prop} (h : DE K te ρ fun x => IE x fun i => QO (some i)) : DO K (tPart te) ρ QO := fun U σ L G o =>
  om_some ((h U σ L G o).w fun v G1 ⟨e1, x, sx, i, ei, k⟩ => by subst ei; cases (sx : Rp K G1 v (.int i)); exact ⟨i, rfl, e1, k⟩)
/-- a slice by its reading -/
def DSl (K : PySem.W.Frag) (r : V → Option Int → Option Int → Hp → VK → Prop) (x : E) (lo hi : Option Int) (Q : E → Prop) : Prop := ∀ U L G v, LOk U L → SlotV K U L G x v → RM (U.hides L) (r v lo hi) G (Po K U L G Q)
theorem de_sl {r : V → Option Int → Option Int → Hp → VK → Prop} {tl th : TO} (h : DE K te ρ fun x => DO K tl ρ fun l => DO K th ρ fun u => DSl K r x l u Q) : DE K (tSl r te tl th) ρ Q := fun U σ L G o =>
  em_sl ((h U σ L G o).w fun v G1 ⟨e1, x, sx, hx⟩ => (hx U σ L G1 (o.mono e1)).w fun l G2 ⟨e2, h2⟩ => (h2 U σ L G2 (o.mono (e1.trans e2))).w fun u G3 ⟨e3, h3⟩ => (h3 U L G3 v o.lo ((sx.mono e2).mono e3)).w fun z G4 ⟨e4, k⟩ => ⟨((e1.trans e2).trans e3).trans e4, k⟩)
theorem dsl_L {ds : List D} {lo hi : Option Int} (k : Q (.d (.lst (cutO ds lo hi)))) : DSl K (rSlL K) (.d (.lst ds)) lo hi Q := fun U L G v _ sx => by
  cases (sx : Rp K G v (.lst ds)) with
  | lst a b => exact rm_slL (sq_of a) fun p G' _ e g => ⟨e, .d (.lst (cutO ds lo hi)), .lst g ((b.mono e).cut lo hi), k⟩
theorem dsl_O {ds : List D} {lo hi : Option Int} (k : Q (.d (.lst (cutO ds lo hi)))) : DSl K (rSlL K) (.own ds) lo hi Q := fun U L G v _ sx H j _ q => by
  obtain ⟨a, vs, rfl, hm, b⟩ := sx
  exact ⟨a, vs, rfl, sq_of (j.at hm), fun p hp => q _ _ _ (j.alloc hp) ⟨Ex.new (j.free hp), .d (.lst (cutO ds lo hi)), .lst upd_same ((b.mono (Ex.new (j.free hp))).cut lo hi), k⟩⟩
theorem dsl_T {ds : List D} {lo hi : Option Int} (hn : ¬ (HT.sIx ds.length 0 lo = 0 ∧ HT.sIx ds.length ds.length hi = ds.length)) (k : Q (.d (.tup (cutO ds lo hi)))) : DSl K (rSlT K) (.d (.tup ds)) lo hi Q := fun U L G v _ sx => by
  cases (sx : Rp K G v (.tup ds)) with
  | tup a b => exact rm_slT a (by rw [b.len]; exact hn) fun p G' e g => ⟨e, .d (.tup (cutO ds lo hi)), .tup (st_of g) ((b.mono e).cut lo hi), k⟩
theorem de_revL (h : DE K te ρ fun x => ∃ ds, (x = .d (.lst ds) ∨ x = .own ds) ∧ Q (.d (.lst ds.reverse))) : DE K (tRevL K te) ρ Q := fun U σ L G o H j QH q =>
  h U σ L G o H j _ fun v H1 G1 j1 ⟨e1, x, sx, es, ed, hd⟩ => by
    have k : ∃ p xs, v = V.ref p ∧ SqL K H1 p xs ∧ RpA K G1 xs es := by
      rcases ed with rfl | rfl
      · cases (sx : Rp K G1 v (.lst es)) with | lst a b => exact ⟨_, _, rfl, ex_l j1.up (sq_of a), b⟩
      · obtain ⟨a, vs, rfl, hm, b⟩ := sx
        exact ⟨_, _, rfl, sq_of (j1.at hm), b⟩
    obtain ⟨p, xs, rfl, hp, b⟩ := k
    exact ⟨p, xs, rfl, hp, fun l hl => q _ _ _ (j1.alloc hl) ⟨e1.trans (Ex.new (j1.free hl)), .d (.lst es.reverse), .lst upd_same (b.mono (Ex.new (j1.free hl))).rev, hd⟩⟩
/-! ### fields and methods -/
theorem lk_of {F : Hp} : ∀ {fvs : List (Str × V)} {ds : List D}, RpA K F (fvs.map (·.2)) ds → ∀ {f : Str} {d : D}, ((fvs.map (·.1)).zip ds).lookup f = some d → ∃ v, fvs.lookup f = some v ∧ Rp K F v d
  | [], ds, h, f, d, e => by simp at e
  | (k, v) :: fvs, ds, h, f, d, e => by
    cases ds with
    | nil => cases h
    | cons d' ds =>
      cases h with
      | cons a b =>
        simp only [List.map_cons, List.zip_cons_cons, List.lookup_cons] at e ⊢
        cases z : f == k with
        | true => rw [z] at e; simp at e; subst e; exact ⟨v, by simp, a⟩
        | false => rw [z] at e; simp at e ⊢; exact lk_of b e
theorem lk_none : ∀ {fvs : List (Str × V)} {f : Str}, f ∉ fvs.map (·.1) → fvs.lookup f = none
  | [], f, h => rfl
  | (k, v) :: fvs, f, h => by
    simp only [List.map_cons, List.mem_cons, not_or] at h
    rw [List.lookup_cons]
    have : (f == k) = false := by simpa using h.1
    rw [this]
    exact lk_none h.2
theorem de_fld {f : Str} (h : DE K ta ρ fun x => FE K f x fun d => Q (.d d)) : DE K (tFld K ta f) ρ Q := fun U σ L G o =>
  em_fld ((h U σ L G o).w fun v G1 ⟨e1, x, sx, C, ks, ds, ed, hc, hn, d, hl, k⟩ => by
    subst ed
    cases (sx : Rp K G1 v (.obj C ks ds)) with
    | obj a kk b =>
      subst kk
      obtain ⟨w, h1, h2⟩ := lk_of b hl
      exact ⟨_, C, _, _, w, rfl, a, hc, hn, h1, e1, .d d, h2, k⟩)
theorem de_meth {C : Addr} {m : Str} {sp : Sp} {E' : XK} (h : DE K ta ρ fun x => ME C m x fun ks ds => DA K tas ρ fun as => DC K sp (.obj C ks ds :: as) Q) : DE K (tMeth C m sp [] E' ta tas) ρ Q := fun U σ L G o =>
  em_meth ((h U σ L G o).w fun v G1 ⟨e1, x, sx, ks, ds, ed, hn, hd⟩ => by
    subst ed
    cases id (sx : Rp K G1 v (.obj C ks ds)) with
    | obj a kk b =>
      subst kk
      exact ⟨_, _, _, rfl, a, lk_none hn, (hd U σ L G1 (o.mono e1)).w fun vs G2 ⟨e2, as, sa, k⟩ => (k U L G2 _ o.lo (.cons (Rp.mono (.obj a rfl b) e2) sa)).w fun z G3 ⟨e3, k⟩ => ⟨(e1.trans e2).trans e3, k⟩⟩)
/-! ### tests -/
theorem dt_test (h : DE K te ρ fun x => BE x fun k => QT k) : DT K (tTest te) ρ QT := fun U σ L G o =>
  tm_test ((h U σ L G o).w fun v G1 ⟨e1, x, sx, b, eb, hb⟩ => by subst eb; cases (sx : Rp K G1 v (.bl b)); exact ⟨b, rfl, e1, hb⟩)
theorem dt_B (h : DE K te ρ fun x => BE x fun k => QT k) : DT K (tB te) ρ QT := fun U σ L G o =>
  tm_B ((h U σ L G o).w fun v G1 ⟨e1, x, sx, b, eb, hb⟩ => by subst eb; cases (sx : Rp K G1 v (.bl b)); exact ⟨b, rfl, e1, hb⟩)
theorem dt_and (h : DT K t ρ fun c => if c = true then DT K u ρ QT else QT false) : DT K (tAnd t u) ρ QT := fun U σ L G o =>
  tm_and ((h U σ L G o).w fun c G1 ⟨e1, hb⟩ => by
    cases c with
    | true => rw [if_pos rfl] at hb ⊢; exact (hb U σ L G1 (o.mono e1)).w fun v G2 ⟨e2, k⟩ => ⟨e1.trans e2, k⟩
    | false => rw [if_neg Bool.false_ne_true] at hb ⊢; exact ⟨e1, hb⟩)
theorem dt_or (h : DT K t ρ fun c => if c = true then QT true else DT K u ρ QT) : DT K (tOr t u) ρ QT := fun U σ L G o =>
  tm_or ((h U σ L G o).w fun c G1 ⟨e1, hb⟩ => by
    cases c with
    | true => rw [if_pos rfl] at hb ⊢; exact ⟨e1, hb⟩
    | false => rw [if_neg Bool.false_ne_true] at hb ⊢; exact (hb U σ L G1 (o.mono e1)).w fun v G2 ⟨e2, k⟩ => ⟨e1.trans e2, k⟩)
theorem dt_not (h : DT K t ρ fun c => QT (!c)) : DT K (tNot t) ρ QT := fun U σ L G o => tm_not (h U σ L G o)
theorem dt_yes (k : QT true) : DT K tYes ρ QT := fun U σ L G o => tm_yes ⟨Ex.refl G, k⟩
/-! ### targets -/
variable {N : List E → Prop}
theorem dg_name {i : Nat} {e : E} {ρ' : List E} (f : e.free = true) (hr : ρ.set i e = ρ') (k : N ρ') : DG K (gName i) e ρ N := fun U σ L G v o s => gm_name ⟨Ex.refl G, _, o.set f s, by rw [hr]; exact k⟩
theorem dg_tup {n : Nat} {gs : TGs} {ds : List D} (hl : ds.length = n) (k : DGs K gs ds ρ N) : DG K (gTup K n gs) (.d (.tup ds)) ρ N := fun U σ L G v o s => by
  cases (s : Rp K G v (.tup ds)) with
  | tup a b => exact gm_tup a (by rw [b.len]; exact hl) (k U σ L G _ o b)
theorem dgs_nil (k : N ρ) : DGs K gNil [] ρ N := fun U σ L G vs o s => by cases s; exact gs_nil ⟨Ex.refl G, ρ, o, k⟩
theorem dgs_cons {g : TG} {gs : TGs} {d : D} {ds : List D} (k : DG K g (.d d) ρ fun ρ' => DGs K gs ds ρ' N) : DGs K (gCons g gs) (d :: ds) ρ N := fun U σ L G vs o s => by
  cases s with
  | cons a b => exact gs_cons ((k U σ L G _ o a).w fun σ1 G1 ⟨e1, ρ1, o1, k1⟩ => (k1 U σ1 L G1 _ o1 (b.mono e1)).w fun σ2 G2 ⟨e2, k2⟩ => ⟨e1.trans e2, k2⟩)
end
end Wp

set_option Elab.async false
set_option linter.all false
set_option maxRecDepth 100000
set_option maxHeartbeats 4000000
namespace Wp
open PySem L2 Evl StX
set_option autoImplicit false
def KN (K : PySem.W.Frag) (U : Vx) (kn : L2.St → Hp → Prop) (G : Hp) (N : List E → Prop) : Prop := ∀ ρ' σ' L' G', N ρ' → EnvOk K U ρ' σ' L' G' → Ex G G' → KM (U.hides L') kn σ' G'
def KR (K : PySem.W.Frag) (U : Vx) (rt : VK) (G : Hp) (R : D → Prop) : Prop := ∀ d v L' G', R d → Rp K G' v d → Ex G G' → LOk U L' → KV (U.hides L') rt v G'
def DS (K : PySem.W.Frag) (ts : TS) (ρ : List E) (N B C : List E → Prop) (R : D → Prop) : Prop := ∀ U σ L G (Dn : Ends), EnvOk K U ρ σ L G → KN K U Dn.nx G N → KN K U Dn.bk G B → KN K U Dn.ct G C → KR K U Dn.rt G R → SM (U.hides L) ts Dn σ G
/-- weaker, and then P -/
def Wk (P : List E → Prop) : List E → Prop := fun ρ => ∃ ρ', EnvLe ρ ρ' ∧ P ρ'
/-- behind the change of a slot -/
def SetTo (ρ : List E) (i : Nat) (e : E) (N : List E → Prop) : Prop := ∃ ρ', ρ.set i e = ρ' ∧ N ρ'
theorem set_to {ρ ρ' : List E} {i : Nat} {e : E} {N : List E → Prop} (h : ρ.set i e = ρ') (k : N ρ') : SetTo ρ i e N := ⟨ρ', h, k⟩
section
variable {K : PySem.W.Frag} {U : Vx} {kn : L2.St → Hp → Prop} {rt : VK} {G G' : Hp} {N : List E → Prop} {R : D → Prop}
theorem KN.mono (h : KN K U kn G N) (e : Ex G G') : KN K U kn G' N := fun ρ' σ' L' G2 n o e2 => h ρ' σ' L' G2 n o (e.trans e2)
theorem KR.mono (h : KR K U rt G R) (e : Ex G G') : KR K U rt G' R := fun d v L' G2 r s e2 lo => h d v L' G2 r s (e.trans e2) lo
theorem Ex.wo' {G G1 : Hp} {p : Addr} (n : G p = none) (e : Ex G G1) : Ex G (wo p G1) := fun a u h => by
  have : a ≠ p := fun z => by rw [z, n] at h; cases h
  rw [wo_ne this]; exact e a u h
end
section
variable {K : PySem.W.Frag} {ρ : List E} {te ti tl : TE} {tt : TT} {g : TG} {ts t1 t2 : TS} {ta : TA} {N B C : List E → Prop} {R : D → Prop} {Q : E → Prop}
theorem ds_seq (h : DS K t1 ρ (fun ρ' => DS K t2 ρ' N B C R) B C R) : DS K (tSeq t1 t2) ρ N B C R := fun U σ L G Dn o n b c r =>
  sm_seq (h U σ L G ⟨t2 Dn, Dn.rt, Dn.bk, Dn.ct⟩ o (fun ρ' σ' L' G' k o' e => fun H j => k U σ' L' G' Dn o' (n.mono e) (b.mono e) (c.mono e) (r.mono e) H j) b c r)
theorem ds_next (k : N ρ) : DS K tNext ρ N B C R := fun U σ L G Dn o n b c r => sm_next (n ρ σ L G k o (Ex.refl G))
theorem ds_brk (k : B ρ) : DS K tBreak ρ N B C R := fun U σ L G Dn o n b c r => sm_brk (b ρ σ L G k o (Ex.refl G))
theorem ds_cont (k : C ρ) : DS K tCont ρ N B C R := fun U σ L G Dn o n b c r => sm_cont (c ρ σ L G k o (Ex.refl G))
theorem ds_asg (h : DE K te ρ fun e => DG K g e ρ N) : DS K (tAsg te g) ρ N B C R := fun U σ L G Dn o n b c r =>
  sm_asg ((h U σ L G o).w fun v G1 ⟨e1, x, sx, hx⟩ => (hx U σ L G1 v (o.mono e1) sx).w fun σ2 G2 ⟨e2, ρ2, o2, n2⟩ => n ρ2 σ2 L G2 n2 o2 (e1.trans e2))
theorem ds_drop (h : DE K te ρ fun _ => N ρ) : DS K (tDrop te) ρ N B C R := fun U σ L G Dn o n b c r =>
  sm_drop ((h U σ L G o).w fun v G1 ⟨e1, x, sx, hx⟩ => n ρ σ L G1 hx (o.mono e1) e1)
theorem ds_ret (h : DE K te ρ fun e => DD e R) : DS K (tRet te) ρ N B C R := fun U σ L G Dn o n b c r =>
  sm_ret ((h U σ L G o).w fun v G1 ⟨e1, x, sx, d, ed, hd⟩ => by subst ed; exact r d v L G1 hd sx e1 o.lo)
theorem ds_retN (h : R .non) : DS K tRetN ρ N B C R := fun U σ L G Dn o n b c r => sm_retN (r .non .non L G h .non (Ex.refl G) o.lo)
theorem ds_if (h : DT K tt ρ fun c => if c = true then DS K t1 ρ N B C R else DS K t2 ρ N B C R) : DS K (tIfS tt t1 t2) ρ N B C R := fun U σ L G Dn o n b c r =>
  sm_if ((h U σ L G o).w fun x G1 ⟨e1, hb⟩ => by
    cases x with
    | true => rw [if_pos rfl] at hb ⊢; exact hb U σ L G1 Dn (o.mono e1) (n.mono e1) (b.mono e1) (c.mono e1) (r.mono e1)
    | false => rw [if_neg Bool.false_ne_true] at hb ⊢; exact hb U σ L G1 Dn (o.mono e1) (n.mono e1) (b.mono e1) (c.mono e1) (r.mono e1))
theorem ds_cut (P : List E → Prop) (h : DS K ts ρ (Wk P) B C R) (k : ∀ ρ', P ρ' → N ρ') : DS K (tCut ts) ρ N B C R := fun U σ L G Dn o n b c r H j =>
  ⟨fun σ' H' => ∃ ρ' L' G', P ρ' ∧ EnvOk K U ρ' σ' L' G' ∧ Ex G G' ∧ J (U.hides L') H' G', fun σ' H' ⟨ρ', L', G', p, o', e', j'⟩ => n ρ' σ' L' G' (k ρ' p) o' e' H' j',
    h U σ L G ⟨fun σ' H' => ∃ ρ' L' G', P ρ' ∧ EnvOk K U ρ' σ' L' G' ∧ Ex G G' ∧ J (U.hides L') H' G', Dn.rt, Dn.bk, Dn.ct⟩ o (fun ρ' σ' L' G' ⟨ρ2, le, p⟩ o' e H' j' => ⟨ρ2, L', G', p, o'.le le, e, j'⟩) b c r H j⟩
/-- the def's own list is a datum from here on -/
theorem ds_freeze (i : Nat) {ds : List D} {ρ' : List E} (hi : ρ[i]? = some (.own ds)) (hr : ρ.set i (.d (.lst ds)) = ρ') (h : DS K ts ρ' N B C R) : DS K ts ρ N B C R := fun U σ L G Dn o n b c r H j => by
  obtain ⟨v, h3, a, vs, rfl, hm, k⟩ := o.at hi rfl
  have na : G a = none := (j.msk a (.inr ⟨_, hm⟩)).1
  have e : Ex G (upd G a (.lst vs)) := Ex.new na
  obtain ⟨n1, n2, _⟩ := o.lo.nm _ hm
  subst hr
  exact h U σ _ _ Dn (o.shown hi rfl own1 h3 hm na fun x => .lst upd_same (k.mono x)) (n.mono e) (b.mono e) (c.mono e) (r.mono e) H (j.show hm n1 n2)
/-- .. and its own dict -/
theorem ds_freezeD (i : Nat) {ks : List Key} {ds : List D} {ρ' : List E} (hi : ρ[i]? = some (.dic ks ds)) (hr : ρ.set i (.d (.dct ks ds)) = ρ') (h : DS K ts ρ' N B C R) : DS K ts ρ N B C R := fun U σ L G Dn o n b c r H j => by
  obtain ⟨v, h3, a, vs, rfl, hm, hk, hnd, k⟩ := o.at hi rfl
  have na : G a = none := (j.msk a (.inr ⟨_, hm⟩)).1
  have e : Ex G (upd G a (.dK vs)) := Ex.new na
  obtain ⟨n1, n2, _⟩ := o.lo.nm _ hm
  subst hr
  exact h U σ _ _ Dn (o.shown hi rfl dic1 h3 hm na fun x =>   .dct (.inl upd_same) hk hnd (k.mono x)) (n.mono e) (b.mono e) (c.mono e) (r.mono e) H (j.show hm n1 n2)
theorem ds_retO {i : Nat} (h : ∃ ds, ρ[i]? = some (.own ds) ∧ R (.lst ds)) : DS K (tRet (tVar i)) ρ N B C R := by
  obtain ⟨ds, h1, h2⟩ := h
  refine ds_freeze i h1 rfl (ds_ret (de_var ⟨.d (.lst ds), ?_, rfl, ⟨_, rfl, h2⟩⟩))
  have hl := (List.getElem?_eq_some_iff.mp h1).1
  rw [List.getElem?_set_self hl]
theorem ds_retD {i : Nat} (h : ∃ ks ds, ρ[i]? = some (.dic ks ds) ∧ R (.dct ks ds)) : DS K (tRet (tVar i)) ρ N B C R := by
  obtain ⟨ks, ds, h1, h2⟩ := h
  refine ds_freezeD i h1 rfl (ds_ret (de_var ⟨.d (.dct ks ds), ?_, rfl, ⟨_, rfl, h2⟩⟩))
  have hl := (List.getElem?_eq_some_iff.mp h1).1
  rw [List.getElem?_set_self hl]
/-- a new list stays the def's own -/
theorem ds_own {i : Nat} (h : DN K te ρ fun ds => SetTo ρ i (.own ds) N) : DS K (tAsg te (gName i)) ρ N B C R := fun U σ L G Dn o n b c r H j =>
  h U σ L G o H j _ fun v H1 G1 j1 ⟨p, vs, ds, G0, ev, e1, np, e2, gp, k, ρ', hr, kn⟩ => by
    subst ev hr
    have hp : U.Ge p = none := none_of_ex o.ge (none_of_ex e1 np)
    have o1 := (o.mono e1)
    have hl : ∀ ws, (p, ws) ∉ L := fun ws hw => by
      have := (j1.msk p (.inr ⟨ws, hw⟩)).1
      rw [gp] at this; cases this
    have hm : ¬ U.m p := fun z => by
      have := (j1.msk p (.inl z)).1
      rw [gp] at this; cases this
    have hn : U.He p = none := j1.new p (by rw [gp]; exact fun q => by cases q) hp
    exact n _ _ _ _ kn (o1.own np e2 (fun x => .own List.mem_cons_self (k.mono x)) hl hm hn hp) (e1.trans (Ex.wo' np e2)) H1 (j1.own gp rfl hp)
/-- .. and a new dict -/
theorem ds_ownD {i : Nat} (h : DND K te ρ fun ks ds => SetTo ρ i (.dic ks ds) N) : DS K (tAsg te (gName i)) ρ N B C R := fun U σ L G Dn o n b c r H j =>
  h U σ L G o H j _ fun v H1 G1 j1 ⟨p, kvs, ks, ds, G0, ev, e1, np, e2, gp, hk, hnd, k, ρ', hr, kn⟩ => by
    subst ev hr
    have hp : U.Ge p = none := none_of_ex o.ge (none_of_ex e1 np)
    have o1 := (o.mono e1)
    have hl : ∀ ws, (p, ws) ∉ L := fun ws hw => by
      have := (j1.msk p (.inr ⟨ws, hw⟩)).1
      rw [gp] at this; cases this
    have hm : ¬ U.m p := fun z => by
      have := (j1.msk p (.inl z)).1
      rw [gp] at this; cases this
    have hn : U.He p = none := j1.new p (by rw [gp]; exact fun q => by cases q) hp
    exact n _ _ _ _ kn (o1.own np e2 (fun x => .dic List.mem_cons_self hk hnd (k.mono x)) hl hm hn hp) (e1.trans (Ex.wo' np e2)) H1 (j1.own gp rfl hp)
/-- xs.append(e) of the def's own list -/
theorem ds_append {i : Nat} (h : ∃ ds, ρ[i]? = some (.own ds) ∧ DE K te ρ fun e => DD e fun d => ds.length < sizeLine ∧ SetTo ρ i (.own (ds ++ [d])) N) : DS K (tDrop (tBM K "list" rAppend (tVar i) (tCons te tNil))) ρ N B C R := fun U σ L G Dn o n b c r H j => by
  obtain ⟨ds, hi, h⟩ := h
  obtain ⟨v, h3, a, vs, rfl, hm, k⟩ := o.at hi rfl
  obtain ⟨n1, n2, _⟩ := o.lo.nm _ hm
  refine ⟨_, h3, .inl ⟨rfl, vs, sq_of (j.at hm)⟩, h U σ L G o H j _ fun y H1 G1 j1 ⟨e1, x, sx, d, ed, hz, ρ', hr, kn⟩ => ⟨a, vs, y, rfl, rfl, j1.at hm, by rw [k.len]; exact hz, ?_⟩⟩
  subst ed hr
  exact n _ _ _ _ kn ((o.mono e1).chg hi rfl own1 h3 hm (.own (mem_setO_self hm) ((RpA.one sx).app (k.mono e1)))) e1 _ (j1.chg hm rfl n1 n2)
theorem ds_extend {i : Nat} (h : ∃ ds, ρ[i]? = some (.own ds) ∧ DE K te ρ fun e => ∃ es, e = .d (.lst es) ∧ ds.length + es.length ≤ sizeLine ∧ SetTo ρ i (.own (ds ++ es)) N) : DS K (tDrop (tBM K "list" rExtend (tVar i) (tCons te tNil))) ρ N B C R := fun U σ L G Dn o n b c r H j => by
  obtain ⟨ds, hi, h⟩ := h
  obtain ⟨v, h3, a, vs, rfl, hm, k⟩ := o.at hi rfl
  obtain ⟨n1, n2, _⟩ := o.lo.nm _ hm
  refine ⟨_, h3, .inl ⟨rfl, vs, sq_of (j.at hm)⟩, h U σ L G o H j _ fun y H1 G1 j1 ⟨e1, x, sx, es, ed, hz, ρ', hr, kn⟩ => ?_⟩
  subst ed hr
  cases (sx : Rp K G1 y (.lst es)) with
  | lst p q => exact ⟨a, _, vs, _, rfl, rfl, j1.at hm, j1.up _ _ p, by rw [k.len, q.len]; exact hz, n _ _ _ _ kn ((o.mono e1).chg hi rfl own1 h3 hm (.own (mem_setO_self hm) (q.app (k.mono e1)))) e1 _ (j1.chg hm rfl n1 n2)⟩
/-- xs[i] = v of the def's own list -/
theorem ds_store {i : Nat} (h : DE K te ρ fun e => DD e fun d => ∃ ds, ρ[i]? = some (.own ds) ∧ DE K ti ρ fun y => IE y fun m => ∃ j, ixN ds.length m = some j ∧ SetTo ρ i (.own (ds.set j d)) N) : DS K (tAsg te (gSub (tVar i) ti rSetL)) ρ N B C R := fun U σ L G Dn o n b c r H j => by
  refine h U σ L G o H j _ fun w H1 G1 j1 ⟨e1, x, sx, d, ed, ds, hi, k2⟩ => ?_
  obtain ⟨v, h3, a, vs, rfl, hm, k⟩ := (o.mono e1).at hi rfl
  obtain ⟨n1, n2, _⟩ := o.lo.nm _ hm
  refine ⟨_, h3, k2 U σ L G1 (o.mono e1) H1 j1 _ fun y H2 G2 j2 ⟨e2, z, sz, m, em, jj, hj, ρ', hr, kn⟩ => ?_⟩
  subst ed em hr
  cases (sz : Rp K G2 y (.int m))
  refine ⟨a, vs, m, jj, rfl, rfl, j2.at hm, by rw [k.len]; exact hj, ?_⟩
  exact n _ _ _ _ kn ((o.mono (e1.trans e2)).chg hi rfl own1 h3 hm (.own (mem_setO_self hm) ((k.mono e2).set (SlotV.mono sx e2) jj))) (e1.trans e2) _ (j2.chg hm rfl n1 n2)
/-- xs.pop() of the def's own list, the item forgotten -/
theorem ds_popO {i : Nat} (h : ∃ ds d, ρ[i]? = some (.own (ds ++ [d])) ∧ SetTo ρ i (.own ds) N) : DS K (tDrop (tBM0 K "list" rPop (tVar i))) ρ N B C R := fun U σ L G Dn o n b c r H j => by
  obtain ⟨ds, d, hi, ρ', hr, kn⟩ := h
  obtain ⟨v, h3, a, vs, rfl, hm, k⟩ := o.at hi rfl
  obtain ⟨n1, n2, _⟩ := o.lo.nm _ hm
  subst hr
  obtain ⟨w, hw, _⟩ := k.get (i := ds.length) (d := d) (by simp)
  have hat : vs[vs.length - 1]? = some w := by rw [k.len]; simpa using hw
  have hl : vs.dropLast = vs.take ds.length := by rw [List.dropLast_eq_take, k.len]; simp
  refine ⟨_, h3, .inl ⟨rfl, vs, sq_of (j.at hm)⟩, a, vs, _, rfl, rfl, j.at hm, hat, ?_⟩
  exact n _ _ _ _ kn (o.chg hi rfl own1 h3 hm (.own (mem_setO_self hm) (by rw [hl]; have := k.take ds.length; simpa using this))) (Ex.refl G) _ (j.chg hm rfl n1 n2)
/-! ### loops -/
theorem loop_env {I : Nat → List E → Prop} {U : Vx} {G1 : Hp} {Dn : Ends} {i : Nat} {g : TG} {x : V} {σ' : L2.St} {H' : Hp} (n : KN K U Dn.nx G1 N) (r : KR K U Dn.rt G1 R) {ρ' : List E} {L' : Ow} {G' : Hp} {e : E} (o' : EnvOk K U ρ' σ' L' G') (e' : Ex G1 G') (j' : J (U.hides L') H' G') (sx : SlotV K U L' G' e x)
    (h : DG K g e ρ' fun ρ2 => DS K ts ρ2 (Wk (I (i + 1))) N (Wk (I (i + 1))) R) :
    g x σ' H' fun σ2 H2 => ts ⟨fun σ H => ∃ ρ L G', I (i + 1) ρ ∧ EnvOk K U ρ σ L G' ∧ Ex G1 G' ∧ J (U.hides L) H G', Dn.rt, Dn.nx, fun σ H => ∃ ρ L G', I (i + 1) ρ ∧ EnvOk K U ρ σ L G' ∧ Ex G1 G' ∧ J (U.hides L) H G'⟩ σ2 H2 :=
  h U σ' L' G' x o' sx H' j' _ fun σ2 H2 G2 j2 ⟨e2, ρ2, o2, k2⟩ => k2 U σ2 L' G2 ⟨fun σ H => ∃ ρ L G', I (i + 1) ρ ∧ EnvOk K U ρ σ L G' ∧ Ex G1 G' ∧ J (U.hides L) H G', Dn.rt, Dn.nx, fun σ H => ∃ ρ L G', I (i + 1) ρ ∧ EnvOk K U ρ σ L G' ∧ Ex G1 G' ∧ J (U.hides L) H G'⟩ o2 (fun ρ3 σ3 L3 G3 ⟨ρ4, le, p4⟩ o3 e3 H3 j3 => ⟨ρ4, L3, G3, p4, o3.le le, (e'.trans e2).trans e3, j3⟩) (n.mono (e'.trans e2))
    (fun ρ3 σ3 L3 G3 ⟨ρ4, le, p4⟩ o3 e3 H3 j3 => ⟨ρ4, L3, G3, p4, o3.le le, (e'.trans e2).trans e3, j3⟩) (r.mono (e'.trans e2)) H2 j2
theorem ds_forL (h : DE K tl ρ fun e => ∃ ds, e = .d (.lst ds) ∧ ∃ I : Nat → List E → Prop, Wk (I 0) ρ ∧ (∀ (i : Nat) d ρ', ds[i]? = some d → I i ρ' → DG K g (.d d) ρ' fun ρ2 => DS K ts ρ2 (Wk (I (i + 1))) N (Wk (I (i + 1))) R) ∧ ∀ ρ', I ds.length ρ' → N ρ') : DS K (tFor (iList K tl) g ts) ρ N B C R := fun U σ L G Dn o n b c r H j =>
  h U σ L G o H j _ fun v H1 G1 j1 ⟨e1, x, sx, ds, ed, I, ⟨ρ0, le0, h0⟩, hs, hd⟩ => by
    subst ed
    cases (sx : Rp K G1 v (.lst ds)) with
    | lst a k =>
      refine ⟨_, rfl, ⟨_, sq_of (j1.up _ _ a)⟩, for_list (fun i σ' H' => ∃ ρ' L' G', I i ρ' ∧ EnvOk K U ρ' σ' L' G' ∧ Ex G1 G' ∧ J (U.hides L') H' G') ⟨ρ0, L, G1, h0, (o.mono e1).le le0, Ex.refl _, j1⟩ (fun i σ' H' _ ⟨ρ', L', G', p, o', e', j'⟩ => sq_of (j'.up _ _ (e' _ _ a))) (fun i y σ' H' hy ⟨ρ', L', G', p, o', e', j'⟩ => ?_) (fun σ' H' ⟨ρ', L', G', p, o', e', j'⟩ => ?_)⟩
      · obtain ⟨d, h1, h2⟩ := k.at hy
        exact loop_env (n.mono e1) (r.mono e1) o' e' j' (e := .d d) (h2.mono e') (hs i d ρ' h1 p)
      · rw [k.len] at p; exact n ρ' σ' L' G' (hd ρ' p) o' (e1.trans e') H' j'
theorem ds_forT (h : DE K tl ρ fun e => ∃ ds, e = .d (.tup ds) ∧ ∃ I : Nat → List E → Prop, Wk (I 0) ρ ∧ (∀ (i : Nat) d ρ', ds[i]? = some d → I i ρ' → DG K g (.d d) ρ' fun ρ2 => DS K ts ρ2 (Wk (I (i + 1))) N (Wk (I (i + 1))) R) ∧ ∀ ρ', I ds.length ρ' → N ρ') : DS K (tFor (iTup K tl) g ts) ρ N B C R := fun U σ L G Dn o n b c r H j =>
  h U σ L G o H j _ fun v H1 G1 j1 ⟨e1, x, sx, ds, ed, I, ⟨ρ0, le0, h0⟩, hs, hd⟩ => by
    subst ed
    cases (sx : Rp K G1 v (.tup ds)) with
    | tup a k =>
      refine ⟨_, rfl, ⟨_, ex_t j1.up a⟩, for_tup (fun i σ' H' => ∃ ρ' L' G', I i ρ' ∧ EnvOk K U ρ' σ' L' G' ∧ Ex G1 G' ∧ J (U.hides L') H' G') ⟨ρ0, L, G1, h0, (o.mono e1).le le0, Ex.refl _, j1⟩ (fun i σ' H' _ ⟨ρ', L', G', p, o', e', j'⟩ => ex_t j'.up (ex_t e' a)) (fun i y σ' H' hy ⟨ρ', L', G', p, o', e', j'⟩ => ?_) (fun σ' H' ⟨ρ', L', G', p, o', e', j'⟩ => ?_)⟩
      · obtain ⟨d, h1, h2⟩ := k.at hy
        exact loop_env (n.mono e1) (r.mono e1) o' e' j' (e := .d d) (h2.mono e') (hs i d ρ' h1 p)
      · rw [k.len] at p; exact n ρ' σ' L' G' (hd ρ' p) o' (e1.trans e') H' j'
theorem ds_forR1 (h : DA K ta ρ fun ws => ∃ m : Int, ws = [.int m] ∧ -(2 ^ 62) ≤ m ∧ m < 2 ^ 62 ∧ ∃ I : Nat → List E → Prop, Wk (I 0) ρ ∧ (∀ (i : Nat) ρ', (i : Int) < m → I i ρ' → DG K g (.d (.int (i : Int))) ρ' fun ρ2 => DS K ts ρ2 (Wk (I (i + 1))) N (Wk (I (i + 1))) R) ∧ ∀ ρ', I m.toNat ρ' → N ρ') : DS K (tFor (iRng1 ta) g ts) ρ N B C R := fun U σ L G Dn o n b c r H j =>
  h U σ L G o H j _ fun vs H1 G1 j1 ⟨e1, ws, sw, m, ew, b1, b2, I, ⟨ρ0, le0, h0⟩, hs, hd⟩ => by
    subst ew
    cases sw with
    | cons sa sn =>
      cases sn
      cases sa
      refine ⟨m, rfl, b1, b2, for_range (lo := 0) (n := m.toNat) (fun i σ' H' => ∃ ρ' L' G', I i ρ' ∧ EnvOk K U ρ' σ' L' G' ∧ Ex G1 G' ∧ J (U.hides L') H' G') ⟨ρ0, L, G1, h0, (o.mono e1).le le0, Ex.refl _, j1⟩ (fun i σ' H' hi ⟨ρ', L', G', p, o', e', j'⟩ => ?_) (fun σ' H' ⟨ρ', L', G', p, o', e', j'⟩ => n ρ' σ' L' G' (hd ρ' p) o' (e1.trans e') H' j')⟩
      have e0 : (0 : Int) + (i : Int) = (i : Int) := Int.zero_add _
      rw [e0]
      exact loop_env (n.mono e1) (r.mono e1) o' e' j' (e := .d (.int (i : Int))) (Rp.int _) (hs i ρ' (by omega) p)
theorem ds_forR2 (h : DA K ta ρ fun ws => ∃ lo m : Int, ws = [.int lo, .int m] ∧ (-(2 ^ 62) ≤ lo ∧ lo < 2 ^ 62 ∧ -(2 ^ 62) ≤ m ∧ m < 2 ^ 62) ∧ ∃ I : Nat → List E → Prop, Wk (I 0) ρ ∧ (∀ (i : Nat) ρ', lo + (i : Int) < m → I i ρ' → DG K g (.d (.int (lo + (i : Int)))) ρ' fun ρ2 => DS K ts ρ2 (Wk (I (i + 1))) N (Wk (I (i + 1))) R) ∧ ∀ ρ', I (m - lo).toNat ρ' → N ρ') : DS K (tFor (iRng2 ta) g ts) ρ N B C R := fun U σ L G Dn o n b c r H j =>
  h U σ L G o H j _ fun vs H1 G1 j1 ⟨e1, ws, sw, lo, m, ew, b1, I, ⟨ρ0, le0, h0⟩, hs, hd⟩ => by
    subst ew
    cases sw with
    | cons sa sn =>
      cases sn with
      | cons sb sn =>
        cases sn
        cases sa
        cases sb
        refine ⟨lo, m, rfl, b1, for_range (lo := lo) (n := (m - lo).toNat) (fun i σ' H' => ∃ ρ' L' G', I i ρ' ∧ EnvOk K U ρ' σ' L' G' ∧ Ex G1 G' ∧ J (U.hides L') H' G') ⟨ρ0, L, G1, h0, (o.mono e1).le le0, Ex.refl _, j1⟩ (fun i σ' H' hi ⟨ρ', L', G', p, o', e', j'⟩ => ?_) (fun σ' H' ⟨ρ', L', G', p, o', e', j'⟩ => n ρ' σ' L' G' (hd ρ' p) o' (e1.trans e') H' j')⟩
        exact loop_env (n.mono e1) (r.mono e1) o' e' j' (e := .d (.int (lo + (i : Int)))) (Rp.int _) (hs i ρ' (by omega) p)
theorem ds_while (W : Nat → List E → Prop) (m0 : Nat) (h0 : Wk (W m0) ρ)
    (hs : ∀ m ρ', W m ρ' → DT K tt ρ' fun b => if b = true then DS K ts ρ' (Wk fun ρ2 => ∃ m', m' < m ∧ W m' ρ2) N (Wk fun ρ2 => ∃ m', m' < m ∧ W m' ρ2) R else N ρ') : DS K (tWhile tt ts) ρ N B C R := fun U σ L G Dn o n b c r H j => by
  obtain ⟨ρ0, le0, w0⟩ := h0
  refine ⟨fun m σ' H' => ∃ ρ' L' G', W m ρ' ∧ EnvOk K U ρ' σ' L' G' ∧ Ex G G' ∧ J (U.hides L') H' G', ⟨m0, ρ0, L, G, w0, o.le le0, Ex.refl _, j⟩, fun m σ' H' ⟨ρ', L', G', w, o', e', j'⟩ => ?_⟩
  refine hs m ρ' w U σ' L' G' o' H' j' _ fun x H1 G1 j1 ⟨e1, h1⟩ => ?_
  cases x with
  | true =>
    rw [if_pos rfl] at h1 ⊢
    refine ⟨fun σ2 H2 => ∃ m', m' < m ∧ ∃ ρ' L' G', W m' ρ' ∧ EnvOk K U ρ' σ2 L' G' ∧ Ex G G' ∧ J (U.hides L') H2 G', fun σ2 H2 h => h, ?_⟩
    have k : ∀ ρ3 σ3 L3 G3, Wk (fun ρ2 => ∃ m', m' < m ∧ W m' ρ2) ρ3 → EnvOk K U ρ3 σ3 L3 G3 → Ex G1 G3 → KM (U.hides L3) (fun σ2 H2 => ∃ m', m' < m ∧ ∃ ρ' L' G', W m' ρ' ∧ EnvOk K U ρ' σ2 L' G' ∧ Ex G G' ∧ J (U.hides L') H2 G') σ3 G3 :=
      fun ρ3 σ3 L3 G3 ⟨ρ4, le, m', hm, w'⟩ o3 e3 H3 j3 => ⟨m', hm, ρ4, L3, G3, w', o3.le le, (e'.trans e1).trans e3, j3⟩
    exact h1 U σ' L' G1 ⟨fun σ2 H2 => ∃ m', m' < m ∧ ∃ ρ' L' G', W m' ρ' ∧ EnvOk K U ρ' σ2 L' G' ∧ Ex G G' ∧ J (U.hides L') H2 G', Dn.rt, Dn.nx, fun σ2 H2 => ∃ m', m' < m ∧ ∃ ρ' L' G', W m' ρ' ∧ EnvOk K U ρ' σ2 L' G' ∧ Ex G G' ∧ J (U.hides L') H2 G'⟩ (o'.mono e1) k (n.mono (e'.trans e1)) k (r.mono (e'.trans e1)) H1 j1
  | false =>
    rw [if_neg Bool.false_ne_true] at h1 ⊢
    exact n ρ' σ' L' G1 h1 (o'.mono e1) (e'.trans e1) H1 j1
/-! ### comprehensions -/
/-- a target of a comprehension: only its own slots change -/
def DGW (K : PySem.W.Frag) (g : TG) (e : E) (vs : List Nat) (ρ : List E) (N : List E → Prop) : Prop := ∀ U σ L G v, EnvOk K U ρ σ L G → SlotV K U L G e v → GM (U.hides L) g v (L2.wipe σ vs) G fun σ' G' => L2.wipe σ' vs = L2.wipe σ vs ∧ Ex G G' ∧ ∃ ρ', EnvOk K U ρ' σ' L G' ∧ N ρ'
theorem set_same {α : Type} : ∀ (xs : List α) (i : Nat) (x y : α), (xs.set i x).set i y = xs.set i y
  | [], i, x, y => rfl
  | a :: xs, 0, x, y => rfl
  | a :: xs, i + 1, x, y => by simp [List.set]
theorem wipe_set {i : Nat} {x : Option V} : ∀ {vs : List Nat} (σ : L2.St), i ∈ vs → L2.wipe (σ.set i x) vs = L2.wipe σ vs
  | [], σ, h => by simp at h
  | v :: vs, σ, h => by
    show (L2.wipe (σ.set i x) vs).set v none = (L2.wipe σ vs).set v none
    by_cases z : i ∈ vs
    · rw [wipe_set σ z]
    · rcases List.mem_cons.mp h with e | h'
      · subst e
        have aux : ∀ (ws : List Nat), i ∉ ws → L2.wipe (σ.set i x) ws = (L2.wipe σ ws).set i x := by
          intro ws
          induction ws with
          | nil => intro _; rfl
          | cons w ws ih =>
            intro hw
            simp only [List.mem_cons, not_or] at hw
            show (L2.wipe (σ.set i x) ws).set w none = ((L2.wipe σ ws).set w none).set i x
            rw [ih hw.2, List.set_comm _ _ hw.1]
        rw [aux vs z, set_same]
      · exact absurd h' z
theorem wipe_wipe (σ : L2.St) : ∀ vs ws : List Nat, (∀ v ∈ vs, v ∈ ws) → L2.wipe (L2.wipe σ vs) ws = L2.wipe σ ws
  | [], ws, _ => rfl
  | v :: vs, ws, h => by
    show L2.wipe ((L2.wipe σ vs).set v none) ws = _
    rw [wipe_set _ (h v (by simp)), wipe_wipe σ vs ws fun u hu => h u (by simp [hu])]
theorem dgw_name {i : Nat} {e : E} {vs : List Nat} (f : e.free = true) (hi : i ∈ vs) {ρ' : List E} (hr : (wipeE ρ vs).set i e = ρ') (k : N ρ') : DGW K (gName i) e vs ρ N := fun U σ L G v o s =>
  gm_name ⟨by rw [wipe_set _ hi, wipe_wipe σ vs vs fun _ h => h], Ex.refl G, _, (o.wipe vs).set f s, by rw [hr]; exact k⟩
theorem dgw_pair {i j : Nat} {d1 d2 : D} {vs : List Nat} (hi : i ∈ vs) (hj : j ∈ vs) {ρ' : List E} (hr : ((wipeE ρ vs).set i (.d d1)).set j (.d d2) = ρ') (k : N ρ') : DGW K (gTup K 2 (gCons (gName i) (gCons (gName j) gNil))) (.d (.tup [d1, d2])) vs ρ N := fun U σ L G v o s => by
  cases (s : Rp K G v (.tup [d1, d2])) with
  | tup a b =>
    cases b with
    | cons b1 b =>
      cases b with
      | cons b2 b =>
        cases b
        exact gm_tup a rfl (gs_cons (gm_name (gs_cons (gm_name (gs_nil ⟨by rw [wipe_set _ hj, wipe_set _ hi, wipe_wipe σ vs vs fun _ h => h], Ex.refl G, _, ((o.wipe vs).set (e := .d d1) rfl b1).set (e := .d d2) rfl b2, by rw [hr]; exact k⟩)))))
/-- a turn of a comprehension -/
theorem lc_env {P : Nat → List D → Prop} {U : Vx} {G1 : Hp} {i : Nat} {x : V} {σ : L2.St} {H' : Hp} {vs : List Nat} {Dd : Addr} {L : Ow} {acc : List V} {ads : List D} {G' : Hp} {e : E} (hDd : ∀ q ∈ L, q.1 ≠ Dd) (hlo : LOk U ((Dd, HI.ex (.lst acc)) :: L)) (o' : EnvOk K U ρ σ L G') (e' : Ex G1 G') (j' : J (U.hides ((Dd, HI.ex (.lst acc)) :: L)) H' G') (sx : SlotV K U L G' e x) (ka : RpA K G' acc ads) (hz : ads.length < 16000000)
    (h : DGW K g e vs ρ fun ρ2 => DT K tt ρ2 fun b => if b = true then DE K te ρ2 fun y => DD y fun dy => P (i + 1) (ads ++ [dy]) else P (i + 1) ads) :
    g x (L2.wipe σ vs) H' fun σ2 H2 => L2.wipe σ2 vs = L2.wipe σ vs ∧ tt σ2 H2 fun b H3 => if b = true then te σ2 H3 fun y H4 => ∃ acc, H4 Dd = some (.lst acc) ∧ acc.length < sizeLine ∧ ∃ acc' ads' G', P (i + 1) ads' ∧ RpA K G' acc' ads' ∧ Ex G1 G' ∧ J (U.hides ((Dd, HI.ex (.lst acc')) :: L)) (upd H4 Dd (.lst (acc ++ [y]))) G' else ∃ acc' ads' G', P (i + 1) ads' ∧ RpA K G' acc' ads' ∧ Ex G1 G' ∧ J (U.hides ((Dd, HI.ex (.lst acc')) :: L)) H3 G' := by
  have sx' : SlotV K U ((Dd, HI.ex (.lst acc)) :: L) G' e x := sx.more fun _ h => List.mem_cons_of_mem _ h
  refine h U σ _ G' x (o'.more (fun _ h => List.mem_cons_of_mem _ h) hlo) sx' H' j' _ fun σ2 H2 G2 j2 ⟨hw, e2, ρ2, o2, k2⟩ => ⟨hw, k2 U σ2 _ G2 o2 H2 j2 _ fun b H3 G3 j3 ⟨e3, k3⟩ => ?_⟩
  cases b with
  | true =>
    rw [if_pos rfl] at k3 ⊢
    refine k3 U σ2 _ G3 (o2.mono e3) H3 j3 _ fun y H4 G4 j4 ⟨e4, ey, sy, dy, ed, k4⟩ => ⟨acc, j4.at List.mem_cons_self, ?_, acc ++ [y], ads ++ [dy], G4, k4, ?_, ((e'.trans e2).trans e3).trans e4, ?_⟩
    · rw [ka.len]; exact Nat.lt_of_lt_of_le hz (by decide)
    · subst ed; exact (RpA.one sy).app (ka.mono ((e2.trans e3).trans e4))
    · obtain ⟨n1, n2, _⟩ := hlo.nm (Dd, _) List.mem_cons_self
      exact j4.chgHead rfl hDd n1 n2
  | false =>
    rw [if_neg Bool.false_ne_true] at k3 ⊢
    exact ⟨acc, ads, G3, k3, ka.mono (e2.trans e3), (e'.trans e2).trans e3, j3⟩
end
end Wp

set_option Elab.async false
set_option linter.all false
set_option maxRecDepth 100000
set_option maxHeartbeats 4000000
namespace Wp
open PySem L2 Evl StX
set_option autoImplicit false
section
variable {K : PySem.W.Frag} {ρ : List E} {te ti tl : TE} {tt : TT} {g : TG} {ts t1 t2 : TS} {ta tr : TA} {N B C : List E → Prop} {R : D → Prop} {Q : E → Prop} {QN : List D → Prop} {vs : List Nat}
theorem J.showHead {U : Vx} {L : Ow} {H G : Hp} {a : Addr} {o : HO} (j : J (U.hides ((a, HI.ex o) :: L)) H G) (hm : ¬ U.m a) (hn : U.He a = none) (hL : ∀ q ∈ L, q.1 ≠ a) : J (U.hides L) H (upd G a o) where
  up := fun b u e => by
    by_cases z : b = a
    · subst z; rw [upd_same] at e; rw [j.at List.mem_cons_self]; exact e
    · rw [upd_ne z] at e; exact j.up b u e
  keep := j.keep
  new := fun b q g => by
    by_cases z : b = a
    · subst z; exact hn
    · rw [upd_ne z] at q; exact j.new b q g
  hid := ⟨j.hid.1, fun q hq => j.hid.2 q (List.mem_cons_of_mem _ hq)⟩
  msk := fun b mb => by
    rcases mb with mb | ⟨ws, hw⟩
    · have : b ≠ a := fun z => by subst z; exact hm mb
      rw [upd_ne this]; exact j.msk b (.inl mb)
    · have : b ≠ a := hL _ hw
      rw [upd_ne this]; exact j.msk b (.inr ⟨ws, List.mem_cons_of_mem _ hw⟩)
theorem de_new (h : DN K te ρ fun ds => Q (.d (.lst ds))) : DE K te ρ Q := fun U σ L G o =>
  (h U σ L G o).w fun v G' ⟨p, vs, ds, G1, ev, e1, np, e2, gp, k, q⟩ => ⟨e1.trans e2, .d (.lst ds), by subst ev; exact .lst gp (k.mono e2), q⟩
/-- what every comprehension starts and ends with -/
structure LcOk (U : Vx) (L : Ow) (Dd : Addr) : Prop where
  nm : ¬ U.m Dd
  nh : U.He Dd = none
  ng : U.Ge Dd = none
  nl : ∀ q ∈ L, q.1 ≠ Dd
theorem LcOk.lo {U : Vx} {L : Ow} {Dd : Addr} (c : LcOk U L Dd) (lo : LOk U L) (o : HI) : LOk U ((Dd, o) :: L) := lo.cons (fun u hu => c.nl _ hu rfl) c.nm c.nh c.ng
theorem lc_ok {U : Vx} {σ : L2.St} {L : Ow} {G G1 H1 : Hp} {Dd : Addr} (o : EnvOk K U ρ σ L G) (e1 : Ex G G1) (j1 : J (U.hides L) H1 G1) (hD : H1 Dd = none) : LcOk U L Dd :=
  ⟨fun z => (j1.msk Dd (.inl z)).2 hD, none_of_ex j1.keep hD, none_of_ex o.ge (none_of_ex e1 (j1.free hD)), fun q hq z => (j1.msk Dd (.inr ⟨q.2, by rw [← z]; exact hq⟩)).2 hD⟩
theorem lc_start {U : Vx} {σ : L2.St} {L : Ow} {G1 H1 : Hp} {Dd : Addr} (c : LcOk U L Dd) (j1 : J (U.hides L) H1 G1) (hD : H1 Dd = none) : ∃ G', Ex G1 G' ∧ J (U.hides ((Dd, HI.ex (.lst [])) :: L)) (upd H1 Dd (.lst [])) G' :=
  ⟨_, Ex.wo' (j1.free hD) (Ex.new (j1.free hD)), (j1.alloc hD).own upd_same rfl c.ng⟩
def LcP (K : PySem.W.Frag) (U : Vx) (L : Ow) (G1 : Hp) (Dd : Addr) (P : Nat → List D → Prop) (i : Nat) (H : Hp) : Prop := ∃ acc' ads' G', P i ads' ∧ RpA K G' acc' ads' ∧ Ex G1 G' ∧ J (U.hides ((Dd, HI.ex (.lst acc')) :: L)) H G'
theorem lc_done {U : Vx} {L : Ow} {G G1 H : Hp} {Dd : Addr} {P : Nat → List D → Prop} {n : Nat} (c : LcOk U L Dd) (e1 : Ex G G1) (h : LcP K U L G1 Dd P n H) (hd : ∀ acc, P n acc → QN acc) : ∃ G2, J (U.hides L) H G2 ∧ ∃ p vs ds G1, V.ref Dd = .ref p ∧ Ex G G1 ∧ G1 p = none ∧ Ex G1 G2 ∧ G2 p = some (.lst vs) ∧ RpA K G1 vs ds ∧ QN ds := by
  obtain ⟨acc, ads, G', p, ka, e', j'⟩ := h
  have gd : G' Dd = none := (j'.msk Dd (.inr ⟨_, List.mem_cons_self⟩)).1
  exact ⟨_, j'.showHead c.nm c.nh c.nl, Dd, acc, ads, G', rfl, e1.trans e', gd, Ex.new gd, upd_same, ka, hd ads p⟩
theorem dn_lcL (h : DE K tl ρ fun e => ∃ ds, e = .d (.lst ds) ∧ ds.length < 16000000 ∧ ∃ P : Nat → List D → Prop, P 0 [] ∧ (∀ i acc, P i acc → acc.length ≤ i) ∧ (∀ (i : Nat) d acc, ds[i]? = some d → P i acc → DGW K g (.d d) vs ρ fun ρ2 => DT K tt ρ2 fun b => if b = true then DE K te ρ2 fun y => DD y fun dy => P (i + 1) (acc ++ [dy]) else P (i + 1) acc) ∧ ∀ acc, P ds.length acc → QN acc) : DN K (tLc (iList K tl) g tt te vs) ρ QN := fun U σ L G o H j QH q =>
  h U σ L G o H j _ fun v H1 G1 j1 ⟨e1, x, sx, ds, ed, hlen, P, h0, hz, hs, hd⟩ => by
    subst ed
    cases (sx : Rp K G1 v (.lst ds)) with
    | lst a k =>
      refine ⟨_, rfl, ⟨_, sq_of (j1.up _ _ a)⟩, fun Dd hD => ?_⟩
      have c := lc_ok o e1 j1 hD
      refine lc_list (LcP K U L G1 Dd P) ?_ (fun i H' _ ⟨acc, ads, G', p, ka, e', j'⟩ => sq_of (j'.up _ _ (e' _ _ a))) (fun i x H' hi ⟨acc, ads, G', p, ka, e', j'⟩ => ?_) (fun H' hp => ?_)
      · obtain ⟨G', e', j'⟩ := lc_start (σ := σ) c j1 hD
        exact ⟨[], [], G', h0, .nil, e', j'⟩
      · obtain ⟨d, h1, h2⟩ := k.at hi
        have hil := (List.getElem?_eq_some_iff.mp h1).1
        exact lc_env (e := .d d) c.nl (c.lo o.lo (.ex (.lst acc))) (o.mono (e1.trans e')) e' j' (h2.mono e') ka (by have := hz i ads p; omega) (hs i d ads h1 p)
      · rw [k.len] at hp
        obtain ⟨G2, j2, r⟩ := lc_done c e1 hp hd
        exact q _ _ _ j2 r
theorem dn_lcT (h : DE K tl ρ fun e => ∃ ds, e = .d (.tup ds) ∧ ds.length < 16000000 ∧ ∃ P : Nat → List D → Prop, P 0 [] ∧ (∀ i acc, P i acc → acc.length ≤ i) ∧ (∀ (i : Nat) d acc, ds[i]? = some d → P i acc → DGW K g (.d d) vs ρ fun ρ2 => DT K tt ρ2 fun b => if b = true then DE K te ρ2 fun y => DD y fun dy => P (i + 1) (acc ++ [dy]) else P (i + 1) acc) ∧ ∀ acc, P ds.length acc → QN acc) : DN K (tLc (iTup K tl) g tt te vs) ρ QN := fun U σ L G o H j QH q =>
  h U σ L G o H j _ fun v H1 G1 j1 ⟨e1, x, sx, ds, ed, hlen, P, h0, hz, hs, hd⟩ => by
    subst ed
    cases (sx : Rp K G1 v (.tup ds)) with
    | tup a k =>
      refine ⟨_, rfl, ⟨_, ex_t j1.up a⟩, fun Dd hD => ?_⟩
      have c := lc_ok o e1 j1 hD
      refine lc_tup (LcP K U L G1 Dd P) ?_ (fun i H' _ ⟨acc, ads, G', p, ka, e', j'⟩ => ex_t j'.up (ex_t e' a)) (fun i x H' hi ⟨acc, ads, G', p, ka, e', j'⟩ => ?_) (fun H' hp => ?_)
      · obtain ⟨G', e', j'⟩ := lc_start (σ := σ) c j1 hD
        exact ⟨[], [], G', h0, .nil, e', j'⟩
      · obtain ⟨d, h1, h2⟩ := k.at hi
        have hil := (List.getElem?_eq_some_iff.mp h1).1
        exact lc_env (e := .d d) c.nl (c.lo o.lo (.ex (.lst acc))) (o.mono (e1.trans e')) e' j' (h2.mono e') ka (by have := hz i ads p; omega) (hs i d ads h1 p)
      · rw [k.len] at hp
        obtain ⟨G2, j2, r⟩ := lc_done c e1 hp hd
        exact q _ _ _ j2 r
theorem dn_lcR1 (h : DA K ta ρ fun ws => ∃ m : Int, ws = [.int m] ∧ 0 ≤ m ∧ m < 16000000 ∧ ∃ P : Nat → List D → Prop, P 0 [] ∧ (∀ i acc, P i acc → acc.length ≤ i) ∧ (∀ (i : Nat) acc, (i : Int) < m → P i acc → DGW K g (.d (.int (i : Int))) vs ρ fun ρ2 => DT K tt ρ2 fun b => if b = true then DE K te ρ2 fun y => DD y fun dy => P (i + 1) (acc ++ [dy]) else P (i + 1) acc) ∧ ∀ acc, P m.toNat acc → QN acc) : DN K (tLc (iRng1 ta) g tt te vs) ρ QN := fun U σ L G o H j QH q =>
  h U σ L G o H j _ fun us H1 G1 j1 ⟨e1, ws, sw, m, ew, b1, b2, P, h0, hz, hs, hd⟩ => by
    subst ew
    cases sw with
    | cons sa sn =>
      cases sn
      cases sa
      refine ⟨m, rfl, by omega, by omega, fun Dd hD => ?_⟩
      have c := lc_ok o e1 j1 hD
      refine lc_range (lo := 0) (n := m.toNat) (LcP K U L G1 Dd P) ?_ (fun i H' hi ⟨acc, ads, G', p, ka, e', j'⟩ => ?_) (fun H' hp => ?_)
      · obtain ⟨G', e', j'⟩ := lc_start (σ := σ) c j1 hD
        exact ⟨[], [], G', h0, .nil, e', j'⟩
      · have e0 : (0 : Int) + (i : Int) = (i : Int) := Int.zero_add _
        rw [e0]
        exact lc_env (e := .d (.int (i : Int))) c.nl (c.lo o.lo (.ex (.lst acc))) (o.mono (e1.trans e')) e' j' (Rp.int _) ka (by have := hz i ads p; omega) (hs i ads (by omega) p)
      · obtain ⟨G2, j2, r⟩ := lc_done c e1 hp hd
        exact q _ _ _ j2 r
/-- over enumerate of a list or a tuple -/
theorem dn_lcE {i0 i1 : Nat} (h : DA K ta ρ fun ws => ∃ ds, ws = [.lst ds] ∧ ds.length < 16000000 ∧ i0 ∈ vs ∧ i1 ∈ vs ∧ ∃ P : Nat → List D → Prop, P 0 [] ∧ (∀ i acc, P i acc → acc.length ≤ i) ∧ (∀ (i : Nat) d acc, ds[i]? = some d → P i acc → DT K tt (((wipeE ρ vs).set i0 (.d (.int (i : Int)))).set i1 (.d d)) fun b => if b = true then DE K te (((wipeE ρ vs).set i0 (.d (.int (i : Int)))).set i1 (.d d)) fun y => DD y fun dy => P (i + 1) (acc ++ [dy]) else P (i + 1) acc) ∧ ∀ acc, P ds.length acc → QN acc) : DN K (tLc (iEnum K ta) (gTup K 2 (gCons (gName i0) (gCons (gName i1) gNil))) tt te vs) ρ QN := fun U σ L G o H j QH q =>
  h U σ L G o H j _ fun us H1 G1 j1 ⟨e1, ws, sw, ds, ew, hlen, m0, m1, P, h0, hz, hs, hd⟩ => by
    subst ew
    cases sw with
    | cons sa sn =>
      cases sn
      cases sa with
      | @lst a xs _ ha k =>
      refine ⟨_, _, rfl, sq_of (j1.up _ _ ha), fun Dd hD => ?_⟩
      have c := lc_ok o e1 j1 hD
      have wk : Walk (Ite K a) xs.length (fun H => SqL K H a xs) (fun i H v H' => ∃ T x, v = .ref T ∧ H T = none ∧ H' = upd H T (.tup [.int (i : Nat), x]) ∧ xs[i]? = some x) :=
        ⟨fun i H hi hq => ⟨xs, xs[i], hq, by simp [hi]⟩, fun H hq => ⟨xs, hq, Nat.le_refl _⟩, fun i H x H' hi hq ⟨T, y, e1, e2, e3, e4⟩ => ⟨T, y, e1, e2, e3, e4 xs hq⟩⟩
      refine lc_it wk (LcP K U L G1 Dd P) ?_ (fun i H' _ ⟨acc, ads, G', p, ka, e', j'⟩ => sq_of (j'.up _ _ (e' _ _ ha))) (fun i x H' H'' hi ⟨acc, ads, G', p, ka, e', j'⟩ ⟨T, y, ex, hT, eH, hy⟩ => ?_) (fun H' hp => ?_)
      · obtain ⟨G', e', j'⟩ := lc_start (σ := σ) c j1 hD
        exact ⟨[], [], G', h0, .nil, e', j'⟩
      · obtain ⟨d, h1, h2⟩ := k.at hy
        have hil := (List.getElem?_eq_some_iff.mp h1).1
        subst ex eH
        have jT := j'.alloc (o := .tup [.int (i : Nat), y]) hT
        have eT : Ex G' (upd G' T (.tup [.int (i : Nat), y])) := Ex.new (j'.free hT)
        exact lc_env (e := .d (.tup [.int (i : Nat), d])) c.nl (c.lo o.lo (.ex (.lst acc))) (o.mono ((e1.trans e').trans eT)) (e'.trans eT) jT (Rp.tup (st_of upd_same) (.cons (.int _) (.cons ((h2.mono e').mono eT) .nil))) (ka.mono eT) (by have := hz i ads p; omega) (dgw_pair m0 m1 rfl (hs i d ads h1 p))
      · rw [k.len] at hp
        obtain ⟨G2, j2, r⟩ := lc_done c e1 hp hd
        exact q _ _ _ j2 r
theorem dn_lcET {i0 i1 : Nat} (h : DA K ta ρ fun ws => ∃ ds, ws = [.tup ds] ∧ ds.length < 16000000 ∧ i0 ∈ vs ∧ i1 ∈ vs ∧ ∃ P : Nat → List D → Prop, P 0 [] ∧ (∀ i acc, P i acc → acc.length ≤ i) ∧ (∀ (i : Nat) d acc, ds[i]? = some d → P i acc → DT K tt (((wipeE ρ vs).set i0 (.d (.int (i : Int)))).set i1 (.d d)) fun b => if b = true then DE K te (((wipeE ρ vs).set i0 (.d (.int (i : Int)))).set i1 (.d d)) fun y => DD y fun dy => P (i + 1) (acc ++ [dy]) else P (i + 1) acc) ∧ ∀ acc, P ds.length acc → QN acc) : DN K (tLc (iEnumT K ta) (gTup K 2 (gCons (gName i0) (gCons (gName i1) gNil))) tt te vs) ρ QN := fun U σ L G o H j QH q =>
  h U σ L G o H j _ fun us H1 G1 j1 ⟨e1, ws, sw, ds, ew, hlen, m0, m1, P, h0, hz, hs, hd⟩ => by
    subst ew
    cases sw with
    | cons sa sn =>
      cases sn
      cases sa with
      | @tup a xs _ ha k =>
      refine ⟨_, _, rfl, ex_t j1.up ha, fun Dd hD => ?_⟩
      have c := lc_ok o e1 j1 hD
      have wk : Walk (IteT K a) xs.length (fun H => SqT K H a xs) (fun i H v H' => ∃ T x, v = .ref T ∧ H T = none ∧ H' = upd H T (.tup [.int (i : Nat), x]) ∧ xs[i]? = some x) :=
        ⟨fun i H hi hq => ⟨xs, xs[i], hq, by simp [hi]⟩, fun H hq => ⟨xs, hq, Nat.le_refl _⟩, fun i H x H' hi hq ⟨T, y, e1, e2, e3, e4⟩ => ⟨T, y, e1, e2, e3, e4 xs hq⟩⟩
      refine lc_it wk (LcP K U L G1 Dd P) ?_ (fun i H' _ ⟨acc, ads, G', p, ka, e', j'⟩ => ex_t j'.up (ex_t e' ha)) (fun i x H' H'' hi ⟨acc, ads, G', p, ka, e', j'⟩ ⟨T, y, ex, hT, eH, hy⟩ => ?_) (fun H' hp => ?_)
      · obtain ⟨G', e', j'⟩ := lc_start (σ := σ) c j1 hD
        exact ⟨[], [], G', h0, .nil, e', j'⟩
      · obtain ⟨d, h1, h2⟩ := k.at hy
        have hil := (List.getElem?_eq_some_iff.mp h1).1
        subst ex eH
        have jT := j'.alloc (o := .tup [.int (i : Nat), y]) hT
        have eT : Ex G' (upd G' T (.tup [.int (i : Nat), y])) := Ex.new (j'.free hT)
        exact lc_env (e := .d (.tup [.int (i : Nat), d])) c.nl (c.lo o.lo (.ex (.lst acc))) (o.mono ((e1.trans e').trans eT)) (e'.trans eT) jT (Rp.tup (st_of upd_same) (.cons (.int _) (.cons ((h2.mono e').mono eT) .nil))) (ka.mono eT) (by have := hz i ads p; omega) (dgw_pair m0 m1 rfl (hs i d ads h1 p))
      · rw [k.len] at hp
        obtain ⟨G2, j2, r⟩ := lc_done c e1 hp hd
        exact q _ _ _ j2 r
/-- a map: the items told by the source's -/
theorem dn_mapL {α : Type} (xs : List α) (inj f : α → D) (h : DE K tl ρ fun e => e = .d (.lst (xs.map inj)) ∧ xs.length < 16000000 ∧ (∀ (i : Nat) x, xs[i]? = some x → DGW K g (.d (inj x)) vs ρ fun ρ2 => DE K te ρ2 fun y => y = .d (f x)) ∧ QN (xs.map f)) : DN K (tLc (iList K tl) g tYes te vs) ρ QN :=
  dn_lcL fun U σ L G o => (h U σ L G o).w fun v G1 ⟨e1, e, se, ee, hl, hs, hq⟩ => ⟨e1, e, se, xs.map inj, ee, by rw [List.length_map]; exact hl, fun i acc => i ≤ xs.length ∧ acc = (xs.take i).map f, ⟨Nat.zero_le _, rfl⟩, fun i acc ⟨p0, p⟩ => by rw [p, List.length_map, List.length_take]; omega, fun i d acc hd ⟨p0, p⟩ => by
    rw [List.getElem?_map] at hd
    obtain ⟨x, hx, rfl⟩ := Option.map_eq_some_iff.mp hd
    have hil := (List.getElem?_eq_some_iff.mp hx).1
    exact fun U σ L G v o s => (hs i x hx U σ L G v o s).w fun σ2 G2 ⟨hw, e2, ρ2, o2, k2⟩ => ⟨hw, e2, ρ2, o2, dt_yes (by
      rw [if_pos rfl]
      exact fun U σ L G o => (k2 U σ L G o).w fun y G3 ⟨e3, z, sz, ez⟩ => ⟨e3, z, sz, f x, ez, hil, by rw [p, List.take_add_one, hx]; simp⟩)⟩, fun acc ⟨_, p⟩ => by rw [List.length_map, List.take_length] at p; rw [p]; exact hq⟩
theorem dn_mapT {α : Type} (xs : List α) (inj f : α → D) (h : DE K tl ρ fun e => e = .d (.tup (xs.map inj)) ∧ xs.length < 16000000 ∧ (∀ (i : Nat) x, xs[i]? = some x → DGW K g (.d (inj x)) vs ρ fun ρ2 => DE K te ρ2 fun y => y = .d (f x)) ∧ QN (xs.map f)) : DN K (tLc (iTup K tl) g tYes te vs) ρ QN :=
  dn_lcT fun U σ L G o => (h U σ L G o).w fun v G1 ⟨e1, e, se, ee, hl, hs, hq⟩ => ⟨e1, e, se, xs.map inj, ee, by rw [List.length_map]; exact hl, fun i acc => i ≤ xs.length ∧ acc = (xs.take i).map f, ⟨Nat.zero_le _, rfl⟩, fun i acc ⟨p0, p⟩ => by rw [p, List.length_map, List.length_take]; omega, fun i d acc hd ⟨p0, p⟩ => by
    rw [List.getElem?_map] at hd
    obtain ⟨x, hx, rfl⟩ := Option.map_eq_some_iff.mp hd
    have hil := (List.getElem?_eq_some_iff.mp hx).1
    exact fun U σ L G v o s => (hs i x hx U σ L G v o s).w fun σ2 G2 ⟨hw, e2, ρ2, o2, k2⟩ => ⟨hw, e2, ρ2, o2, dt_yes (by
      rw [if_pos rfl]
      exact fun U σ L G o => (k2 U σ L G o).w fun y G3 ⟨e3, z, sz, ez⟩ => ⟨e3, z, sz, f x, ez, hil, by rw [p, List.take_add_one, hx]; simp⟩)⟩, fun acc ⟨_, p⟩ => by rw [List.length_map, List.take_length] at p; rw [p]; exact hq⟩
theorem dn_mapR1 (f : Nat → D) (h : DA K ta ρ fun ws => ∃ m : Int, ws = [.int m] ∧ 0 ≤ m ∧ m < 16000000 ∧ (∀ (i : Nat), (i : Int) < m → DGW K g (.d (.int (i : Int))) vs ρ fun ρ2 => DE K te ρ2 fun y => y = .d (f i)) ∧ QN ((List.range m.toNat).map f)) : DN K (tLc (iRng1 ta) g tYes te vs) ρ QN :=
  dn_lcR1 fun U σ L G o => (h U σ L G o).w fun v G1 ⟨e1, ws, sw, m, ew, b1, b2, hs, hq⟩ => ⟨e1, ws, sw, m, ew, b1, b2, fun i acc => acc = (List.range i).map f, rfl, fun i acc p => by rw [p]; simp, fun i acc hi p =>
    fun U σ L G v o s => (hs i hi U σ L G v o s).w fun σ2 G2 ⟨hw, e2, ρ2, o2, k2⟩ => ⟨hw, e2, ρ2, o2, dt_yes (by
      rw [if_pos rfl]
      exact fun U σ L G o => (k2 U σ L G o).w fun y G3 ⟨e3, z, sz, ez⟩ => ⟨e3, z, sz, f i, ez, by show acc ++ [f i] = (List.range (i + 1)).map f; rw [show acc = (List.range i).map f from p, List.range_succ]; simp⟩)⟩, fun acc p => by rw [p]; exact hq⟩
theorem dn_listL (h : DE K te ρ fun e => ∃ ds, (e = .d (.lst ds) ∨ e = .d (.tup ds)) ∧ QN ds) : DN K (tCB (rListQ K) (tCons te tNil)) ρ QN := fun U σ L G o =>
  em_cb (am_cons ((h U σ L G o).w fun v G1 ⟨e1, e, se, ds, ed, q⟩ => am_nil (by
    rcases ed with rfl | rfl
    · cases (se : Rp K G1 v (.lst ds)) with | lst x b => exact rm_list (.inl (sq_of x)) fun l G' n e g => ⟨l, _, ds, G1, rfl, e1, n, e, g, b, q⟩
    · cases (se : Rp K G1 v (.tup ds)) with | tup x b => exact rm_list (.inr x) fun l G' n e g => ⟨l, _, ds, G1, rfl, e1, n, e, g, b, q⟩)))
theorem dn_slL {tl th : TO} (h : DE K te ρ fun x => DO K tl ρ fun l => DO K th ρ fun u => ∃ ds, x = .d (.lst ds) ∧ QN (cutO ds l u)) : DN K (tSl (rSlL K) te tl th) ρ QN := fun U σ L G o =>
  em_sl ((h U σ L G o).w fun v G1 ⟨e1, x, sx, hx⟩ => (hx U σ L G1 (o.mono e1)).w fun l G2 ⟨e2, h2⟩ => (h2 U σ L G2 (o.mono (e1.trans e2))).w fun u G3 ⟨e3, ds, ed, k⟩ => by
    subst ed
    cases ((sx.mono e2).mono e3 : Rp K G3 v (.lst ds)) with
    | lst a b => exact rm_slL (sq_of a) fun p G' n e g => ⟨p, _, _, G3, rfl, (e1.trans e2).trans e3, n, e, g, b.cut l u, k⟩)
theorem dn_cat {ta tb : TE} (h : DE K ta ρ fun x => DE K tb ρ fun y => ∃ ds es, x = .d (.lst ds) ∧ y = .d (.lst es) ∧ ds.length + es.length ≤ sizeLine ∧ QN (ds ++ es)) : DN K (tOp rCat ta tb) ρ QN := fun U σ L G o =>
  em_op ((h U σ L G o).w fun v G1 ⟨e1, x, sx, hx⟩ => (hx U σ L G1 (o.mono e1)).w fun w G2 ⟨e2, y, sy, ds, es, ed, ee, hz, k⟩ => by
    subst ed ee
    cases (sx.mono e2 : Rp K G2 v (.lst ds)) with
    | lst a b =>
      cases (sy : Rp K G2 w (.lst es)) with
      | lst a' b' => exact rm_cat a a' (by rw [b.len, b'.len]; exact hz) fun p G' n e g => ⟨p, _, ds ++ es, G2, rfl, e1.trans e2, n, e, g, b'.app b, k⟩)
theorem lo_nil {U : Vx} : LOk U [] := ⟨fun _ h => by simp at h, fun _ _ _ h => by simp at h⟩
theorem env_flat {U : Vx} {ρ : List E} {σ : L2.St} {G : Hp} (len : σ.length = ρ.length) (sl : ∀ (i : Nat) (e : E), ρ[i]? = some e → ∃ o, σ[i]? = some o ∧ (e = .any ∨ ∃ v, o = some v ∧ e.free = true ∧ SlotV K U [] G e v)) (ge : Ex U.Ge G) : EnvOk K U ρ σ [] G :=
  ⟨len, ⟨fun _ => [], fun i e h => let ⟨o, h1, h2⟩ := sl i e h; ⟨o, h1, h2.elim (fun z => .inl ⟨z, rfl⟩) fun ⟨v, h3, f, h4⟩ => .inr ⟨v, h3, by obtain ⟨F, h5⟩ := h4.sv; have := sv_free f h5; subst this; exact h5⟩⟩, fun _ => List.nodup_nil, fun _ _ _ _ h => by simp at h, fun _ _ h => by simp at h⟩, lo_nil, ge⟩
/-! ### promises of defs -/
def spF {α : Type} (K : PySem.W.Frag) (args : α → List D) (pre : α → Prop) (R : α → D → Prop) : Sp := spA (fun x vs G => RpA K G vs (args x) ∧ pre x) (fun x v G' => ∃ d, R x d ∧ Rp K G' v d)
def spG {α : Type} (K : PySem.W.Frag) (args : α → List D) (pre : α → Prop) (res : α → D) : Sp := spA (fun x vs G => RpA K G vs (args x) ∧ pre x) (fun x v G' => Rp K G' v (res x))
def spS' {α : Type} (K : PySem.W.Frag) (args : α → List D) (pre : α → Prop) (R : α → D → Prop) : Sp := spSA K (fun x vs G => RpA K G vs (args x) ∧ pre x) (fun x v G' => ∃ d, R x d ∧ Rp K G' v d)
section
variable {α : Type} {args : α → List D} {pre : α → Prop} {R : α → D → Prop} {res : α → D} {ds : List D}
theorem dc_f (x : α) (h : ds = args x) (p : pre x) (k : ∀ d, R x d → Q (.d d)) : DC K (spF K args pre R) ds Q := fun U L G vs lo s => cm_a x ⟨h ▸ s, p⟩ fun v G' e ⟨d, r, rp⟩ => ⟨e, .d d, rp, k d r⟩
theorem dc_g (x : α) (h : ds = args x) (p : pre x) (k : Q (.d (res x))) : DC K (spG K args pre res) ds Q := fun U L G vs lo s => cm_a x ⟨h ▸ s, p⟩ fun v G' e rp => ⟨e, .d (res x), rp, k⟩
theorem start_env {N : List Str} {vs : List V} {G : Hp} {U : Vx} (ge : Ex U.Ge G) (s : RpA K G vs ds) : EnvOk K U (ds.map E.d ++ List.replicate (N.length - ds.length) E.any) (L2.start N vs) [] G := env_flat
  (by unfold L2.start; rw [List.length_append, List.length_append, List.length_map, List.length_map, List.length_replicate, List.length_replicate, s.len])
  (fun i e h => by
    unfold L2.start
    by_cases z : i < ds.length
    · rw [List.getElem?_append_left (by rw [List.length_map]; exact z), List.getElem?_map] at h
      obtain ⟨d, hd, rfl⟩ := Option.map_eq_some_iff.mp h
      obtain ⟨v, h1, h2⟩ := s.get hd
      exact ⟨some v, by rw [List.getElem?_append_left (by rw [List.length_map, s.len]; exact z), List.getElem?_map, h1]; rfl, .inr ⟨v, rfl, rfl, h2⟩⟩
    · rw [List.getElem?_append_right (by rw [List.length_map]; omega), List.length_map, List.getElem?_replicate] at h
      split at h
      · rename_i hl
        cases h
        exact ⟨none, by rw [List.getElem?_append_right (by rw [List.length_map, s.len]; omega), List.length_map, s.len, List.getElem?_replicate, if_pos hl], .inl rfl⟩
      · cases h) ge
theorem fn_f {N : List Str} {ts : TS} {vs : List V} {H : Hp} {QV : VK} {E' : XK} (h : spF K args pre R vs H QV E') (hb : ∀ x, pre x → DS K ts ((args x).map E.d ++ List.replicate (N.length - (args x).length) E.any) (fun _ => R x .non) (fun _ => False) (fun _ => False) (R x)) : ts { nx := fun _ H' => QV .non H', rt := QV } (L2.start N vs) H := by
  obtain ⟨x, G, e0, ⟨s, p⟩, q⟩ := h
  exact hb x p (V0 H G) _ [] G ⟨fun _ H' => QV .non H', QV, fun _ _ => False, fun _ _ => False⟩ (start_env (Ex.refl G) s)
    (fun ρ' σ' L' G' r o e H' j => q .non H' G' j.keep e j.unhides.up j.new ⟨.non, r, .non⟩) (fun _ _ _ _ z => z.elim) (fun _ _ _ _ z => z.elim)
    (fun d v L' G' r s' e lo H' j => q v H' G' j.keep e j.unhides.up j.new ⟨d, r, s'⟩) H (J.start e0).hides_nil
theorem fn_g {N : List Str} {ts : TS} {vs : List V} {H : Hp} {QV : VK} {E' : XK} (h : spG K args pre res vs H QV E') (hb : ∀ x, pre x → DS K ts ((args x).map E.d ++ List.replicate (N.length - (args x).length) E.any) (fun _ => .non = res x) (fun _ => False) (fun _ => False) (fun d => d = res x)) : ts { nx := fun _ H' => QV .non H', rt := QV } (L2.start N vs) H := by
  obtain ⟨x, G, e0, ⟨s, p⟩, q⟩ := h
  exact hb x p (V0 H G) _ [] G ⟨fun _ H' => QV .non H', QV, fun _ _ => False, fun _ _ => False⟩ (start_env (Ex.refl G) s)
    (fun ρ' σ' L' G' r o e H' j => q .non H' G' j.keep e j.unhides.up j.new (by show Rp K G' .non (res x); rw [← r]; exact .non)) (fun _ _ _ _ z => z.elim) (fun _ _ _ _ z => z.elim)
    (fun d v L' G' r s' e lo H' j => q v H' G' j.keep e j.unhides.up j.new (by show Rp K G' v (res x); rw [← r]; exact s')) H (J.start e0).hides_nil
theorem len_f {vs : List V} {H : Hp} {QV : VK} {E' : XK} {n : Nat} (h : spF K args pre R vs H QV E') (hn : ∀ x, (args x).length = n) : vs.length = n := by
  obtain ⟨x, G, e0, ⟨s, p⟩, q⟩ := h
  rw [s.len, hn]
theorem len_g {vs : List V} {H : Hp} {QV : VK} {E' : XK} {n : Nat} (h : spG K args pre res vs H QV E') (hn : ∀ x, (args x).length = n) : vs.length = n := by
  obtain ⟨x, G, e0, ⟨s, p⟩, q⟩ := h
  rw [s.len, hn]
end
/-- from a range's end -/
theorem ds_forRev1 (h : DE K te ρ fun e => IE e fun m => -(2 ^ 62) ≤ m ∧ m < 2 ^ 62 ∧ ∃ I : Nat → List E → Prop, Wk (I 0) ρ ∧ (∀ (i : Nat) ρ', i < m.toNat → I i ρ' → DG K g (.d (.int ((m.toNat : Int) - 1 - (i : Int)))) ρ' fun ρ2 => DS K ts ρ2 (Wk (I (i + 1))) N (Wk (I (i + 1))) R) ∧ ∀ ρ', I m.toNat ρ' → N ρ') : DS K (tFor (iRevR (tRg1 te)) g ts) ρ N B C R := fun U σ L G Dn o n b c r H j =>
  h U σ L G o H j _ fun v H1 G1 j1 ⟨e1, x, sx, m, ew, b1, b2, I, ⟨ρ0, le0, h0⟩, hs, hd⟩ => by
    subst ew
    cases (sx : Rp K G1 v (.int m))
    have em : (m - 0).toNat = m.toNat := by rw [Int.sub_zero]
    refine ⟨m, rfl, by omega, by omega, b1, b2, ?_⟩
    rw [em]
    refine for_rangeC (n := m.toNat) (fun i σ' H' => ∃ ρ' L' G', I i ρ' ∧ EnvOk K U ρ' σ' L' G' ∧ Ex G1 G' ∧ J (U.hides L') H' G') ⟨ρ0, L, G1, h0, (o.mono e1).le le0, Ex.refl _, j1⟩ (fun i σ' H' hi ⟨ρ', L', G', p, o', e', j'⟩ => ?_) (fun σ' H' ⟨ρ', L', G', p, o', e', j'⟩ => n ρ' σ' L' G' (hd ρ' p) o' (e1.trans e') H' j')
    have e0 : (0 : Int) + (m.toNat : Int) - 1 + (i : Nat) * (-1) = (m.toNat : Int) - 1 - (i : Int) := by omega
    rw [e0]
    exact loop_env (n.mono e1) (r.mono e1) o' e' j' (e := .d (.int ((m.toNat : Int) - 1 - (i : Int)))) (Rp.int _) (hs i ρ' hi p)
section
variable {α : Type} {args : α → List D} {pre : α → Prop} {R : α → D → Prop} {res : α → D} {ds : List D}
/-! ### the law's own defs that draw -/
def DCS (K : PySem.W.Frag) (sp : Sp) (ds : List D) (Q : E → Prop) : Prop := ∀ U L G st sc (ns : List Int) vs, LOk U L → DrawOk U st → SqL K G sc (ns.map V.int) → RpA K G vs ds → CM (U.hides L) sp (.ref st :: .ref sc :: vs) G (Po K U L G Q)
theorem de_callS {i j : Nat} {sp : Sp} {E' : XK} (h1 : ρ[i]? = some .st) (h2 : ρ[j]? = some .sc) (h : DA K tr ρ fun ds => DCS K sp ds Q) : DE K (tCall sp [] E' (tCons (tVar i) (tCons (tVar j) tr))) ρ Q := fun U σ L G o => by
  obtain ⟨v, h3, a, rfl, hd⟩ := o.at h1 rfl
  obtain ⟨w, h4, b, ns, rfl, hs⟩ := o.at h2 rfl
  refine em_call (am_cons (em_var h3 (am_cons (em_var h4 ((h U σ L G o).w fun vs G1 ⟨e1, ds, sd, k⟩ => ?_)))))
  exact (k U L G1 a b ns vs o.lo hd (ex_l e1 hs) sd).w fun z G3 ⟨e3, k⟩ => ⟨e1.trans e3, k⟩
theorem dcs_draw {sz : Int} (h0 : 0 < sz) (hz : sz.natAbs.log2 < 9000) (k : ∀ n : Int, 0 ≤ n → n < sz → Q (.d (.int n))) : DCS K (spDraw K) [.int sz] Q := fun U L G st sc ns vs lo hd hs s => by
  cases s with
  | cons a b => cases b; cases a; exact cm_draw (hd.hides lo) hs h0 hz fun n n0 n1 => ⟨Ex.refl G, .d (.int n), Rp.int _, k n n0 n1⟩
theorem dcs_f (x : α) (h : ds = args x) (p : pre x) (k : ∀ d, R x d → Q (.d d)) : DCS K (spS' K args pre R) ds Q := fun U L G st sc ns vs lo hd hs s => cm_sa x (hd.hides lo) hs ⟨h ▸ s, p⟩ fun v G' e ⟨d, r, rp⟩ => ⟨e, .d d, rp, k d r⟩
theorem len_s {vs : List V} {H : Hp} {QV : VK} {E' : XK} {n : Nat} (h : spS' K args pre R vs H QV E') (hn : ∀ x, (args x).length + 2 = n) : vs.length = n := by
  obtain ⟨x, st, sc, ns, rest, G, rfl, _, _, _, _, ⟨s, p⟩, q⟩ := h
  rw [List.length_cons, List.length_cons, s.len, hn]
theorem fn_s {N : List Str} {ts : TS} {vs : List V} {H : Hp} {QV : VK} {E' : XK} (h : spS' K args pre R vs H QV E') (hb : ∀ x, pre x → DS K ts (.st :: .sc :: ((args x).map E.d ++ List.replicate (N.length - (args x).length - 2) E.any)) (fun _ => R x .non) (fun _ => False) (fun _ => False) (R x)) : ts { nx := fun _ H' => QV .non H', rt := QV } (L2.start N vs) H := by
  obtain ⟨x, st, sc, ns, rest, G, rfl, hst, gst, e0, hsc, ⟨s, p⟩, q⟩ := h
  have nst : ∀ {σ' : L2.St} {L' : Ow} {H' G' : Hp}, J ((VS st H G).hides L') H' G' → G' st = none := fun j => (j.msk st (.inl rfl)).1
  have fin : ∀ {v : V} {L' : Ow} {H' G' : Hp} {d : D}, J ((VS st H G).hides L') H' G' → Ex G G' → R x d → Rp K G' v d → QV v H' := fun {v L' H' G' d} j e r s' =>
    kv_s (p := fun v G' => ∃ d, R x d ∧ Rp K G' v d) (Q := QV) (fun v H' G' a b c dd ee ff g => q v H' G' a b c dd ee ff g) e ⟨d, r, s'⟩ H' j.unhides
  refine hb x p (VS st H G) _ [] G ⟨fun _ H' => QV .non H', QV, fun _ _ => False, fun _ _ => False⟩ ?_
    (fun ρ' σ' L' G' r o e H' j => fin j e r .non) (fun _ _ _ _ z => z.elim) (fun _ _ _ _ z => z.elim)
    (fun d v L' G' r s' e lo H' j => fin j e r s') H (VS.start hst gst e0).hides_nil
  have o := start_env (K := K) (N := N.drop 2) (U := V0 H G) (Ex.refl G) s
  have hl : L2.start N (.ref st :: .ref sc :: rest) = some (.ref st) :: some (.ref sc) :: (rest.map some ++ List.replicate (N.length - (rest.length + 2)) none) := rfl
  have e1 : L2.start (N.drop 2) rest = rest.map some ++ List.replicate (N.length - (rest.length + 2)) none := by
    unfold L2.start; rw [List.length_drop]; congr 2; omega
  have e2 : (args x).map E.d ++ List.replicate (N.length - (args x).length - 2) E.any = (args x).map E.d ++ List.replicate ((N.drop 2).length - (args x).length) E.any := by
    rw [List.length_drop]; congr 2; omega
  rw [hl, ← e1, e2]
  refine env_flat (by rw [List.length_cons, List.length_cons, o.len]; rfl) (fun i e h => ?_) (Ex.refl G)
  match i with
  | 0 => cases h; exact ⟨_, rfl, .inr ⟨_, rfl, rfl, st, rfl, VS.draw⟩⟩
  | 1 => cases h; exact ⟨_, rfl, .inr ⟨_, rfl, rfl, sc, ns, rfl, hsc⟩⟩
  | i + 2 =>
    obtain ⟨fp, of⟩ := o.fs
    obtain ⟨u, h1, h2⟩ := of.sl i e h
    refine ⟨u, h1, h2.elim (fun z => .inl z.1) fun ⟨v, h3, h4⟩ => ?_⟩
    have hm : e ∈ (args x).map E.d ++ List.replicate ((N.drop 2).length - (args x).length) E.any := List.mem_of_getElem? h
    cases e with
    | any => exact .inl rfl
    | d d => exact .inr ⟨v, h3, rfl, h4.slot⟩
    | own ds => simp at hm
    | dic ks ds => simp at hm
    | ob C ks ds => simp at hm
    | lo ds => simp at hm
    | st => simp at hm
    | sc => simp at hm
    | cd d cs => simp at hm
    | oa a w => simp at hm
    | nd ad d ws => simp at hm
end
/-! ### the law -/
def sp_lawD (K : PySem.W.Frag) : Sp := fun vs H Q _ => ∃ (a : Addr) (ns : List Int), vs = [.ref a] ∧ SqL K H a (ns.map V.int) ∧ ns.length ≤ 63 ∧ ∀ H', Q (.bl true) H'
theorem len_law {vs : List V} {H : Hp} {QV : VK} {E' : XK} (h : sp_lawD K vs H QV E') : vs.length = 1 := by
  obtain ⟨a, ns, rfl, _⟩ := h
  rfl
theorem fn_law {Nm : List Str} {ts : TS} {vs : List V} {H : Hp} {QV : VK} {E' : XK} {i : Nat} (h : sp_lawD K vs H QV E') (hi : 1 ≤ i) (hl : i < Nm.length) (hb : DS K ts ((E.sc :: List.replicate (Nm.length - 1) E.any).set i .st) (fun _ => False) (fun _ => False) (fun _ => False) (fun d => d = .bl true)) :
    (tSeq (tAsg (tLst (tCons (tC (.int 0)) (tCons (tC (.int 0)) tNil))) (gName i)) ts) { nx := fun _ H' => QV .non H', rt := QV } (L2.start Nm vs) H := by
  obtain ⟨sc, ns, rfl, hS, _, q⟩ := h
  refine (show SM (V0 H H) _ _ _ H from ?_) H (J.start (Ex.refl H))
  refine sm_seq (sm_asg (em_lst (am_cons (em_c (am_cons (em_c (am_nil ?_)))))))
  refine ⟨by show 2 ≤ sizeLine; decide, fun st G1 gs e1 gst => ?_⟩
  refine gm_name (km_next (sm_draws gst gs fun G2 k2 hs g2 => ?_))
  have e2 : Ex H G2 := same_of gs e1 k2
  intro H' j
  refine hb (V1 H H st) _ [] G2 ⟨fun _ H' => QV .non H', QV, fun _ _ => False, fun _ _ => False⟩ ?_ (fun _ _ _ _ z => z.elim) (fun _ _ _ _ z => z.elim) (fun _ _ _ _ z => z.elim) (fun d v L' G' r s' e lo H' j => by subst r; cases s'; exact q H') H' j.hides_nil
  refine env_flat (by show ((L2.start Nm [V.ref sc]).set i (some (.ref st))).length = _; unfold L2.start; simp) (fun j e h => ?_) e2
  show ∃ o, ((L2.start Nm [V.ref sc]).set i (some (.ref st)))[j]? = some o ∧ _
  by_cases z : i = j
  · subst z
    rw [List.getElem?_set_self (by simp; omega)] at h
    cases h
    exact ⟨_, List.getElem?_set_self (by unfold L2.start; simp; omega), .inr ⟨_, rfl, rfl, st, rfl, V1.draw gs⟩⟩
  · rw [List.getElem?_set_ne z] at h ⊢
    match j with
    | 0 => cases h; exact ⟨_, rfl, .inr ⟨_, rfl, rfl, sc, ns, rfl, ex_l e2 hS⟩⟩
    | j + 1 =>
      have h' : (List.replicate (Nm.length - 1) E.any)[j]? = some e := h
      rw [List.getElem?_replicate] at h'
      split at h'
      · rename_i hl
        cases h'
        exact ⟨none, by show (List.replicate (Nm.length - 1) none)[j]? = _; rw [List.getElem?_replicate, if_pos hl], .inl rfl⟩
      · cases h'
end
end Wp

set_option Elab.async false
set_option linter.all false
set_option maxRecDepth 100000
set_option maxHeartbeats 4000000
namespace Wp
section
open PySem PySem.Spec PyProof.Rows HT L2
variable {prog : Program} {w : World} {A : Around} {E : Value → Shared → Prop} {s : Shared}
theorem adjust_rev (n : Nat) : Builtin.Slice.sliceAdjust none none (-1) (n : Int) = ((n : Int) - 1, -1) := by
  unfold Builtin.Slice.sliceAdjust
  simp
theorem places_rev (n : Nat) : Builtin.Slice.slicePlaces ((n : Int) - 1) (-1) (-1) = n := by
  unfold Builtin.Slice.slicePlaces
  simp
  all_goals omega
theorem sliceApplied_rev {sl : Addr} {vl vu vs : Value} {n : Nat} {Q : Int × Int × Nat → Shared → Prop} (hs : s.heap.IsSliceOf sl vl vu vs) (pl : IsPart vl none) (pu : IsPart vu none) (ps : IsPart vs (some (-1)))
    (h : Q ((n : Int) - 1, -1, n) s) : wpAny (model prog w) A (Builtin.Slice.sliceApplied (.ref sl) (pure (n : Int))) Q E s := by
  obtain ⟨os, hos, hcs, hds⟩ := id hs
  unfold Builtin.Slice.sliceApplied Builtin.Slice.sliceFields
  refine wpAny_bind (wpAny_bind (wpAny_field hos hds (x := vl) rfl (wpAny_bind (wpAny_field hos hds (x := vu) rfl (wpAny_bind (wpAny_field hos hds (x := vs) rfl (wpAny_pure ?_)))))))
  refine wpAny_bind (slicePart_ ps ?_)
  show wpAny _ _ (if ((-1 : Int) == 0) = true then _ else _) _ _ s
  rw [if_neg (by decide)]
  refine wpAny_bind (slicePart_ pl (wpAny_bind (slicePart_ pu (wpAny_bind (wpAny_pure ?_)))))
  show wpAny _ _ (match Builtin.Slice.sliceAdjust none none (-1) (n : Int) with | (lo, hi) => pure (lo, (-1 : Int), Builtin.Slice.slicePlaces lo hi (-1))) _ _ s
  rw [adjust_rev n]
  show wpAny _ _ (pure ((n : Int) - 1, (-1 : Int), Builtin.Slice.slicePlaces ((n : Int) - 1) (-1) (-1))) _ _ s
  rw [places_rev]
  exact wpAny_pure h
theorem pick_rev (xs : Array Value) : ((List.range xs.size).filterMap fun (k : Nat) => xs[((xs.size : Int) - 1 + (k : Int) * -1).toNat]?).toArray = xs.toList.reverse.toArray := by
  have e : (fun (k : Nat) => xs[((xs.size : Int) - 1 + (k : Int) * -1).toNat]?) = (xs[·]?) ∘ fun k => xs.size - 1 - k := by
    funext k
    have : ((xs.size : Int) - 1 + (k : Int) * -1).toNat = xs.size - 1 - k := by omega
    rw [this]; rfl
  rw [e, ← List.filterMap_map, PySem.W.krv_range, List.filterMap_reverse, PySem.W.krv_all]
theorem getItem_tuple_rev {t sl : Addr} {items : Array Value} {vl vu vs : Value} {Q : Value → Shared → Prop} (ht : IsTup s.heap t items) (hs : s.heap.IsSliceOf sl vl vu vs) (pl : IsPart vl none) (pu : IsPart vu none) (ps : IsPart vs (some (-1)))
    (h : Q (.ref s.heap.objs.size) { s with heap := s.heap.push { cls := .type "tuple", data := .seq items.toList.reverse.toArray } })
    (hsz : items.size ≤ sizeLine) : wpAny (model prog w) A (getItem (.ref t) (.ref sl)) Q E s := by
  have htake : sizeOk (.seq items.toList.reverse.toArray) := by
    show items.toList.reverse.toArray.size ≤ sizeLine
    rw [List.size_toArray, List.length_reverse, Array.length_toList]
    omega
  obtain ⟨os, hos, hcs, hds⟩ := id hs
  have hTs : s.TypeIs (.ref sl) "slice" := ⟨os, hos, hcs⟩
  unfold getItem
  try with_reducible refine wpAny_holding ?_
  first | refine wpAny_bind (wpAny_pure ?_) | skip
  refine wpAny_bind (wpAny_sequenceKey ht.typeIs (by decide) ?_)
  refine wpAny_bind (wpAny_callSpecial?_slot (name := Str.ofString "__getitem__") ht.typeIs PyProof.Rows.slot_tuple_getitem
    (wpAny_call_entry PyProof.Rows.slot_tuple_getitem ht.typeIs entry_tuple_getitem ?_ (args_tuple_getitem _ _)))
  show wpAny _ _ (Builtin.Tuple.tupleItemsOf (.ref t) >>= _) _ _ s
  refine wpAny_bind (tupleItemsOf_ ht ?_)
  refine wpAny_bind (wpAny_typeOf hTs ?_)
  rw [if_pos (by decide)]
  refine wpAny_bind (sliceApplied_rev hs pl pu ps ?_)
  have hno : ¬ (((items.size : Int) - 1 == 0 && (-1 : Int) == 1 && items.size == items.size) = true) := by simp
  show wpAny _ _ (if ((items.size : Int) - 1 == 0 && (-1 : Int) == 1 && items.size == items.size) = true then _ else _) _ _ s
  rw [if_neg hno, pick_rev]
  first
    | exact wpAny_bind (m := Builtin.Tuple.tupleExact _) (wpAny_newObj_type (wpAny_pure ⟨_, rfl, wpAny_pure h⟩) htake)
    | exact wpAny_bind (m := Builtin.Tuple.tupleExact _) (wpAny_newObj_type (wpAny_bind (wpAny_pure (wpAny_pure ⟨_, rfl, wpAny_pure h⟩))) htake)
    | exact wpAny_bind (wpAny_bind (m := Builtin.Tuple.tupleExact _) (wpAny_newObj_type (wpAny_pure (wpAny_pure ⟨_, rfl, wpAny_pure h⟩)) htake))
    | exact wpAny_bind (wpAny_bind (m := Builtin.Tuple.tupleExact _) (wpAny_newObj_type (wpAny_pure ⟨_, rfl, wpAny_pure h⟩) htake))
/-- xs[::-1] of a list or a tuple -/
def tRevS (K : PySem.W.Frag) (te : TE) : TE := fun σ H Q => te σ H fun x H1 => ∃ a xs, x = .ref a ∧ ((SqL K H1 a xs ∧ ∀ p, H1 p = none → Q (.ref p) (upd H1 p (.lst xs.reverse))) ∨ (SqT K H1 a xs ∧ ∀ p, H1 p = none → Q (.ref p) (upd H1 p (.tup xs.reverse))))
theorem pe_revS {X : Cx} {K : PySem.W.Frag} {e : Expr} {te : TE} {k : Nat} {p1 p2 p3 pos : Pos} (he : PE X e te) (hK : X.K = K := by rfl) : PE X (.Subscript e (.Slice none none (some (.UnaryOp .USub (.Constant (.int 1) k p1) p2)) p3) pos) (tRevS K te) := by
  subst hK
  refine ⟨fun pins s σ H Q I h => ?_⟩
  refine Subscript_ (thn (he.run pins s σ H _ I h) fun v s1 ⟨x, H1, I1, r1, q1⟩ => ?_)
  obtain ⟨a, xs, ex, hq⟩ := q1
  subst ex
  cases r1
  have hst : PO X (some (.UnaryOp .USub (.Constant (.int 1) k p1) p2)) (tPart (tUn (rU fun i => .int (-i)) (tC (.int 1)))) := po_some (pe_un un_neg pe_int)
  refine wpAny_Slice (thn (po_none.run pins s1 σ H1 (fun o H2 => o = none ∧ H2 = H1) I1 ⟨rfl, rfl⟩) fun vl s2 ⟨l, H2, I2, pl, el, e2⟩ => ?_)
  subst el e2
  refine thn (po_none.run pins s2 σ H2 (fun o H3 => o = none ∧ H3 = H2) I2 ⟨rfl, rfl⟩) fun vu s3 ⟨u, H3, I3, pu, eu, e3⟩ => ?_
  subst eu e3
  refine thn (hst.run pins s3 σ H3 (fun o H4 => o = some (-1) ∧ H4 = H3) I3 ⟨1, rfl, -1, rfl, rfl, rfl⟩) fun vs s4 ⟨o, H4, I4, ps, eo, e4⟩ => ?_
  subst eo e4
  have I5 : Inv X pins σ H4 { s4 with heap := s4.heap.push { cls := .type "slice", data := .fields #[vl, vu, vs] } } := I4.kept (t' := s4.toks) fun b ob q => Heap.get?_push_of_some _ q
  show wpAny (model X.prog X.w) X.A (subscriptTail e (.Slice none none (some (.UnaryOp .USub (.Constant (.int 1) k p1) p2)) p3) (.ref a) (.ref s4.heap.objs.size)) (EP X pins σ Q) X.xe { s4 with heap := s4.heap.push { cls := .type "slice", data := .fields #[vl, vu, vs] } }
  rcases hq with ⟨hx, q⟩ | ⟨hx, q⟩
  · obtain ⟨its, r, ht, hz⟩ := I5.list hx
    have hlen := r.length
    refine tail_any (ops := [.ref a, .ref s4.heap.objs.size]) ht.isList.typeIs (PySem.slot_list_getitem.lookup) ?_ (by with_unfolding_all rfl)
    refine wpAny_getItem_list_slice ht.isList (Heap.IsSliceOf.new _ vl vu vs) pl pu ps (by decide) ?_ (by rw [List.size_toArray]; omega)
    rw [PySem.W.krv_pick]
    refine ⟨.ref _, _, I5.laid (t' := s4.toks) (o := .lst xs.reverse) (fun b ob q => Heap.get?_push_of_some _ q) (Nat.le_refl _) ?_, rfl, q _ (I5.hok.fresh (Nat.le_refl _))⟩
    exact ⟨by rw [List.length_reverse]; exact hz, _, 0, r.reverse, Heap.get?_push_size _ rfl⟩
  · obtain ⟨its, r, ht, hz⟩ := I5.tuple hx
    have hlen : its.toArray.size = xs.length := by rw [List.size_toArray]; exact r.length.symm
    refine tail_any (ops := [.ref a, .ref s4.heap.objs.size]) ht.typeIs PyProof.Rows.slot_tuple_getitem.lookup ?_ (by with_unfolding_all rfl)
    refine getItem_tuple_rev ht (Heap.IsSliceOf.new _ vl vu vs) pl pu ps ?_ (by rw [hlen]; exact hz)
    refine ⟨.ref _, _, I5.laid (t' := s4.toks) (o := .tup xs.reverse) (fun b ob q => Heap.get?_push_of_some _ q) (Nat.le_refl _) ?_, rfl, q _ (I5.hok.fresh (Nat.le_refl _))⟩
    exact ⟨by rw [List.length_reverse]; exact hz, _, r.reverse, IsTup.new _ _⟩
end
section
open PySem L2 Evl StX
variable {K : PySem.W.Frag} {ρ : List E} {te tl : TE} {tt : TT} {g : TG} {ts : TS} {N B C : List E → Prop} {R : D → Prop} {Q : E → Prop} {QN : List D → Prop} {vs : List Nat}
theorem de_revS (h : DE K te ρ fun x => (∃ ds, x = .d (.lst ds) ∧ Q (.d (.lst ds.reverse))) ∨ (∃ ds, x = .own ds ∧ Q (.d (.lst ds.reverse))) ∨ ∃ ds, x = .d (.tup ds) ∧ Q (.d (.tup ds.reverse))) : DE K (tRevS K te) ρ Q := fun U σ L G o H j QH q =>
  h U σ L G o H j _ fun v H1 G1 j1 ⟨e1, x, sx, hd⟩ => by
    rcases hd with ⟨ds, rfl, k⟩ | ⟨ds, rfl, k⟩ | ⟨ds, rfl, k⟩
    · cases (sx : Rp K G1 v (.lst ds)) with
      | lst a b => exact ⟨_, _, rfl, .inl ⟨ex_l j1.up (sq_of a), fun l hl => q _ _ _ (j1.alloc hl) ⟨e1.trans (Ex.new (j1.free hl)), .d (.lst ds.reverse), .lst upd_same (b.mono (Ex.new (j1.free hl))).rev, k⟩⟩⟩
    · obtain ⟨a, vs, rfl, hm, b⟩ := sx
      exact ⟨_, _, rfl, .inl ⟨sq_of (j1.at hm), fun l hl => q _ _ _ (j1.alloc hl) ⟨e1.trans (Ex.new (j1.free hl)), .d (.lst ds.reverse), .lst upd_same (b.mono (Ex.new (j1.free hl))).rev, k⟩⟩⟩
    · cases (sx : Rp K G1 v (.tup ds)) with
      | tup a b => exact ⟨_, _, rfl, .inr ⟨ex_t j1.up a, fun l hl => q _ _ _ (j1.alloc hl) ⟨e1.trans (Ex.new (j1.free hl)), .d (.tup ds.reverse), .tup (st_of upd_same) (b.mono (Ex.new (j1.free hl))).rev, k⟩⟩⟩
theorem ki_zip {X : Cx} {e e2 : Expr} {ta : TA} {p pos tpos : Pos} {elts : List Expr} {kk : Nat} (hg : Gl X "zip") (hm : X.mg "zip" = none) (ha : PA X [e, e2] ta) (h : X.K = K := by rfl)
    (hs : starEach [e, e2] X.env = (false, eval e X.env) :: starEach [e2] X.env := by rfl) (hpl : (backTo pos (starEach [e2] X.env)).any (·.1) = false := by rfl) :
    PI X (.Tuple elts kk tpos) (.Call (.Name "zip" p) [e, e2] [] pos) (iZip K ta) := by subst h; exact pi_zip hg hm ha hs hpl
/-- for x, y in zip(two lists) -/
theorem ds_forZ {ta : TA} (h : DA K ta ρ fun ws => ∃ ds es, ws = [.lst ds, .lst es] ∧ ∃ I : Nat → List E → Prop, Wk (I 0) ρ ∧ (∀ (i : Nat) d e ρ', ds[i]? = some d → es[i]? = some e → I i ρ' → DG K g (.d (.tup [d, e])) ρ' fun ρ2 => DS K ts ρ2 (Wk (I (i + 1))) N (Wk (I (i + 1))) R) ∧ ∀ ρ', I (min ds.length es.length) ρ' → N ρ') : DS K (tFor (iZip K ta) g ts) ρ N B C R := fun U σ L G Dn o n b c r H j =>
  h U σ L G o H j _ fun vs H1 G1 j1 ⟨e1, ws, sw, ds, es, ew, I, ⟨ρ0, le0, h0⟩, hs, hd⟩ => by
    subst ew
    cases sw with
    | cons sa sn =>
      cases sn with
      | cons sb sn =>
        cases sn
        cases sa with
        | @lst a xs _ ha k =>
          cases sb with
          | @lst b' ys _ hb' k' =>
            have wk : Walk (Itz K a b') (min xs.length ys.length) (fun H => SqL K H a xs ∧ SqL K H b' ys) (fun i H v H' => ∃ T x y, v = .ref T ∧ H T = none ∧ H' = upd H T (.tup [x, y]) ∧ xs[i]? = some x ∧ ys[i]? = some y) :=
              ⟨fun i H hi ⟨hq, hr⟩ => ⟨xs, ys, xs[i]'(by omega), ys[i]'(by omega), hq, hr, List.getElem?_eq_getElem (by omega), List.getElem?_eq_getElem (by omega)⟩, fun H ⟨hq, hr⟩ => ⟨xs, ys, hq, hr, by omega⟩, fun i H x H' hi ⟨hq, hr⟩ ⟨T, x1, y1, f1, f2, f3, f4, f5⟩ => ⟨T, x1, y1, f1, f2, f3, f4 xs hq, f5 ys hr⟩⟩
            refine ⟨a, b', xs, ys, rfl, sq_of (j1.up _ _ ha), sq_of (j1.up _ _ hb'), for_it wk (fun i σ' H' => ∃ ρ' L' G', I i ρ' ∧ EnvOk K U ρ' σ' L' G' ∧ Ex G1 G' ∧ J (U.hides L') H' G') ⟨ρ0, L, G1, h0, (o.mono e1).le le0, Ex.refl _, j1⟩ (fun i σ' H' _ ⟨ρ', L', G', p, o', e', j'⟩ => ⟨sq_of (j'.up _ _ (e' _ _ ha)), sq_of (j'.up _ _ (e' _ _ hb'))⟩) (fun i x σ' H' H'' hi ⟨ρ', L', G', p, o', e', j'⟩ ⟨T, x1, y1, ex, hT, eH, hx, hy⟩ => ?_) (fun σ' H' ⟨ρ', L', G', p, o', e', j'⟩ => ?_)⟩
            · subst ex eH
              obtain ⟨d, d1, d2⟩ := k.at hx
              obtain ⟨e, q1, q2⟩ := k'.at hy
              have eT : Ex G' (upd G' T (.tup [x1, y1])) := Ex.new (j'.free hT)
              exact loop_env (n.mono e1) (r.mono e1) (o'.mono eT) (e'.trans eT) (j'.alloc hT) (e := .d (.tup [d, e])) (Rp.tup (st_of upd_same) (.cons ((d2.mono e').mono eT) (.cons ((q2.mono e').mono eT) .nil))) (hs i d e ρ' d1 q1 p)
            · rw [k.len, k'.len] at p; exact n ρ' σ' L' G' (hd ρ' p) o' (e1.trans e') H' j'
/-- name += e, name -= e -/
theorem ds_aug {i : Nat} {f : Int → Int → Int} (h : ∃ n, ρ[i]? = some (.d (.int n)) ∧ DE K te ρ fun e => IE e fun m => SetTo ρ i (.d (.int (f n m))) N) : DS K (tAug i te (ipI f)) ρ N B C R := fun U σ L G Dn o n b c r H j => by
  obtain ⟨k, h1, h2⟩ := h
  obtain ⟨v, h3, h4⟩ := o.at h1 rfl
  cases (h4 : Rp K G v (.int k))
  refine ⟨_, h3, h2 U σ L G o H j _ fun y H1 G1 j1 ⟨e1, x, sx, m, ex, ρ', hr, kn⟩ => ?_⟩
  subst ex hr
  cases (sx : Rp K G1 y (.int m))
  exact ⟨_, _, rfl, rfl, n _ _ _ _ kn ((o.mono e1).set (e := .d (.int (f k m))) rfl (Rp.int _)) e1 H1 j1⟩
/-! ### a list or a tuple -/
def rIxS (K : PySem.W.Frag) : R2 := fun x y H Q => rIxL K x y H Q ∨ rIxT K x y H Q
theorem kx_seq {X : Cx} (h : X.K = K := by rfl) : IxR X (rIxS K) := by
  subst h
  intro value slice pins s σ H x y v u Q I rx ry hq hs
  exact hq.elim (fun z => ix_list value slice pins s σ H x y v u Q I rx ry z hs) (fun z => ix_tup value slice pins s σ H x y v u Q I rx ry z hs)
theorem dr_ixSL {ds : List D} {i : Int} (h : ∃ d, atI ds i = some d ∧ Q (.d d)) : DR K (rIxS K) (.d (.lst ds)) (.d (.int i)) Q := fun U L G v w lo sx sy H j QH q => .inl (dr_ixL h U L G v w lo sx sy H j QH q)
theorem dr_ixST {ds : List D} {i : Int} (h : ∃ d, atI ds i = some d ∧ Q (.d d)) : DR K (rIxS K) (.d (.tup ds)) (.d (.int i)) Q := fun U L G v w lo sx sy H j QH q => .inr (dr_ixT h U L G v w lo sx sy H j QH q)
def rSlS (K : PySem.W.Frag) : V → Option Int → Option Int → Hp → VK → Prop := fun x lo hi H Q => rSlL K x lo hi H Q ∨ rSlA K x lo hi H Q
theorem kl_seq {X : Cx} (h : X.K = K := by rfl) : SlR X (rSlS K) := by subst h; exact SlR.or sl_list sl_tupA
theorem kl_tupA {X : Cx} (h : X.K = K := by rfl) : SlR X (rSlA K) := by subst h; exact sl_tupA
theorem kp_catA {X : Cx} (h : X.K = K := by rfl) : OpR X (binaryOp .Add) (rCatA K) := by subst h; exact op_catA
theorem cut_whole {ds : List D} {lo hi : Option Int} (h : HT.sIx ds.length 0 lo = 0 ∧ HT.sIx ds.length ds.length hi = ds.length) : cutO ds lo hi = ds := by
  unfold cutO
  rw [h.1, h.2, List.drop_zero, Nat.sub_zero, List.take_length]
theorem dsl_A {ds : List D} {lo hi : Option Int} (k : Q (.d (.tup (cutO ds lo hi)))) : DSl K (rSlA K) (.d (.tup ds)) lo hi Q := fun U L G v _ sx H j QH q => by
  cases (sx : Rp K G v (.tup ds)) with
  | tup a b =>
    refine ⟨_, _, rfl, ex_t j.up a, fun h => ?_, fun h p hp => ?_⟩
    · rw [b.len] at h
      exact q _ _ _ j ⟨Ex.refl G, .d (.tup (cutO ds lo hi)), by rw [cut_whole h]; exact .tup a b, k⟩
    · exact q _ _ _ (j.alloc hp) ⟨Ex.new (j.free hp), .d (.tup (cutO ds lo hi)), .tup (st_of upd_same) ((b.mono (Ex.new (j.free hp))).cut lo hi), k⟩
theorem dsl_SL {ds : List D} {lo hi : Option Int} (k : Q (.d (.lst (cutO ds lo hi)))) : DSl K (rSlS K) (.d (.lst ds)) lo hi Q := fun U L G v lo' sx H j QH q => .inl (dsl_L k U L G v lo' sx H j QH q)
theorem dsl_ST {ds : List D} {lo hi : Option Int} (k : Q (.d (.tup (cutO ds lo hi)))) : DSl K (rSlS K) (.d (.tup ds)) lo hi Q := fun U L G v lo' sx H j QH q => .inr (dsl_A k U L G v lo' sx H j QH q)
theorem dr_catA {ds es : List D} (hz : ds.length + es.length ≤ sizeLine) (k : Q (.d (.tup (ds ++ es)))) : DR K (rCatA K) (.d (.tup ds)) (.d (.tup es)) Q := fun U L G v w _ sx sy H j QH q => by
  cases (sx : Rp K G v (.tup ds)) with
  | @tup a xs _ ha b =>
    cases (sy : Rp K G w (.tup es)) with
    | @tup a' ys _ ha' b' =>
      refine ⟨_, _, _, _, rfl, rfl, ex_t j.up ha, ex_t j.up ha', by rw [b.len, b'.len]; exact hz, fun h => ?_, fun _ h => ?_, fun _ _ p hp => ?_⟩
      · subst h; cases b; exact q _ _ _ j ⟨Ex.refl G, .d (.tup es), .tup ha' b', k⟩
      · subst h; cases b'; exact q _ _ _ j ⟨Ex.refl G, .d (.tup (ds ++ [])), by rw [List.append_nil]; exact .tup ha b, k⟩
      · exact q _ _ _ (j.alloc hp) ⟨Ex.new (j.free hp), .d (.tup (ds ++ es)), .tup (st_of upd_same) ((b'.mono (Ex.new (j.free hp))).app (b.mono (Ex.new (j.free hp)))), k⟩
/-- a walk over a list or a tuple -/
theorem dn_lcS (h : (DN K (tLc (iList K tl) g tt te vs) ρ QN) ∨ DN K (tLc (iTup K tl) g tt te vs) ρ QN) : DN K (tLc (iSeq K tl) g tt te vs) ρ QN := fun U σ L G o H j QH q =>
  h.elim (fun h => .inl (h U σ L G o H j QH q)) (fun h => .inr (h U σ L G o H j QH q))
theorem ds_forS (h : DS K (tFor (iList K tl) g ts) ρ N B C R ∨ DS K (tFor (iTup K tl) g ts) ρ N B C R) : DS K (tFor (iSeq K tl) g ts) ρ N B C R := fun U σ L G Dn o n b c r H j =>
  h.elim (fun h => .inl (h U σ L G Dn o n b c r H j)) (fun h => .inr (h U σ L G Dn o n b c r H j))
end
end Wp

set_option Elab.async false
set_option linter.all false
set_option maxRecDepth 100000
set_option maxHeartbeats 4000000
namespace Wp
section
open PySem PySem.Spec PyProof.Rows HT L2 Evl StX
variable {K : PySem.W.Frag} {ρ : List E} {QN : List D → Prop} {ta : TA} {te : TE} {tt : TT} {g : TG} {vs : List Nat}
/-- a comprehension over a range with a step -/
theorem dn_lcR3 (h : DA K ta ρ fun ws => ∃ (i j c : Int) (n : Nat), ws = [.int i, .int j, .int c] ∧ RgC i j c n ∧ n < 16000000 ∧ ∃ P : Nat → List D → Prop, P 0 [] ∧ (∀ i acc, P i acc → acc.length ≤ i) ∧ (∀ (k : Nat) acc, k < n → P k acc → DGW K g (.d (.int (i + (k : Nat) * c))) vs ρ fun ρ2 => DT K tt ρ2 fun b => if b = true then DE K te ρ2 fun y => DD y fun dy => P (k + 1) (acc ++ [dy]) else P (k + 1) acc) ∧ ∀ acc, P n acc → QN acc) : DN K (tLc (iRng3 ta) g tt te vs) ρ QN := fun U σ L G o H j0 QH q =>
  h U σ L G o H j0 _ fun us H1 G1 j1 ⟨e1, ws, sw, i, j, c, n, ew, rg, b2, P, h0, hz, hs, hd⟩ => by
    subst ew
    cases sw with
    | cons sa sn =>
      cases sn with
      | cons sb sn =>
        cases sn with
        | cons sc sn =>
          cases sn
          cases sa
          cases sb
          cases sc
          refine ⟨i, j, c, n, rfl, rg, fun Dd hD => ?_⟩
          have c0 := lc_ok o e1 j1 hD
          refine ⟨fun k m H => m = n - k ∧ k ≤ n ∧ LcP K U L G1 Dd P k H, ⟨n, by simp, Nat.zero_le _, ?_⟩, ?_⟩
          · obtain ⟨G', e', j'⟩ := lc_start (σ := σ) c0 j1 hD
            exact ⟨[], [], G', h0, .nil, e', j'⟩
          · rintro k m H' ⟨rfl, hk, p⟩
            by_cases hlt : k < n
            · obtain ⟨acc, ads, G', p', ka, e', j'⟩ := p
              refine .inr ⟨hlt, LcP K U L G1 Dd P (k + 1), fun H2 p2 => ⟨n - (k + 1), by omega, rfl, hlt, p2⟩, fun x H2 y => ?_⟩
              obtain ⟨y1, y2⟩ := y
              subst y1 y2
              exact lc_env (e := .d (.int (i + (k : Nat) * c))) c0.nl (c0.lo o.lo (.ex (.lst acc))) (o.mono (e1.trans e')) e' j' (Rp.int _) ka (by have := hz k ads p'; omega) (hs k ads hlt p')
            · have e : k = n := by omega
              subst e
              obtain ⟨G2, j2, r⟩ := lc_done c0 e1 p hd
              exact .inl ⟨Nat.le_refl _, q _ _ _ j2 r⟩
theorem dn_mapR3 (f : Nat → D) (h : DA K ta ρ fun ws => ∃ (i j c : Int) (n : Nat), ws = [.int i, .int j, .int c] ∧ RgC i j c n ∧ n < 16000000 ∧ (∀ (k : Nat), k < n → DGW K g (.d (.int (i + (k : Nat) * c))) vs ρ fun ρ2 => DE K te ρ2 fun y => y = .d (f k)) ∧ QN ((List.range n).map f)) : DN K (tLc (iRng3 ta) g tYes te vs) ρ QN :=
  dn_lcR3 fun U σ L G o => (h U σ L G o).w fun v G1 ⟨e1, ws, sw, i, j, c, n, ew, rg, b2, hs, hq⟩ => ⟨e1, ws, sw, i, j, c, n, ew, rg, b2, fun k acc => acc = (List.range k).map f, rfl, fun k acc p => by rw [p]; simp, fun k acc hk p =>
    fun U σ L G v o s => (hs k hk U σ L G v o s).w fun σ2 G2 ⟨hw, e2, ρ2, o2, k2⟩ => ⟨hw, e2, ρ2, o2, dt_yes (by
      rw [if_pos rfl]
      exact fun U σ L G o => (k2 U σ L G o).w fun y G3 ⟨e3, z, sz, ez⟩ => ⟨e3, z, sz, f k, ez, by show acc ++ [f k] = (List.range (k + 1)).map f; rw [show acc = (List.range k).map f from p, List.range_succ]; simp⟩)⟩, fun acc p => by rw [p]; exact hq⟩
end
end Wp

set_option Elab.async false
set_option linter.all false
set_option maxRecDepth 100000
set_option maxHeartbeats 4000000
/-! Walks over anything, by the items; lists of keys and values as data. -/
namespace Wp
section
open PySem L2 Evl StX
set_option autoImplicit false
/-- what an iterator gives: these data, one behind the other, whatever is added to the heap meanwhile -/
def ItOk (K : PySem.W.Frag) (I : It) (G1 : Hp) (xs : List D) : Prop := ∃ (Gd : Hp → Prop) (Y : Nat → Hp → V → Hp → Prop), Walk I xs.length Gd Y ∧ (∀ U H G, J U H G → Ex G1 G → Gd H) ∧
  ∀ U i H v H' G, J U H G → Ex G1 G → i < xs.length → Y i H v H' → ∃ G' d, Ex G G' ∧ J U H' G' ∧ xs[i]? = some d ∧ Rp K G' v d
def DI (K : PySem.W.Frag) (wi : TI) (ρ : List E) (P : List D → Prop) : Prop := ∀ U σ L G, EnvOk K U ρ σ L G → ∀ H, J (U.hides L) H G → ∀ R : It → Hp → Prop, (∀ I H1 G1 xs, J (U.hides L) H1 G1 → Ex G G1 → ItOk K I G1 xs → P xs → R I H1) → wi σ H R
section
variable {K : PySem.W.Frag} {ρ : List E} {P : List D → Prop} {tl te : TE} {ta : TA} {tt : TT} {g : TG} {ts : TS} {vs : List Nat} {N B C : List E → Prop} {R : D → Prop} {QN : List D → Prop}
theorem itok_list {G : Hp} {a : Addr} {xs : List V} {ds : List D} (h : G a = some (.lst xs)) (k : RpA K G xs ds) : ItOk K (Itl K a) G ds := by
  refine ⟨fun H => SqL K H a xs, YAt xs, k.len ▸ walk_list, fun U H G' j e => sq_of (j.up _ _ (e _ _ h)), fun U i H v H' G' j e hi ⟨eh, hx⟩ => ?_⟩
  subst eh
  obtain ⟨d, h1, h2⟩ := k.at hx
  exact ⟨G', d, Ex.refl _, j, h1, h2.mono e⟩
theorem itok_tup {G : Hp} {a : Addr} {xs : List V} {ds : List D} (h : SqT K G a xs) (k : RpA K G xs ds) : ItOk K (Itt K a) G ds := by
  refine ⟨fun H => SqT K H a xs, YAt xs, k.len ▸ walk_tup, fun U H G' j e => ex_t j.up (ex_t e h), fun U i H v H' G' j e hi ⟨eh, hx⟩ => ?_⟩
  subst eh
  obtain ⟨d, h1, h2⟩ := k.at hx
  exact ⟨G', d, Ex.refl _, j, h1, h2.mono e⟩
/-- a list or a tuple, as it comes -/
def iSq (K : PySem.W.Frag) (tl : TE) : TI := fun σ H R => tl σ H fun x H1 => ∃ a, x = .ref a ∧ ((∃ xs, SqL K H1 a xs) ∧ R (Itl K a) H1 ∨ (∃ xs, SqT K H1 a xs) ∧ R (Itt K a) H1)
theorem ki_sq {X : Cx} {tg e : Expr} {te : TE} (he : PE X e te) (h : X.K = K := by rfl) : PI X tg e (iSq K te) := by
  subst h
  refine ⟨fun pins s σ H RR I hh => thn (he.run pins s σ H _ I hh) fun v s1 ⟨x, H1, I1, r1, a, ea, q1⟩ => ?_⟩
  subst ea; cases r1
  have fp : ∀ b ∈ [s1.heap.objs.size], FpOk X pins H1 b := fun b hb => by
    rw [show b = s1.heap.objs.size by simpa using hb]; exact I1.fpOk (Nat.le_refl _) (I1.hok.fresh (Nat.le_refl _))
  rcases q1 with ⟨⟨xs, hx⟩, q⟩ | ⟨⟨xs, hx⟩, q⟩
  · obtain ⟨its, rv, pl, hz⟩ := I1.list hx
    exact wpAny_pyIter_list pl.isList ⟨_, [_], _, _, H1, rfl, I1.kept (t' := s1.toks) (fun b o z => Heap.get?_push_of_some _ z), turn_list a _, ⟨_, Heap.get?_push_size _ rfl, rfl, rfl⟩, fp, q⟩
  · obtain ⟨its, rv, pt, hz⟩ := I1.tuple hx
    exact wpAny_pyIter_tuple (show s1.heap.IsTuple a its.toArray from pt) ⟨_, [_], _, _, H1, rfl, I1.kept (t' := s1.toks) (fun b o z => Heap.get?_push_of_some _ z), turn_tuple a _, ⟨_, Heap.get?_push_size _ rfl, rfl, rfl⟩, fp, q⟩
theorem di_sq (h : DE K tl ρ fun e => ∃ ds, (e = .d (.lst ds) ∨ e = .d (.tup ds)) ∧ P ds) : DI K (iSq K tl) ρ P := fun U σ L G o H j RR q =>
  h U σ L G o H j _ fun v H1 G1 j1 ⟨e1, x, sx, ds, ed, p⟩ => by
    rcases ed with rfl | rfl
    · cases (sx : Rp K G1 v (.lst ds)) with
      | lst a k => exact ⟨_, rfl, .inl ⟨⟨_, sq_of (j1.up _ _ a)⟩, q _ _ _ _ j1 e1 (itok_list a k) p⟩⟩
    · cases (sx : Rp K G1 v (.tup ds)) with
      | tup a k => exact ⟨_, rfl, .inr ⟨⟨_, ex_t j1.up a⟩, q _ _ _ _ j1 e1 (itok_tup a k) p⟩⟩
/-- the ints lo, lo + c, .. -/
def rgI (lo c : Int) (n : Nat) : List Int := (List.range n).map fun (k : Nat) => lo + (k : Int) * c
theorem rgI_len (lo c : Int) (n : Nat) : (rgI lo c n).length = n := by simp [rgI]
theorem rgI_at {lo c : Int} {n i : Nat} (h : i < n) : (rgI lo c n)[i]? = some (lo + (i : Int) * c) := by simp [rgI, h]
theorem itok_c {G : Hp} {lo c : Int} {n : Nat} : ItOk K (Itc lo c n) G ((rgI lo c n).map D.int) := by
  refine ⟨fun _ => True, YFn fun i => .int (lo + (i : Nat) * c), by rw [List.length_map, rgI_len]; exact walk_rangeC, fun _ _ _ _ _ => trivial, fun U i H v H' G' j e hi ⟨eh, ev⟩ => ?_⟩
  subst eh ev
  rw [List.length_map, rgI_len] at hi
  exact ⟨G', _, Ex.refl _, j, by rw [List.getElem?_map, rgI_at hi]; rfl, .int _⟩
theorem itok_r {G : Hp} {lo : Int} {n : Nat} : ItOk K (Itr lo n) G ((rgI lo 1 n).map D.int) := by
  refine ⟨fun _ => True, YFn fun i => .int (lo + i), by rw [List.length_map, rgI_len]; exact walk_range, fun _ _ _ _ _ => trivial, fun U i H v H' G' j e hi ⟨eh, ev⟩ => ?_⟩
  subst eh ev
  rw [List.length_map, rgI_len] at hi
  exact ⟨G', _, Ex.refl _, j, by rw [List.getElem?_map, rgI_at hi]; rfl, by rw [Int.mul_one]; exact .int _⟩
def Big (n : Int) : Prop := -(2 ^ 62) ≤ n ∧ n < 2 ^ 62
theorem di_rng1 (h : DA K ta ρ fun ws => ∃ m : Int, ws = [.int m] ∧ Big m ∧ P ((rgI 0 1 m.toNat).map D.int)) : DI K (iRng1 ta) ρ P := fun U σ L G o H j RR q =>
  h U σ L G o H j _ fun us H1 G1 j1 ⟨e1, ws, sw, m, ew, b, p⟩ => by
    subst ew
    cases sw with
    | cons sa sn => cases sn; cases sa; exact ⟨m, rfl, b.1, b.2, q _ _ _ _ j1 e1 itok_r p⟩
theorem di_rng2 (h : DA K ta ρ fun ws => ∃ lo m : Int, ws = [.int lo, .int m] ∧ Big lo ∧ Big m ∧ P ((rgI lo 1 (m - lo).toNat).map D.int)) : DI K (iRng2 ta) ρ P := fun U σ L G o H j RR q =>
  h U σ L G o H j _ fun us H1 G1 j1 ⟨e1, ws, sw, lo, m, ew, b, b', p⟩ => by
    subst ew
    cases sw with
    | cons sa sn => cases sn with | cons sb sn => cases sn; cases sa; cases sb; exact ⟨lo, m, rfl, ⟨b.1, b.2, b'.1, b'.2⟩, q _ _ _ _ j1 e1 itok_r p⟩
theorem di_rng3 (h : DA K ta ρ fun ws => ∃ (i j c : Int) (n : Nat), ws = [.int i, .int j, .int c] ∧ RgC i j c n ∧ P ((rgI i c n).map D.int)) : DI K (iRng3 ta) ρ P := fun U σ L G o H j RR q =>
  h U σ L G o H j _ fun us H1 G1 j1 ⟨e1, ws, sw, i, jj, c, n, ew, b, p⟩ => by
    subst ew
    cases sw with
    | cons sa sn => cases sn with | cons sb sn => cases sn with | cons sc sn => cases sn; cases sa; cases sb; cases sc; exact ⟨i, jj, c, n, rfl, b, q _ _ _ _ j1 e1 itok_c p⟩
theorem di_rev1 (h : DE K te ρ fun e => IE e fun m => Big m ∧ P ((rgI ((m.toNat : Int) - 1) (-1) m.toNat).map D.int)) : DI K (iRevR (tRg1 te)) ρ P := fun U σ L G o H j RR q =>
  h U σ L G o H j _ fun v H1 G1 j1 ⟨e1, x, sx, m, ew, b, p⟩ => by
    subst ew
    cases (sx : Rp K G1 v (.int m))
    refine ⟨m, rfl, by omega, by omega, b.1, b.2, ?_⟩
    have em : (m - 0).toNat = m.toNat := by rw [Int.sub_zero]
    have e0 : (0 : Int) + ((m - 0).toNat : Int) - 1 = (m.toNat : Int) - 1 := by omega
    rw [e0, em]
    exact q _ _ _ _ j1 e1 itok_c p
def pairsN (ds : List D) : List D := (List.range ds.length).map fun (i : Nat) => D.tup [.int (i : Int), ds.getD i .non]
theorem pairsN_at {ds : List D} {i : Nat} {d : D} (h : ds[i]? = some d) : (pairsN ds)[i]? = some (.tup [.int (i : Int), d]) := by
  have hi := (List.getElem?_eq_some_iff.mp h).1
  have hd : ds.getD i .non = d := by rw [List.getD_eq_getElem?_getD, h]; rfl
  unfold pairsN
  rw [List.getElem?_map, List.getElem?_range hi, Option.map_some, hd]
theorem itok_pair {G : Hp} {I : It} {n : Nat} {Gd : Hp → Prop} {xs ys : Nat → Option V} {f : Nat → D} (w : Walk I n Gd (YPair xs ys)) (hg : ∀ U H G', J U H G' → Ex G G' → Gd H) (hx : ∀ i x y, i < n → xs i = some x → ys i = some y → ∃ d1 d2, f i = .tup [d1, d2] ∧ Rp K G x d1 ∧ Rp K G y d2) : ItOk K I G ((List.range n).map f) := by
  refine ⟨Gd, YPair xs ys, by rw [List.length_map, List.length_range]; exact w, hg, fun U i H v H' G' j e hi ⟨T, x, y, ev, hT, eh, h1, h2⟩ => ?_⟩
  subst eh ev
  rw [List.length_map, List.length_range] at hi
  obtain ⟨d1, d2, ef, r1, r2⟩ := hx i x y hi h1 h2
  have eT : Ex G' (upd G' T (.tup [x, y])) := Ex.new (j.free hT)
  exact ⟨_, f i, eT, j.alloc hT, by simp [hi], by rw [ef]; exact .tup (st_of upd_same) (.cons ((r1.mono e).mono eT) (.cons ((r2.mono e).mono eT) .nil))⟩
theorem walk_enumT {a : Addr} {xs : List V} : Walk (IteT K a) xs.length (fun H => SqT K H a xs) (YPair (fun i => some (.int (i : Nat))) (fun i => xs[i]?)) := by
  refine ⟨fun i _ hi q => ⟨xs, xs[i], q, by simp [hi]⟩, fun _ q => ⟨xs, q, Nat.le_refl _⟩, fun i H v H' _ q y => ?_⟩
  obtain ⟨T, x, h1, h2, h3, h4⟩ := y
  exact ⟨T, .int (i : Nat), x, h1, h2, h3, rfl, h4 xs q⟩
theorem rpa_getD {G : Hp} {xs : List V} {ds : List D} (k : RpA K G xs ds) {i : Nat} {x : V} (h : xs[i]? = some x) : Rp K G x (ds.getD i .non) := by
  obtain ⟨d, h1, h2⟩ := k.at h
  rw [List.getD_eq_getElem?_getD, h1]; exact h2
theorem di_enum (h : DA K ta ρ fun ws => ∃ ds, ws = [.lst ds] ∧ P (pairsN ds)) : DI K (iEnum K ta) ρ P := fun U σ L G o H j RR q =>
  h U σ L G o H j _ fun us H1 G1 j1 ⟨e1, ws, sw, ds, ew, p⟩ => by
    subst ew
    cases sw with
    | cons sa sn =>
      cases sn
      cases sa with
      | @lst a xs _ ha k =>
        exact ⟨a, xs, rfl, sq_of (j1.up _ _ ha), q _ _ _ _ j1 e1 (by
          unfold pairsN
          refine itok_pair (k.len ▸ walk_enum) (fun U H G' j e => sq_of (j.up _ _ (e _ _ ha))) fun i x y hi h1 h2 => ?_
          cases h1
          exact ⟨_, _, rfl, .int _, rpa_getD k h2⟩) p⟩
theorem di_enumT (h : DA K ta ρ fun ws => ∃ ds, ws = [.tup ds] ∧ P (pairsN ds)) : DI K (iEnumT K ta) ρ P := fun U σ L G o H j RR q =>
  h U σ L G o H j _ fun us H1 G1 j1 ⟨e1, ws, sw, ds, ew, p⟩ => by
    subst ew
    cases sw with
    | cons sa sn =>
      cases sn
      cases sa with
      | @tup a xs _ ha k =>
        exact ⟨a, xs, rfl, ex_t j1.up ha, q _ _ _ _ j1 e1 (by
          unfold pairsN
          refine itok_pair (k.len ▸ walk_enumT) (fun U H G' j e => ex_t j.up (ex_t e ha)) fun i x y hi h1 h2 => ?_
          cases h1
          exact ⟨_, _, rfl, .int _, rpa_getD k h2⟩) p⟩
/-- enumerate of a list or a tuple, as it comes -/
def iEnumA (K : PySem.W.Frag) (ta : TA) : TI := fun σ H R => ta σ H fun vs H1 => ∃ a xs, vs = [.ref a] ∧ (SqL K H1 a xs ∧ R (Ite K a) H1 ∨ SqT K H1 a xs ∧ R (IteT K a) H1)
theorem ki_enumA {X : Cx} {e : Expr} {ta : TA} {p pos tpos : Pos} {elts : List Expr} {kk : Nat} (hg : Gl X "enumerate") (hm : X.mg "enumerate" = none) (ha : PA X [e] ta) (hs : starEach [e] X.env = [(false, eval e X.env)] := by rfl) (hK : X.K = K := by rfl) :
    PI X (.Tuple elts kk tpos) (.Call (.Name "enumerate" p) [e] [] pos) (iEnumA K ta) := by
  subst hK
  refine ⟨fun pins s σ H R I h => PyProof.Rows.Call_ (ld_blt I hg hm PyProof.Rows.boot_enumerate (PyProof.Rows.callWith_type1 (thn (ha.run pos pins s σ H _ I h) fun us s1 ⟨vs, H1, I1, r1, a, xs, ex, q⟩ => ?_) hs rfl))⟩
  subst ex
  rw [Vals.ref1 r1]
  have fp : ∀ b ∈ [s1.heap.objs.size + 1, s1.heap.objs.size], FpOk X pins H1 b := fun b hb => by
    have hle : s1.heap.objs.size ≤ b := by
      rcases (show b = s1.heap.objs.size + 1 ∨ b = s1.heap.objs.size by simpa using hb) with z | z <;> omega
    exact I1.fpOk hle (I1.hok.fresh hle)
  rcases q with ⟨hq, q⟩ | ⟨hq, q⟩
  · obtain ⟨its, rv, pl, hz⟩ := I1.list hq
    refine call_enumerate_list pl.isList fun h' he hit hsz hk => wpAny_pyIter_enum he ⟨_, _, _, _, H1, rfl, I1.kept (t' := s1.toks) hk, turn_enum a (s1.heap.objs.size + 1) s1.heap.objs.size, ⟨⟨.none, he⟩, hit, Nat.succ_ne_self _⟩, fp, q⟩
  · obtain ⟨its, rv, p', hz⟩ := I1.tuple hq
    have hal : a < s1.heap.objs.size := p'.lt
    refine call_enumerate_tuple p' fun h' he hit hsz hk => wpAny_pyIter_enum he ⟨_, _, _, _, H1, rfl, I1.kept (t' := s1.toks) hk, turn_enumT a (s1.heap.objs.size + 1) s1.heap.objs.size, ⟨⟨.none, he⟩, hit, Nat.succ_ne_self _, Nat.ne_of_lt hal, Nat.ne_of_gt (Nat.lt_succ_of_lt hal)⟩, fp, q⟩
theorem di_enumA (h : DA K ta ρ fun ws => ∃ ds, (ws = [.lst ds] ∨ ws = [.tup ds]) ∧ P (pairsN ds)) : DI K (iEnumA K ta) ρ P := fun U σ L G o H j RR q =>
  h U σ L G o H j _ fun us H1 G1 j1 ⟨e1, ws, sw, ds, ew, p⟩ => by
    rcases ew with rfl | rfl
    · cases sw with
      | cons sa sn =>
        cases sn
        cases sa with
        | @lst a xs _ ha k =>
          exact ⟨a, xs, rfl, .inl ⟨sq_of (j1.up _ _ ha), q _ _ _ _ j1 e1 (by
            unfold pairsN
            refine itok_pair (k.len ▸ walk_enum) (fun U H G' j e => sq_of (j.up _ _ (e _ _ ha))) fun i x y hi h1 h2 => ?_
            cases h1
            exact ⟨_, _, rfl, .int _, rpa_getD k h2⟩) p⟩⟩
    · cases sw with
      | cons sa sn =>
        cases sn
        cases sa with
        | @tup a xs _ ha k =>
          exact ⟨a, xs, rfl, .inr ⟨ex_t j1.up ha, q _ _ _ _ j1 e1 (by
            unfold pairsN
            refine itok_pair (k.len ▸ walk_enumT) (fun U H G' j e => ex_t j.up (ex_t e ha)) fun i x y hi h1 h2 => ?_
            cases h1
            exact ⟨_, _, rfl, .int _, rpa_getD k h2⟩) p⟩⟩
def zipN (xs ys : List D) : List D := (List.range (min xs.length ys.length)).map fun i => D.tup [xs.getD i .non, ys.getD i .non]
theorem zipN_len (xs ys : List D) : (zipN xs ys).length = min xs.length ys.length := by simp [zipN]
theorem walk_zipT {a b : Addr} {xs ys : List V} {n : Nat} (hn : n = min xs.length ys.length) : Walk (RZ.ItzT K a b) n (fun H => SqT K H a xs ∧ SqT K H b ys) (YPair (fun i => xs[i]?) (fun i => ys[i]?)) := by
  subst hn
  refine ⟨fun i _ hi q => ?_, fun _ q => ⟨xs, ys, q.1, q.2, by omega⟩, fun i H v H' _ q y => ?_⟩
  · have h1 : i < xs.length := by omega
    have h2 : i < ys.length := by omega
    exact ⟨xs, ys, xs[i], ys[i], q.1, q.2, by simp [h1], by simp [h2]⟩
  · obtain ⟨T, x, z, h1, h2, h3, h4, h5⟩ := y
    exact ⟨T, x, z, h1, h2, h3, h4 xs q.1, h5 ys q.2⟩
def iZipB (K : PySem.W.Frag) (ta : TA) : TI := RZ.iZipA K ta
theorem ki_zipA {X : Cx} {e e2 : Expr} {ta : TA} {p pos tpos : Pos} {elts : List Expr} {kk : Nat} (hg : Gl X "zip") (hm : X.mg "zip" = none) (ha : PA X [e, e2] ta) (h : X.K = K := by rfl)
    (hs : starEach [e, e2] X.env = (false, eval e X.env) :: starEach [e2] X.env := by rfl) (hpl : (backTo pos (starEach [e2] X.env)).any (·.1) = false := by rfl) :
    PI X (.Tuple elts kk tpos) (.Call (.Name "zip" p) [e, e2] [] pos) (iZipB K ta) := by subst h; exact RZ.pi_zipA hg hm ha hs hpl
theorem di_zip (h : DA K ta ρ fun ws => ∃ ds es, (ws = [.lst ds, .lst es] ∨ ws = [.tup ds, .tup es]) ∧ P (zipN ds es)) : DI K (iZipB K ta) ρ P := fun U σ L G o H j RR q =>
  h U σ L G o H j _ fun us H1 G1 j1 ⟨e1, ws, sw, ds, es, ew, p⟩ => by
    rcases ew with rfl | rfl
    · cases sw with
      | cons sa sn =>
        cases sn with
        | cons sb sn =>
          cases sn
          cases sa with
          | @lst a xs _ ha k =>
            cases sb with
            | @lst b ys _ hb k2 =>
              exact ⟨a, b, xs, ys, rfl, .inl ⟨sq_of (j1.up _ _ ha), sq_of (j1.up _ _ hb), q _ _ _ _ j1 e1 (itok_pair (walk_zip (by rw [k.len, k2.len])) (fun U H G' j e => ⟨sq_of (j.up _ _ (e _ _ ha)), sq_of (j.up _ _ (e _ _ hb))⟩) fun i x y hi h1 h2 => ⟨_, _, rfl, rpa_getD k h1, rpa_getD k2 h2⟩) p⟩⟩
    · cases sw with
      | cons sa sn =>
        cases sn with
        | cons sb sn =>
          cases sn
          cases sa with
          | @tup a xs _ ha k =>
            cases sb with
            | @tup b ys _ hb k2 =>
              exact ⟨a, b, xs, ys, rfl, .inr ⟨ex_t j1.up ha, ex_t j1.up hb, q _ _ _ _ j1 e1 (itok_pair (walk_zipT (by rw [k.len, k2.len])) (fun U H G' j e => ⟨ex_t j.up (ex_t e ha), ex_t j.up (ex_t e hb)⟩) fun i x y hi h1 h2 => ⟨_, _, rfl, rpa_getD k h1, rpa_getD k2 h2⟩) p⟩⟩
/-! ### comprehensions and loops over any -/
theorem dn_lc {wi : TI} (h : DI K wi ρ fun xs => xs.length < 16000000 ∧ ∃ P : Nat → List D → Prop, P 0 [] ∧ (∀ i acc, P i acc → acc.length ≤ i) ∧ (∀ (i : Nat) d acc, xs[i]? = some d → P i acc → DGW K g (.d d) vs ρ fun ρ2 => DT K tt ρ2 fun b => if b = true then DE K te ρ2 fun y => DD y fun dy => P (i + 1) (acc ++ [dy]) else P (i + 1) acc) ∧ ∀ acc, P xs.length acc → QN acc) : DN K (tLc wi g tt te vs) ρ QN := fun U σ L G o H j QH q =>
  h U σ L G o H j _ fun I H1 G1 xs j1 e1 ok ⟨hlen, P, h0, hz, hs, hd⟩ => by
    intro Dd hD
    obtain ⟨Gd, Y, wk, hg, hy⟩ := ok
    have c := lc_ok o e1 j1 hD
    refine lc_it wk (LcP K U L G1 Dd P) ?_ (fun i H' _ ⟨acc, ads, G', p, ka, e', j'⟩ => hg _ _ _ j' e') (fun i x H' H'' hi ⟨acc, ads, G', p, ka, e', j'⟩ yy => ?_) (fun H' hp => ?_)
    · obtain ⟨G', e', j'⟩ := lc_start (σ := σ) c j1 hD
      exact ⟨[], [], G', h0, .nil, e', j'⟩
    · obtain ⟨G'', d, e'', j'', hx, r⟩ := hy _ i H' x H'' G' j' e' hi yy
      exact lc_env (e := .d d) c.nl (c.lo o.lo (.ex (.lst acc))) (o.mono (e1.trans (e'.trans e''))) (e'.trans e'') j'' r (ka.mono e'') (by have := hz i ads p; omega) (hs i d ads hx p)
    · obtain ⟨G2, j2, r⟩ := lc_done c e1 hp hd
      exact q _ _ _ j2 r
/-- each item told by the source's -/
theorem dn_map {wi : TI} {α : Type} (inj f : α → D) (h : DI K wi ρ fun ds => ∃ xs : List α, ds = xs.map inj ∧ xs.length < 16000000 ∧ (∀ (i : Nat) x, xs[i]? = some x → DGW K g (.d (inj x)) vs ρ fun ρ2 => DE K te ρ2 fun y => y = .d (f x)) ∧ QN (xs.map f)) : DN K (tLc wi g tYes te vs) ρ QN :=
  dn_lc fun U σ L G o H j RR q => h U σ L G o H j RR fun I H1 G1 ds j1 e1 ok ⟨xs, ed, hl, hs, hq⟩ => q I H1 G1 ds j1 e1 ok (by
    subst ed
    refine ⟨by rw [List.length_map]; exact hl, fun i acc => i ≤ xs.length ∧ acc = (xs.take i).map f, ⟨Nat.zero_le _, rfl⟩, fun i acc ⟨p0, p⟩ => by rw [p, List.length_map, List.length_take]; omega, fun i d acc hd ⟨p0, p⟩ => ?_, fun acc ⟨_, p⟩ => by rw [List.length_map, List.take_length] at p; rw [p]; exact hq⟩
    rw [List.getElem?_map] at hd
    obtain ⟨x, hx, rfl⟩ := Option.map_eq_some_iff.mp hd
    have hil := (List.getElem?_eq_some_iff.mp hx).1
    exact fun U σ L G v o s => (hs i x hx U σ L G v o s).w fun σ2 G2 ⟨hw, e2, ρ2, o2, k2⟩ => ⟨hw, e2, ρ2, o2, dt_yes (by
      rw [if_pos rfl]
      exact fun U σ L G o => (k2 U σ L G o).w fun y G3 ⟨e3, z, sz, ez⟩ => ⟨e3, z, sz, f x, ez, hil, by rw [p, List.take_add_one, hx]; simp⟩)⟩)
/-- some of them -/
theorem dn_filt {wi : TI} {α : Type} (inj f : α → D) (b : α → Bool) (h : DI K wi ρ fun ds => ∃ xs : List α, ds = xs.map inj ∧ xs.length < 16000000 ∧ (∀ (i : Nat) x, xs[i]? = some x → DGW K g (.d (inj x)) vs ρ fun ρ2 => DT K tt ρ2 fun c => c = b x ∧ (c = true → DE K te ρ2 fun y => y = .d (f x))) ∧ QN ((xs.filter b).map f)) : DN K (tLc wi g tt te vs) ρ QN :=
  dn_lc fun U σ L G o H j RR q => h U σ L G o H j RR fun I H1 G1 ds j1 e1 ok ⟨xs, ed, hl, hs, hq⟩ => q I H1 G1 ds j1 e1 ok (by
    subst ed
    refine ⟨by rw [List.length_map]; exact hl, fun i acc => i ≤ xs.length ∧ acc = ((xs.take i).filter b).map f, ⟨Nat.zero_le _, rfl⟩, fun i acc ⟨p0, p⟩ => by rw [p, List.length_map]; exact Nat.le_trans (List.length_filter_le _ _) (by rw [List.length_take]; omega), fun i d acc hd ⟨p0, p⟩ => ?_, fun acc ⟨_, p⟩ => by rw [List.length_map, List.take_length] at p; rw [p]; exact hq⟩
    rw [List.getElem?_map] at hd
    obtain ⟨x, hx, rfl⟩ := Option.map_eq_some_iff.mp hd
    have hil := (List.getElem?_eq_some_iff.mp hx).1
    exact fun U σ L G v o s => (hs i x hx U σ L G v o s).w fun σ2 G2 ⟨hw, e2, ρ2, o2, k2⟩ => ⟨hw, e2, ρ2, o2, fun U σ L G o => (k2 U σ L G o).w fun c G3 ⟨e3, ec, k3⟩ => ⟨e3, by
      cases c with
      | true =>
        rw [if_pos rfl]
        exact fun U σ L G o => (k3 rfl U σ L G o).w fun y G3 ⟨e3, z, sz, ez⟩ => ⟨e3, z, sz, f x, ez, hil, by rw [p, List.take_add_one, hx, List.filter_append]; simp [← ec]⟩
      | false =>
        rw [if_neg Bool.false_ne_true]
        exact ⟨hil, by rw [p, List.take_add_one, hx, List.filter_append]; simp [← ec]⟩⟩⟩)
theorem ds_for {wi : TI} (h : DI K wi ρ fun xs => ∃ I : Nat → List E → Prop, Wk (I 0) ρ ∧ (∀ (i : Nat) d ρ', xs[i]? = some d → I i ρ' → DG K g (.d d) ρ' fun ρ2 => DS K ts ρ2 (Wk (I (i + 1))) N (Wk (I (i + 1))) R) ∧ ∀ ρ', I xs.length ρ' → N ρ') : DS K (tFor wi g ts) ρ N B C R := fun U σ L G Dn o n b c r H j =>
  h U σ L G o H j _ fun I H1 G1 xs j1 e1 ok ⟨Iv, ⟨ρ0, le0, h0⟩, hs, hd⟩ => by
    obtain ⟨Gd, Y, wk, hg, hy⟩ := ok
    refine for_it wk (fun i σ' H' => ∃ ρ' L' G', Iv i ρ' ∧ EnvOk K U ρ' σ' L' G' ∧ Ex G1 G' ∧ J (U.hides L') H' G') ⟨ρ0, L, G1, h0, (o.mono e1).le le0, Ex.refl _, j1⟩ (fun i σ' H' _ ⟨ρ', L', G', p, o', e', j'⟩ => hg _ _ _ j' e') (fun i x σ' H' H'' hi ⟨ρ', L', G', p, o', e', j'⟩ yy => ?_) (fun σ' H' ⟨ρ', L', G', p, o', e', j'⟩ => n ρ' σ' L' G' (hd ρ' p) o' (e1.trans e') H' j')
    obtain ⟨G'', d, e'', j'', hx, rr⟩ := hy _ i H' x H'' G' j' e' hi yy
    exact loop_env (n.mono e1) (r.mono e1) (o'.mono e'') (e'.trans e'') j'' (e := .d d) rr (hs i d ρ' hx p)
end
end
end Wp

set_option Elab.async false
set_option linter.all false
set_option maxRecDepth 100000
set_option maxHeartbeats 4000000
/-! Dicts as data. -/
namespace Wp
section
open PySem L2 Evl StX
set_option autoImplicit false
section
variable {κ α β : Type} [DecidableEq κ]
def getP (m : List (κ × α)) (k : κ) : Option α := (m.find? fun p => decide (p.1 = k)).map (·.2)
def putP (m : List (κ × α)) (k : κ) (v : α) : List (κ × α) := if (m.any fun p => decide (p.1 = k)) = true then m.map fun p => if p.1 = k then (p.1, v) else p else m ++ [(k, v)]
def dropP (m : List (κ × α)) (k : κ) : List (κ × α) := m.filter fun p => decide (p.1 ≠ k)
def mergeP (m more : List (κ × α)) : List (κ × α) := more.foldl (fun acc p => putP acc p.1 p.2) m
theorem getP_nil {k : κ} : getP ([] : List (κ × α)) k = none := rfl
theorem getP_cons (p : κ × α) (m : List (κ × α)) (k : κ) : getP (p :: m) k = if p.1 = k then some p.2 else getP m k := by
  unfold getP
  by_cases h : p.1 = k
  · rw [List.find?_cons_of_pos (by simpa using h), if_pos h]; rfl
  · rw [List.find?_cons_of_neg (by simpa using h), if_neg h]
theorem getP_none {m : List (κ × α)} {k : κ} : getP m k = none ↔ k ∉ m.map (·.1) := by
  induction m with
  | nil => simp [getP_nil]
  | cons p m ih =>
    rw [getP_cons]
    by_cases h : p.1 = k
    · simp [h]
    · rw [if_neg h, ih]; simp [Ne.symm h]
theorem getP_mem {m : List (κ × α)} {k : κ} {v : α} (h : getP m k = some v) : (k, v) ∈ m := by
  induction m with
  | nil => simp [getP_nil] at h
  | cons p m ih =>
    rw [getP_cons] at h
    by_cases z : p.1 = k
    · rw [if_pos z] at h; injection h with h; subst h z; exact List.mem_cons_self
    · rw [if_neg z] at h; exact List.mem_cons_of_mem _ (ih h)
theorem mem_getP {m : List (κ × α)} (nd : (m.map (·.1)).Nodup) {k : κ} {v : α} (h : (k, v) ∈ m) : getP m k = some v := by
  induction m with
  | nil => simp at h
  | cons p m ih =>
    rw [List.map_cons, List.nodup_cons] at nd
    rw [getP_cons]
    rcases List.mem_cons.mp h with rfl | h
    · rw [if_pos rfl]
    · rw [if_neg (fun z => nd.1 (List.mem_map.mpr ⟨_, h, z.symm⟩)), ih nd.2 h]
theorem any_iff {m : List (κ × α)} {k : κ} : (m.any fun p => decide (p.1 = k)) = true ↔ k ∈ m.map (·.1) := by
  rw [List.any_eq_true]
  constructor
  · rintro ⟨p, hp, e⟩; exact List.mem_map.mpr ⟨p, hp, of_decide_eq_true e⟩
  · intro h; obtain ⟨p, hp, e⟩ := List.mem_map.mp h; exact ⟨p, hp, decide_eq_true e⟩
theorem getP_isSome {m : List (κ × α)} {k : κ} : (getP m k).isSome = true ↔ k ∈ m.map (·.1) := by
  cases h : getP m k with
  | none => simp; exact fun x hx => getP_none.mp h (List.mem_map.mpr ⟨_, hx, rfl⟩)
  | some v => simp; exact ⟨v, getP_mem h⟩
theorem putP_in {m : List (κ × α)} {k : κ} {v : α} (h : k ∈ m.map (·.1)) : putP m k v = m.map fun p => if p.1 = k then (p.1, v) else p := by unfold putP; rw [if_pos (any_iff.mpr h)]
theorem putP_new {m : List (κ × α)} {k : κ} {v : α} (h : k ∉ m.map (·.1)) : putP m k v = m ++ [(k, v)] := by unfold putP; rw [if_neg (fun z => h (any_iff.mp z))]
theorem putP_keys {m : List (κ × α)} {k : κ} {v : α} : (putP m k v).map (·.1) = if k ∈ m.map (·.1) then m.map (·.1) else m.map (·.1) ++ [k] := by
  by_cases h : k ∈ m.map (·.1)
  · rw [putP_in h, if_pos h, List.map_map]
    exact List.map_congr_left fun p _ => by by_cases z : p.1 = k <;> simp [z]
  · rw [putP_new h, if_neg h]; simp
theorem putP_nodup {m : List (κ × α)} {k : κ} {v : α} (nd : (m.map (·.1)).Nodup) : ((putP m k v).map (·.1)).Nodup := by
  rw [putP_keys]
  by_cases h : k ∈ m.map (·.1)
  · rw [if_pos h]; exact nd
  · rw [if_neg h]; exact List.nodup_append.mpr ⟨nd, by simp, fun a ha b hb => by simp at hb; subst hb; exact fun z => h (z ▸ ha)⟩
theorem getP_put {m : List (κ × α)} {k j : κ} {v : α} : getP (putP m k v) j = if j = k then some v else getP m j := by
  by_cases h : k ∈ m.map (·.1)
  · rw [putP_in h]
    induction m with
    | nil => simp at h
    | cons p m ih =>
      rw [List.map_cons, getP_cons, getP_cons]
      by_cases hm : k ∈ m.map (·.1)
      · rw [ih hm]
        by_cases z : p.1 = k <;> by_cases y : p.1 = j <;> by_cases x : j = k <;> simp_all
      · have e : p.1 = k := by
          rcases List.mem_cons.mp h with h | h
          · exact h.symm
          · exact absurd h hm
        have em : m.map (fun p => if p.1 = k then (p.1, v) else p) = m := by
          conv => rhs; rw [← List.map_id m]
          exact List.map_congr_left fun q hq => by
            rw [if_neg (fun z => hm (List.mem_map.mpr ⟨q, hq, z⟩))]; rfl
        rw [em]
        by_cases y : p.1 = j <;> by_cases x : j = k <;> simp_all
  · rw [putP_new h]
    induction m with
    | nil => rw [List.nil_append, getP_cons]; by_cases z : k = j <;> simp [z, getP_nil, eq_comm]
    | cons p m ih =>
      have hm : k ∉ m.map (·.1) := fun z => h (List.mem_cons_of_mem _ z)
      have hp : p.1 ≠ k := fun z => h (by rw [List.map_cons, z]; exact List.mem_cons_self)
      rw [List.cons_append, getP_cons, getP_cons, ih hm]
      by_cases y : p.1 = j
      · subst y; rw [if_pos rfl, if_pos rfl, if_neg hp]
      · rw [if_neg y, if_neg y]
theorem getP_drop {m : List (κ × α)} {k j : κ} : getP (dropP m k) j = if j = k then none else getP m j := by
  unfold dropP
  induction m with
  | nil => simp [getP_nil]
  | cons p m ih =>
    rw [getP_cons]
    by_cases z : p.1 = k
    · rw [List.filter_cons_of_neg (by simp [z]), ih]
      by_cases x : j = k
      · simp [x]
      · rw [if_neg x, if_neg x, if_neg (fun y => x (y.symm.trans z))]
    · rw [List.filter_cons_of_pos (by simpa using z), getP_cons, ih]
      by_cases y : p.1 = j
      · rw [if_pos y, if_pos y, if_neg (fun x => z (y.trans x))]
      · rw [if_neg y, if_neg y]
theorem dropP_nodup {m : List (κ × α)} {k : κ} (nd : (m.map (·.1)).Nodup) : ((dropP m k).map (·.1)).Nodup := (List.filter_sublist.map _).nodup nd
theorem mergeP_nodup : ∀ (more m : List (κ × α)), (m.map (·.1)).Nodup → ((mergeP m more).map (·.1)).Nodup
  | [], m, h => h
  | p :: r, m, h => mergeP_nodup r _ (putP_nodup h)
theorem mergeP_new : ∀ (more m : List (κ × α)), ((m ++ more).map (·.1)).Nodup → mergeP m more = m ++ more
  | [], m, h => by simp [mergeP]
  | p :: r, m, h => by
    have hp : p.1 ∉ m.map (·.1) := fun z => by
      rw [List.map_append, List.map_cons, List.nodup_append] at h
      exact h.2.2 _ z _ List.mem_cons_self rfl
    show mergeP (putP m p.1 p.2) r = _
    rw [putP_new hp, mergeP_new r _ (by rw [List.append_assoc]; exact h), List.append_assoc]; rfl
end
/-- a key as a datum -/
def kD : Key → D
  | .inl i => .int i
  | .inr s => .str s
abbrev D.dc (m : List (Key × D)) : D := .dct (m.map (·.1)) (m.map (·.2))
abbrev E.dm (m : List (Key × D)) : E := .dic (m.map (·.1)) (m.map (·.2))
/-- keys ints -/
def mM {α : Type} (f : α → D) (m : List (Int × α)) : List (Key × D) := m.map fun p => (.inl p.1, f p.2)
abbrev mI (m : List (Int × Int)) : List (Key × D) := mM D.int m
section
variable {α : Type} {f : α → D} {m : List (Int × α)} {k : Int} {v : α}
theorem mM_keys : (mM f m).map (·.1) = (m.map (·.1)).map Sum.inl := by unfold mM; rw [List.map_map, List.map_map]; rfl
theorem mM_vals : (mM f m).map (·.2) = (m.map (·.2)).map f := by unfold mM; rw [List.map_map, List.map_map]; rfl
theorem mM_len : (mM f m).length = m.length := by unfold mM; rw [List.length_map]
theorem get_mM : getP (mM f m) (.inl k) = (getP m k).map f := by
  induction m with
  | nil => rfl
  | cons p m ih =>
    show getP ((.inl p.1, f p.2) :: mM f m) (.inl k) = _
    rw [getP_cons, getP_cons, ih]
    by_cases h : p.1 = k
    · simp [h]
    · rw [if_neg (fun z => h (Sum.inl.inj z)), if_neg h]
theorem put_mM : putP (mM f m) (.inl k) (f v) = mM f (putP m k v) := by
  have hk : (Sum.inl k : Key) ∈ (mM f m).map (·.1) ↔ k ∈ m.map (·.1) := by
    rw [mM_keys]; constructor
    · intro h; obtain ⟨x, hx, e⟩ := List.mem_map.mp h; injection e with e; subst e; exact hx
    · intro h; exact List.mem_map.mpr ⟨_, h, rfl⟩
  by_cases h : k ∈ m.map (·.1)
  · rw [putP_in (hk.mpr h), putP_in h]
    unfold mM
    rw [List.map_map, List.map_map]
    exact List.map_congr_left fun p _ => by
      by_cases z : p.1 = k
      · simp [z]
      · have : ¬ (Sum.inl p.1 : Key) = .inl k := fun q => z (Sum.inl.inj q)
        simp [z]
  · rw [putP_new (fun z => h (hk.mp z)), putP_new h]
    unfold mM; rw [List.map_append]; rfl
theorem drop_mM : dropP (mM f m) (.inl k) = mM f (dropP m k) := by
  unfold dropP mM
  rw [List.filter_map]
  congr 1
  exact List.filter_congr fun p _ => by
    by_cases z : p.1 = k <;> simp [z, Function.comp]
theorem mM_nodup : ((mM f m).map (·.1)).Nodup ↔ (m.map (·.1)).Nodup := by
  rw [mM_keys]
  constructor
  · intro h; exact List.Pairwise.of_map _ (fun a b hab z => hab (by rw [z])) h
  · intro h; exact List.Pairwise.map _ (fun a b hab => fun z => hab (Sum.inl.inj z)) h
theorem merge_mM {m' : List (Int × α)} : mergeP (mM f m) (mM f m') = mM f (mergeP m m') := by
  induction m' generalizing m with
  | nil => rfl
  | cons p r ih =>
    show mergeP (putP (mM f m) (.inl p.1) (f p.2)) (mM f r) = mM f (mergeP (putP m p.1 p.2) r)
    rw [put_mM, ih]
end
/-- the heap's keys and values are these -/
def KvR (K : PySem.W.Frag) (F : Hp) (kvs : List (Key × V)) (m : List (Key × D)) : Prop := kvs.map (·.1) = m.map (·.1) ∧ RpA K F (kvs.map (·.2)) (m.map (·.2))
section
variable {K : PySem.W.Frag} {F F' : Hp}
theorem KvR.mono {kvs : List (Key × V)} {m : List (Key × D)} (h : KvR K F kvs m) (e : Ex F F') : KvR K F' kvs m := ⟨h.1, h.2.mono e⟩
theorem KvR.nil : KvR K F [] [] := ⟨rfl, .nil⟩
theorem KvR.cons {k : Key} {v : V} {d : D} {kvs : List (Key × V)} {m : List (Key × D)} (r : Rp K F v d) (h : KvR K F kvs m) : KvR K F ((k, v) :: kvs) ((k, d) :: m) := ⟨by rw [List.map_cons, List.map_cons, h.1], .cons r h.2⟩
theorem KvR.inv {p : Key × V} {kvs : List (Key × V)} {m : List (Key × D)} (h : KvR K F (p :: kvs) m) : ∃ d m', m = (p.1, d) :: m' ∧ Rp K F p.2 d ∧ KvR K F kvs m' := by
  obtain ⟨h1, h2⟩ := h
  cases m with
  | nil => simp at h1
  | cons q m =>
    rw [List.map_cons, List.map_cons] at h1 h2
    injection h1 with e1 e2
    cases h2 with
    | cons a b => exact ⟨q.2, m, by rw [e1], a, e2, b⟩
theorem KvR.inv0 {m : List (Key × D)} (h : KvR K F [] m) : m = [] := by
  cases m with
  | nil => rfl
  | cons q m => cases h.1
theorem KvR.len {kvs : List (Key × V)} {m : List (Key × D)} (h : KvR K F kvs m) : kvs.length = m.length := by
  have := congrArg List.length h.1
  rwa [List.length_map, List.length_map] at this
theorem KvR.get {k : Key} : ∀ {kvs : List (Key × V)} {m : List (Key × D)}, KvR K F kvs m → (valV kvs k = none ∧ getP m k = none) ∨ ∃ v d, valV kvs k = some v ∧ getP m k = some d ∧ Rp K F v d
  | [], m, h => by rw [h.inv0]; exact .inl ⟨rfl, rfl⟩
  | p :: kvs, m, h => by
    obtain ⟨d, m', rfl, r, h'⟩ := h.inv
    rw [getP_cons]
    by_cases z : p.1 = k
    · rw [valV_pos z, if_pos z]; exact .inr ⟨_, _, rfl, rfl, r⟩
    · rw [valV_neg z, if_neg z]; exact h'.get
theorem KvR.app {kvs kws : List (Key × V)} {m n : List (Key × D)} (h : KvR K F kvs m) (g : KvR K F kws n) : KvR K F (kvs ++ kws) (m ++ n) := ⟨by rw [List.map_append, List.map_append, h.1, g.1], by rw [List.map_append, List.map_append]; exact g.2.app h.2⟩
theorem KvR.put {kvs : List (Key × V)} {m : List (Key × D)} {k : Key} {v : V} {d : D} (h : KvR K F kvs m) (r : Rp K F v d) : KvR K F (putK kvs k v) (putP m k d) := by
  have ha : (kvs.any fun p => decide (p.1 = k)) = (m.any fun p => decide (p.1 = k)) := Bool.eq_iff_iff.mpr (by rw [any_iff, any_iff, h.1])
  have hm : KvR K F (kvs.map fun p => if p.1 = k then (p.1, v) else p) (m.map fun p => if p.1 = k then (p.1, d) else p) := by
    clear ha
    induction kvs generalizing m with
    | nil => rw [h.inv0]; exact .nil
    | cons p kvs ih =>
      obtain ⟨d', m', rfl, r', h'⟩ := h.inv
      rw [List.map_cons, List.map_cons]
      by_cases z : p.1 = k
      · rw [if_pos z, if_pos z]; exact .cons r (ih h')
      · rw [if_neg z, if_neg z]; exact .cons r' (ih h')
  unfold L2.putK putP
  rw [← ha]
  split
  · exact hm
  · exact h.app (.cons r .nil)
theorem KvR.drop {kvs : List (Key × V)} {m : List (Key × D)} {k : Key} (h : KvR K F kvs m) : KvR K F (dropK kvs k) (dropP m k) := by
  unfold dropK dropP
  induction kvs generalizing m with
  | nil => rw [h.inv0]; exact .nil
  | cons p kvs ih =>
    obtain ⟨d', m', rfl, r', h'⟩ := h.inv
    by_cases z : p.1 = k
    · rw [List.filter_cons_of_neg (by simp [z]), List.filter_cons_of_neg (by simp [z])]; exact ih h'
    · rw [List.filter_cons_of_pos (by simpa using z), List.filter_cons_of_pos (by simpa using z)]; exact .cons r' (ih h')
theorem KvR.merge {more : List (Key × V)} {n : List (Key × D)} (g : KvR K F more n) : ∀ {kvs : List (Key × V)} {m : List (Key × D)}, KvR K F kvs m → KvR K F (mergeK kvs more) (mergeP m n) := by
  induction more generalizing n with
  | nil => intro kvs m h; rw [g.inv0]; exact h
  | cons p r ih =>
    intro kvs m h
    obtain ⟨d', n', rfl, r', g'⟩ := g.inv
    exact ih g' (h.put r')
theorem rp_dc {v : V} {m : List (Key × D)} (h : Rp K F v (.dc m)) : ∃ a kvs, v = .ref a ∧ Rd F a (.dK kvs) ∧ KvR K F kvs m ∧ (m.map (·.1)).Nodup := by
  cases h with | dct a k n b => exact ⟨_, _, rfl, a, ⟨k, b⟩, n⟩
theorem KvR.rp {a : Addr} {kvs : List (Key × V)} {m : List (Key × D)} (h : KvR K F kvs m) (nd : (m.map (·.1)).Nodup) (r : Rd F a (.dK kvs)) : Rp K F (.ref a) (.dc m) := .dct r h.1 nd h.2
theorem kD_of {v : V} {k : Key} (h : Rp K F v (kD k)) : v = kV k := by
  cases k <;> cases h <;> rfl
end
/-- a dict, shown or the def's own -/
def DcE (e : E) (P : List (Key × D) → Prop) : Prop := ∃ m, (e = .d (.dc m) ∨ e = .dm m) ∧ P m
theorem dce_d {m : List (Key × D)} {P : List (Key × D) → Prop} (h : P m) : DcE (.d (.dc m)) P := ⟨m, .inl rfl, h⟩
theorem dce_o {m : List (Key × D)} {P : List (Key × D) → Prop} (h : P m) : DcE (.dm m) P := ⟨m, .inr rfl, h⟩
def KyE (e : E) (P : Key → Prop) : Prop := ∃ k, e = .d (kD k) ∧ P k
theorem kye_i {i : Int} {P : Key → Prop} (h : P (.inl i)) : KyE (.d (.int i)) P := ⟨.inl i, rfl, h⟩
theorem kye_s {i : Str} {P : Key → Prop} (h : P (.inr i)) : KyE (.d (.str i)) P := ⟨.inr i, rfl, h⟩
section
variable {K : PySem.W.Frag} {ρ : List E} {P : List D → Prop} {tl te td ty tx ta tb : TE} {tas : TA} {tt : TT} {g : TG} {ts : TS} {vs : List Nat} {N B C : List E → Prop} {R : D → Prop} {QN : List D → Prop} {Q : E → Prop} {U : Vx} {L : Ow} {G H : Hp}
theorem slot_dc {e : E} {v : V} {m : List (Key × D)} (he : e = .d (.dc m) ∨ e = .dm m) (s : SlotV K U L G e v) (j : J (U.hides L) H G) : ∃ a kvs, v = .ref a ∧ Rd H a (.dK kvs) ∧ KvR K G kvs m ∧ (m.map (·.1)).Nodup := by
  rcases he with rfl | rfl
  · obtain ⟨a, kvs, e1, e2, e3, e4⟩ := rp_dc (show Rp K G v (.dc m) from s)
    exact ⟨a, kvs, e1, ex_rd j.up e2, e3, e4⟩
  · obtain ⟨a, kvs, e1, e2, e3, e4, e5⟩ := s
    exact ⟨a, kvs, e1, .inl (j.at e2), ⟨e3, e5⟩, e4⟩
theorem de_dget (h : DE K td ρ fun x => DcE x fun m => DE K ty ρ fun y => KyE y fun k => ∃ d, getP m k = some d ∧ Q (.d d)) : DE K (tDGet td ty) ρ Q := fun U σ L G o H j QH q =>
  h U σ L G o H j _ fun v H1 G1 j1 ⟨e1, x, sx, m, hx, h2⟩ => h2 U σ L G1 (o.mono e1) H1 j1 _ fun w H2 G2 j2 ⟨e2, y, sy, k, hy, d, hd, kq⟩ => by
    obtain ⟨a, kvs, rfl, r, kr, nd⟩ := slot_dc hx (sx.mono e2) j2
    subst hy
    rcases kr.get (k := k) with ⟨_, z⟩ | ⟨v, d', z1, z2, z3⟩
    · rw [hd] at z; cases z
    · rw [hd] at z2; cases z2
      refine ⟨a, v, rfl, .inl ⟨kvs, k, r, kD_of sy, z1.symm⟩, q _ _ _ j2 ⟨e1.trans e2, .d d, z3, kq⟩⟩
theorem getP_sm {kvs : List (Key × V)} {m : List (Key × D)} {k : Key} (kr : KvR K G kvs m) : (valV kvs k).isSome = (getP m k).isSome := by
  rcases kr.get (k := k) with ⟨z1, z2⟩ | ⟨v, d, z1, z2, _⟩ <;> rw [z1, z2] <;> rfl
theorem de_din (h : DE K ty ρ fun y => KyE y fun k => DE K td ρ fun x => DcE x fun m => Q (.d (.bl (getP m k).isSome))) : DE K (tDIn ty td) ρ Q := fun U σ L G o H j QH q =>
  h U σ L G o H j _ fun w H1 G1 j1 ⟨e1, y, sy, k, hy, h2⟩ => h2 U σ L G1 (o.mono e1) H1 j1 _ fun v H2 G2 j2 ⟨e2, x, sx, m, hx, kq⟩ => by
    obtain ⟨a, kvs, rfl, r, kr, nd⟩ := slot_dc hx sx j2
    subst hy
    exact ⟨a, _, rfl, .inl ⟨kvs, k, r, kD_of sy, rfl⟩, q _ _ _ j2 ⟨e1.trans e2, .d (.bl _), .bl _, by rw [getP_sm kr]; exact kq⟩⟩
theorem de_dnotin (h : DE K ty ρ fun y => KyE y fun k => DE K td ρ fun x => DcE x fun m => Q (.d (.bl (!(getP m k).isSome)))) : DE K (tDNotIn ty td) ρ Q := fun U σ L G o H j QH q =>
  h U σ L G o H j _ fun w H1 G1 j1 ⟨e1, y, sy, k, hy, h2⟩ => h2 U σ L G1 (o.mono e1) H1 j1 _ fun v H2 G2 j2 ⟨e2, x, sx, m, hx, kq⟩ => by
    obtain ⟨a, kvs, rfl, r, kr, nd⟩ := slot_dc hx sx j2
    subst hy
    exact ⟨a, _, rfl, .inl ⟨kvs, k, r, kD_of sy, rfl⟩, q _ _ _ j2 ⟨e1.trans e2, .d (.bl _), .bl _, by rw [getP_sm kr]; exact kq⟩⟩
theorem de_dget1 (h : DE K td ρ fun x => DcE x fun m => DE K ty ρ fun y => KyE y fun k => Q (.d ((getP m k).getD .non))) : DE K (tDGet1 td ty) ρ Q := fun U σ L G o H j QH q =>
  h U σ L G o H j _ fun v H1 G1 j1 ⟨e1, x, sx, m, hx, h2⟩ => by
    obtain ⟨a, kvs, rfl, r, _, _⟩ := slot_dc hx sx j1
    refine ⟨a, rfl, .inl ⟨kvs, r⟩, h2 U σ L G1 (o.mono e1) H1 j1 _ fun w H2 G2 j2 ⟨e2, y, sy, k, hy, kq⟩ => ?_⟩
    obtain ⟨a', kvs, ea, r, kr, nd⟩ := slot_dc hx (sx.mono e2) j2
    cases ea
    subst hy
    refine ⟨_, .inl ⟨kvs, k, r, kD_of sy, rfl⟩, q _ _ _ j2 ⟨e1.trans e2, .d ((getP m k).getD .non), ?_, kq⟩⟩
    rcases kr.get (k := k) with ⟨z1, z2⟩ | ⟨v, d, z1, z2, z3⟩
    · rw [z1, z2]; exact Rp.non
    · rw [z1, z2]; exact z3
theorem de_dget2 (h : DE K td ρ fun x => DcE x fun m => DE K ty ρ fun y => KyE y fun k => DE K tx ρ fun z => DD z fun dz => Q (.d ((getP m k).getD dz))) : DE K (tDGet2 td ty tx) ρ Q := fun U σ L G o H j QH q =>
  h U σ L G o H j _ fun v H1 G1 j1 ⟨e1, x, sx, m, hx, h2⟩ => by
    obtain ⟨a, kvs, rfl, r, _, _⟩ := slot_dc hx sx j1
    refine ⟨a, rfl, .inl ⟨kvs, r⟩, h2 U σ L G1 (o.mono e1) H1 j1 _ fun w H2 G2 j2 ⟨e2, y, sy, k, hy, h3⟩ => h3 U σ L G2 (o.mono (e1.trans e2)) H2 j2 _ fun u H3 G3 j3 ⟨e3, z, sz, dz, hz, kq⟩ => ?_⟩
    obtain ⟨a', kvs, ea, r, kr, nd⟩ := slot_dc hx (sx.mono (e2.trans e3)) j3
    cases ea
    subst hy hz
    refine ⟨_, .inl ⟨kvs, k, r, kD_of sy, rfl⟩, q _ _ _ j3 ⟨(e1.trans e2).trans e3, .d ((getP m k).getD dz), ?_, kq⟩⟩
    rcases kr.get (k := k) with ⟨z1, z2⟩ | ⟨v, d, z1, z2, z3⟩
    · rw [z1, z2]; exact sz
    · rw [z1, z2]; exact z3
/-! ### new dicts -/
def DNM (K : PySem.W.Frag) (te : TE) (ρ : List E) (Q : List (Key × D) → Prop) : Prop := DND K te ρ fun ks ds => ∃ m, ks = m.map (·.1) ∧ ds = m.map (·.2) ∧ Q m
variable {QM : List (Key × D) → Prop}
theorem de_newD (h : DNM K te ρ fun m => Q (.d (.dc m))) : DE K te ρ Q := fun U σ L G o =>
  (h U σ L G o).w fun v G' ⟨p, kvs, ks, ds, G1, ev, e1, np, e2, gp, hk, hn, k, m, em, en, q⟩ => ⟨e1.trans e2, .d (.dc m), by subst ev em en; exact Rp.dct (.inl gp) hk hn (k.mono e2), q⟩
theorem ds_ownM {i : Nat} (h : DNM K te ρ fun m => SetTo ρ i (.dm m) N) : DS K (tAsg te (gName i)) ρ N B C R := ds_ownD fun U σ L G o => (h U σ L G o).w fun v G' ⟨p, kvs, ks, ds, G1, ev, e1, np, e2, gp, hk, hn, k, m, em, en, q⟩ => ⟨p, kvs, ks, ds, G1, ev, e1, np, e2, gp, hk, hn, k, by subst em en; exact q⟩
theorem dnm_mk {G G1 G' : Hp} {p : Addr} {kvs : List (Key × V)} {m : List (Key × D)} (e1 : Ex G G1) (np : G1 p = none) (e2 : Ex G1 G') (gp : G' p = some (.dK kvs)) (k : KvR K G1 kvs m) (nd : (m.map (·.1)).Nodup) (q : QM m) : ∃ p' kvs ks ds G1, V.ref p = .ref p' ∧ Ex G G1 ∧ G1 p' = none ∧ Ex G1 G' ∧ G' p' = some (.dK kvs) ∧ kvs.map (·.1) = ks ∧ ks.Nodup ∧ RpA K G1 (kvs.map (·.2)) ds ∧ ∃ m, ks = m.map (·.1) ∧ ds = m.map (·.2) ∧ QM m :=
  ⟨p, kvs, _, _, G1, rfl, e1, np, e2, gp, k.1, nd, k.2, m, rfl, rfl, q⟩
theorem dn_dnew (h : QM []) : DNM K tDNewK ρ QM := fun U σ L G o H j QH q => fun p hp => q _ _ _ (j.alloc hp) (dnm_mk (Ex.refl G) (j.free hp) (Ex.new (j.free hp)) upd_same .nil List.nodup_nil h)
/-- dict(d), dict(pairs) -/
def rDictA (K : PySem.W.Frag) : List V → Hp → VK → Prop := fun xs H Q => (∃ a kvs, xs = [.ref a] ∧ Rd H a (.dK kvs) ∧ ∀ p, H p = none → Q (.ref p) (upd H p (.dK kvs))) ∨
  ∃ (a : Addr) (ps : List Addr) (kvs : List (Key × V)), xs = [.ref a] ∧ SqL K H a (ps.map V.ref) ∧ Paired (fun p kv => SqT K H p [kV kv.1, kv.2]) ps kvs ∧ ∀ p, H p = none → Q (.ref p) (upd H p (.dK (mergeK [] kvs)))
theorem kr_dict {X : Cx} (h : X.K = K := by rfl) (hc : X.calm = true := by rfl) : CallR X (.type "dict") (rDictA K) := by
  subst h
  refine CallR.or (fun pins s σ H xs us Q I r hq => ?_) (call_dictP hc)
  obtain ⟨a, kvs, rfl, hd, q⟩ := hq
  rw [Vals.ref1 r]
  exact d_copyOf I hd fun p s' hp I' => ⟨.ref p, _, I', rfl, q p hp⟩
theorem dn_copy (h : DE K te ρ fun x => DcE x fun m => QM m) : DNM K (tCB (rDictA K) (tCons te tNil)) ρ QM := fun U σ L G o H j QH q =>
  h U σ L G o H j _ fun v H1 G1 j1 ⟨e1, x, sx, m, hx, k⟩ => by
    obtain ⟨a, kvs, rfl, r, kr, nd⟩ := slot_dc hx sx j1
    exact .inl ⟨a, kvs, rfl, r, fun p hp => q _ _ _ (j1.alloc hp) (dnm_mk e1 (j1.free hp) (Ex.new (j1.free hp)) upd_same kr nd k)⟩
def pairD (p : Key × D) : D := .tup [kD p.1, p.2]
theorem pairs_of' {G : Hp} : ∀ {m : List (Key × D)} {vs : List V}, RpA K G vs (m.map pairD) → ∃ (ps : List Addr) (kvs : List (Key × V)), vs = ps.map V.ref ∧ Paired (fun p kv => SqT K G p [kV kv.1, kv.2]) ps kvs ∧ KvR K G kvs m
  | [], vs, h => by cases h; exact ⟨[], [], rfl, .nil, .nil⟩
  | p :: m, vs, h => by
    cases h with
    | cons a b =>
      obtain ⟨ps, kvs, e, pr, kr⟩ := pairs_of' b
      subst e
      cases (a : Rp K G _ (.tup [kD p.1, p.2])) with
      | tup x y =>
        cases y with
        | cons y1 y =>
          cases y with
          | cons y2 y =>
            cases y
            rw [kD_of y1] at x
            exact ⟨_ :: ps, (p.1, _) :: kvs, rfl, .cons x pr, .cons y2 kr⟩
theorem paired_mono {α β : Type} {A A' : α → β → Prop} (h : ∀ x y, A x y → A' x y) : ∀ {xs : List α} {ys : List β}, Paired A xs ys → Paired A' xs ys
  | _, _, .nil => .nil
  | _, _, .cons a b => .cons (h _ _ a) (paired_mono h b)
theorem dn_dictP (h : DE K te ρ fun x => ∃ m, (x = .d (.lst (m.map pairD)) ∨ x = .own (m.map pairD)) ∧ QM (mergeP [] m)) : DNM K (tCB (rDictA K) (tCons te tNil)) ρ QM := fun U σ L G o H j QH q =>
  h U σ L G o H j _ fun v H1 G1 j1 ⟨e1, x, sx, m, hx, k⟩ => by
    have z : ∃ a vs, v = .ref a ∧ SqL K H1 a vs ∧ RpA K G1 vs (m.map pairD) := by
      rcases hx with rfl | rfl
      · cases (sx : Rp K G1 v (.lst (m.map pairD))) with | lst a b => exact ⟨_, _, rfl, sq_of (j1.up _ _ a), b⟩
      · obtain ⟨a, vs, rfl, hm, b⟩ := sx; exact ⟨_, _, rfl, sq_of (j1.at hm), b⟩
    obtain ⟨a, vs, rfl, hs, ra⟩ := z
    obtain ⟨ps, kvs, rfl, pr, kr⟩ := pairs_of' ra
    exact .inr ⟨a, ps, kvs, rfl, hs, paired_mono (fun _ _ t => ex_t j1.up t) pr, fun p hp => q _ _ _ (j1.alloc hp) (dnm_mk e1 (j1.free hp) (Ex.new (j1.free hp)) upd_same (kr.merge .nil) (mergeP_nodup _ _ List.nodup_nil) k)⟩
/-! ### what is stored and taken away -/
theorem ds_dput {i : Nat} (h : DE K tx ρ fun z => DD z fun dz => ∃ m, ρ[i]? = some (.dm m) ∧ DE K ty ρ fun y => KyE y fun k => m.length < 16000000 ∧ SetTo ρ i (.dm (putP m k dz)) N) : DS K (sDPut (tVar i) ty tx) ρ N B C R := fun U σ L G Dn o n b c r H j => by
  refine h U σ L G o H j _ fun w H1 G1 j1 ⟨e1, x, sx, d, ed, m, hi, k2⟩ => ?_
  obtain ⟨v, h3, a, kvs, rfl, hm, hk, hn, k⟩ := (o.mono e1).at hi rfl
  obtain ⟨n1, n2, _⟩ := o.lo.nm _ hm
  refine ⟨_, h3, k2 U σ L G1 (o.mono e1) H1 j1 _ fun y H2 G2 j2 ⟨e2, z, sz, key, em, hz, ρ', hr, kn⟩ => ?_⟩
  subst ed em hr
  have kr : KvR K G2 kvs m := ⟨hk, k.mono e2⟩
  have kr' := kr.put (k := key) (SlotV.mono sx e2 : Rp K G2 w d)
  refine ⟨a, _, rfl, .inl ⟨kvs, key, j2.at hm, kD_of sz, by rw [kr.len]; exact Nat.lt_of_lt_of_le hz (by decide), rfl⟩, ?_⟩
  exact n _ _ _ _ kn ((o.mono (e1.trans e2)).chg hi rfl dic1 h3 hm (.dic (mem_setO_self hm) kr'.1 (putP_nodup (by rw [← hk] at hn ⊢; exact hn)) kr'.2)) (e1.trans e2) _ (j2.chg hm rfl n1 n2)
/-- d.pop(k, x), the value forgotten -/
theorem ds_dpop {i : Nat} (h : ∃ m, ρ[i]? = some (.dm m) ∧ DE K ty ρ fun y => KyE y fun k => DE K tx ρ fun z => (SetTo ρ i (.dm (dropP m k)) N)) : DS K (tDrop (tDPop2 (tVar i) ty tx)) ρ N B C R := fun U σ L G Dn o n b c r H j => by
  obtain ⟨m, hi, h⟩ := h
  obtain ⟨v, h3, a, kvs, rfl, hm, hk, hn, k⟩ := o.at hi rfl
  obtain ⟨n1, n2, _⟩ := o.lo.nm _ hm
  refine ⟨_, h3, a, rfl, .inl ⟨kvs, .inl (j.at hm)⟩, h U σ L G o H j _ fun y H1 G1 j1 ⟨e1, x, sx, key, ek, h2⟩ => h2 U σ L G1 (o.mono e1) H1 j1 _ fun z H2 G2 j2 ⟨e2, zz, sz, ρ', hr, kn⟩ => ?_⟩
  subst ek hr
  have kr : KvR K G2 kvs m := ⟨hk, k.mono (e1.trans e2)⟩
  have kr' := kr.drop (k := key)
  have o2 := o.mono (e1.trans e2)
  refine ⟨kvs, key, j2.at hm, kD_of sx, fun v _ => ?_, fun z0 => ?_⟩
  · exact n _ _ _ _ kn (o2.chg hi rfl dic1 h3 hm (.dic (mem_setO_self hm) kr'.1 (dropP_nodup (by rw [← hk] at hn ⊢; exact hn)) kr'.2)) (e1.trans e2) _ (j2.chg hm rfl n1 n2)
  · have en : dropP m key = m := by
      have hg : getP m key = none := by
        rcases kr.get (k := key) with ⟨_, z⟩ | ⟨v, d, z1, _⟩
        · exact z
        · rw [z0] at z1; cases z1
      unfold dropP
      rw [List.filter_eq_self]
      intro p hp
      have := getP_none.mp hg
      simp only [ne_eq, decide_not, Bool.not_eq_true', decide_eq_false_iff_not]
      exact fun z => this (List.mem_map.mpr ⟨p, hp, z⟩)
    have es : ρ.set i (.dm (dropP m key)) = ρ := by
      rw [en]
      refine List.ext_getElem? fun q => ?_
      by_cases z : i = q
      · subst z; rw [List.getElem?_set_self (List.getElem?_eq_some_iff.mp hi).1, hi]
      · rw [List.getElem?_set_ne z]
    exact n _ σ _ _ kn (by rw [es]; exact o2) (e1.trans e2) _ j2
/-! ### len -/
def rLenA (K : PySem.W.Frag) : List V → Hp → VK → Prop := fun xs H Q => rLenQ K xs H Q ∨ ∃ a kvs, xs = [.ref a] ∧ Rd H a (.dK kvs) ∧ Q (.int kvs.length) H
theorem kq_lenA {X : Cx} (h : X.K = K := by rfl) : CallR X (.builtin "len") (rLenA K) := by
  refine CallR.or (kq_len h) fun pins s σ H xs us Q I r hq => ?_
  obtain ⟨a, kvs, rfl, hd, q⟩ := hq
  rw [Vals.ref1 r]
  exact d_len I hd fun t s' I' => ⟨.int kvs.length, H, I', ⟨t, rfl⟩, q⟩
theorem de_lenA (h : DE K te ρ fun x => (∃ ds, (x = .d (.lst ds) ∨ x = .d (.tup ds) ∨ x = .own ds) ∧ Q (.d (.int (ds.length : Nat)))) ∨ DcE x fun m => Q (.d (.int (m.length : Nat)))) : DE K (tCB (rLenA K) (tCons te tNil)) ρ Q := fun U σ L G o H j QH q =>
  h U σ L G o H j _ fun v H1 G1 j1 ⟨e1, x, sx, hx⟩ => by
    rcases hx with ⟨ds, hx, k⟩ | ⟨m, hx, k⟩
    · have z : ∃ a vs, v = .ref a ∧ (SqL K H1 a vs ∨ SqT K H1 a vs) ∧ vs.length = ds.length := by
        rcases hx with rfl | rfl | rfl
        · cases (sx : Rp K G1 v (.lst ds)) with | lst a b => exact ⟨_, _, rfl, .inl (sq_of (j1.up _ _ a)), b.len⟩
        · cases (sx : Rp K G1 v (.tup ds)) with | tup a b => exact ⟨_, _, rfl, .inr (ex_t j1.up a), b.len⟩
        · obtain ⟨a, vs, rfl, hm, b⟩ := sx; exact ⟨_, _, rfl, .inl (sq_of (j1.at hm)), b.len⟩
      obtain ⟨a, vs, rfl, hs, hl⟩ := z
      exact .inl ⟨a, vs, rfl, hs, q _ _ _ j1 ⟨e1, .d (.int (ds.length : Nat)), by rw [hl]; exact .int _, k⟩⟩
    · obtain ⟨a, kvs, rfl, r, kr, nd⟩ := slot_dc hx sx j1
      exact .inr ⟨a, kvs, rfl, r, q _ _ _ j1 ⟨e1, .d (.int (m.length : Nat)), by rw [kr.len]; exact .int _, k⟩⟩
end
end
end Wp

set_option Elab.async false
set_option linter.all false
set_option maxRecDepth 100000
set_option maxHeartbeats 4000000
/-! Walks over dicts: locked while they last. Dict comprehensions. -/
namespace Wp
section
open PySem L2 Evl StX
set_option autoImplicit false
section
variable {K : PySem.W.Frag} {F F' : Hp} {a : Addr} {od : Obj} {kvs : List (Key × V)}
theorem rp_map (hl : ∀ b xs, F b = some (.lst xs) → F' b = some (.lst xs)) (ht : ∀ b xs, SqT K F b xs → SqT K F' b xs) (ho : ∀ b C dx fs, F b = some (.ins C dx fs) → F' b = some (.ins C dx fs)) (hd : ∀ b ws, Rd F b (.dK ws) → Rd F' b (.dK ws)) : ∀ (d : D) (v : V), Rp K F v d → Rp K F' v d
  | .non, v, h => by cases h; exact .non
  | .bl b, v, h => by cases h; exact .bl b
  | .int b, v, h => by cases h; exact .int b
  | .str b, v, h => by cases h; exact .str b
  | .lst ds, v, h => by cases h with | lst x b => exact .lst (hl _ _ x) (all ds _ b)
  | .tup ds, v, h => by cases h with | tup x b => exact .tup (ht _ _ x) (all ds _ b)
  | .obj C ks ds, v, h => by cases h with | obj x k b => exact .obj (ho _ _ _ _ x) k (all ds _ b)
  | .dct ks ds, v, h => by cases h with | dct x k n b => exact .dct (hd _ _ x) k n (all ds _ b)
  | .adr a, v, h => by cases h; exact .adr a
where
  all : ∀ (ds : List D) (vs : List V), RpA K F vs ds → RpA K F' vs ds
  | [], vs, h => by cases h; exact .nil
  | d :: ds, vs, h => by cases h with | cons x b => exact .cons (rp_map hl ht ho hd d _ x) (all ds _ b)
theorem frz_of (h : F a = some (.dK kvs)) : ∀ b xs, SqT K F b xs → SqT K (upd F a (.frz od (.dK kvs))) b xs := fun b xs hs => by
  rcases hs with (hs | ⟨o, hs⟩) | hs
  · exact .inl (.inl (by rw [upd_ne (fun z => by rw [z, h] at hs; cases hs)]; exact hs))
  · exact .inl (.inr ⟨o, by rw [upd_ne (fun z => by rw [z, h] at hs; cases hs)]; exact hs⟩)
  · exact .inr hs
theorem rp_lock (h : F a = some (.dK kvs)) {v : V} {d : D} (r : Rp K F v d) : Rp K (upd F a (.frz od (.dK kvs))) v d :=
  rp_map (fun b xs e => by rw [upd_ne (fun z => by rw [z, h] at e; cases e)]; exact e) (frz_of h) (fun b C dx fs e => by rw [upd_ne (fun z => by rw [z, h] at e; cases e)]; exact e) (fun b ws e => by
    by_cases z : b = a
    · subst z
      rcases e with e | ⟨o, e⟩
      · rw [h] at e; cases e; exact .inr ⟨od, upd_same⟩
      · rw [h] at e; cases e
    · rcases e with e | ⟨o, e⟩
      · exact .inl (by rw [upd_ne z]; exact e)
      · exact .inr ⟨o, by rw [upd_ne z]; exact e⟩) d v r
theorem rp_unlock (h : F a = some (.frz od (.dK kvs))) {v : V} {d : D} (r : Rp K F v d) : Rp K (upd F a (.dK kvs)) v d :=
  rp_map (fun b xs e => by rw [upd_ne (fun z => by rw [z, h] at e; cases e)]; exact e) (fun b xs hs => by
    rcases hs with (hs | ⟨o, hs⟩) | hs
    · exact .inl (.inl (by rw [upd_ne (fun z => by rw [z, h] at hs; cases hs)]; exact hs))
    · exact .inl (.inr ⟨o, by rw [upd_ne (fun z => by rw [z, h] at hs; cases hs)]; exact hs⟩)
    · exact .inr hs) (fun b C dx fs e => by rw [upd_ne (fun z => by rw [z, h] at e; cases e)]; exact e) (fun b ws e => by
    by_cases z : b = a
    · subst z
      rcases e with e | ⟨o, e⟩
      · rw [h] at e; cases e
      · rw [h] at e; cases e; exact .inl upd_same
    · rcases e with e | ⟨o, e⟩
      · exact .inl (by rw [upd_ne z]; exact e)
      · exact .inr ⟨o, by rw [upd_ne z]; exact e⟩) d v r
theorem rpa_gen (f : ∀ v d, Rp K F v d → Rp K F' v d) : ∀ {vs : List V} {ds : List D}, RpA K F vs ds → RpA K F' vs ds
  | _, _, .nil => .nil
  | _, _, .cons x y => .cons (f _ _ x) (rpa_gen f y)
theorem odr_gen (f : ∀ v d, Rp K F v d → Rp K F' v d) (fx : ∀ b φ, F b = some (.ext φ) → F' b = some (.ext φ)) {w : OD} {o : HO} (h : ODr K F w o) : ODr K F' w o := by
  cases h with
  | ins a b => exact .ins a (rpa_gen f b)
  | dct a n b => exact .dct a n (rpa_gen f b)
  | lst b => exact .lst (rpa_gen f b)
  | tab a b => exact .tab a fun pos cv hc => let ⟨c, h1, h2⟩ := b pos cv hc; ⟨c, h1, fx _ _ h2⟩
theorem sv_gen {U U' : Vx} {L : Ow} (f : ∀ v d, Rp K F v d → Rp K F' v d) (fx : ∀ b φ, F b = some (.ext φ) → F' b = some (.ext φ)) (hs : ∀ b xs, SqL K F b xs → SqL K F' b xs) (hc : ∀ b I, CellOk U b I → CellOk U' b I) (hd : ∀ b, DrawOk U b → DrawOk U' b) : ∀ (e : E) (v : V) (Fp : List Addr), Sv K U L F e v Fp → Sv K U' L F' e v Fp
  | .any, v, Fp, h => by cases h; exact .any _
  | .d d, v, Fp, h => by cases h with | d r => exact .d (f _ _ r)
  | .own ds, v, Fp, h => by cases h with | own m r => exact .own m (rpa_gen f r)
  | .dic ks ds, v, Fp, h => by cases h with | dic m k n r => exact .dic m k n (rpa_gen f r)
  | .ob C ks es, v, Fp, h => by cases h with | ob m k s => exact .ob m k (all es _ _ s)
  | .lo es, v, Fp, h => by cases h with | lo m s => exact .lo m (all es _ _ s)
  | .st, v, Fp, h => by cases h with | st d => exact .st (hd _ d)
  | .sc, v, Fp, h => by cases h with | sc s => exact .sc (hs _ _ s)
  | .cd d cs, v, Fp, h => by cases h with | cd r q => exact .cd (f _ _ r) fun c hm => (q c hm).imp (hc _ _) id
  | .oa b w, v, Fp, h => by cases h with | oa m r => exact .oa m (odr_gen f fx r)
  | .nd ad d ws, v, Fp, h => by cases h with | nd ha r q => exact .nd ha (f _ _ r) fun p hp => let ⟨o, h1, h2⟩ := q p hp; ⟨o, h1, odr_gen f fx h2⟩
where
  all : ∀ (es : List E) (vs : List V) (Fp : List Addr), SvA K U L F es vs Fp → SvA K U' L F' es vs Fp
  | [], vs, Fp, h => by cases h; exact .nil
  | e :: es, vs, Fp, h => by cases h with | cons x y => exact .cons (sv_gen f fx hs hc hd e _ _ x) (all es _ _ y)
def Vx.lk (U : Vx) (a : Addr) (u : HO) : Vx := ⟨fun b => if b = a then (if U.He a = none then none else some u) else U.He b, fun b => if b = a then (if U.Ge a = none then none else some u) else U.Ge b, U.I, U.m, U.st⟩
theorem lkn_none {U : Vx} {a b : Addr} {u : HO} (h : U.He b = none) : (U.lk a u).He b = none := by
  show (if b = a then (if U.He a = none then none else some u) else U.He b) = none
  by_cases z : b = a
  · subst z; rw [if_pos rfl, if_pos h]
  · rw [if_neg z]; exact h
theorem lk_noneG {U : Vx} {a b : Addr} {u : HO} (h : U.Ge b = none) : (U.lk a u).Ge b = none := by
  show (if b = a then (if U.Ge a = none then none else some u) else U.Ge b) = none
  by_cases z : b = a
  · subst z; rw [if_pos rfl, if_pos h]
  · rw [if_neg z]; exact h
theorem lk_back {U : Vx} {a b : Addr} {u : HO} (h : (U.lk a u).He b = none) : U.He b = none := by
  have h : (if b = a then (if U.He a = none then none else some u) else U.He b) = none := h
  by_cases z : b = a
  · subst z; rw [if_pos rfl] at h
    by_cases y : U.He b = none
    · exact y
    · rw [if_neg y] at h; cases h
  · rw [if_neg z] at h; exact h
theorem CellOk.lk {U : Vx} {b : Addr} {I : HO → Prop} (c : CellOk U b I) (a : Addr) (u : HO) : CellOk (U.lk a u) b I := ⟨c.m, lkn_none c.ne, c.at_, c.to⟩
theorem DrawOk.lk {U : Vx} {b : Addr} (c : DrawOk U b) (a : Addr) (u : HO) : DrawOk (U.lk a u) b := ⟨c.m, lkn_none c.ne, c.at_, c.to⟩
theorem EnvOk.lk {U : Vx} {ρ : List E} {σ : L2.St} {L : Ow} (o : EnvOk K U ρ σ L F) (h : F a = some (.dK kvs)) (od : Obj) : EnvOk K (U.lk a (.frz od (.dK kvs))) ρ σ L (L2.upd F a (.frz od (.dK kvs))) := by
  obtain ⟨fp, of⟩ := o.fs
  refine ⟨o.len, ⟨fp, fun i e hi => ?_, of.nd, of.ds, of.il⟩, ⟨fun p hp => ⟨(o.lo.nm p hp).1, lkn_none (o.lo.nm p hp).2.1, lk_noneG (o.lo.nm p hp).2.2⟩, o.lo.fn⟩, fun b u e => ?_⟩
  · obtain ⟨u, h1, h2⟩ := of.sl i e hi
    exact ⟨u, h1, h2.imp id fun ⟨v, h3, h4⟩ => ⟨v, h3, sv_gen (fun v d r => rp_lock h r) (fun b φ e => by rw [upd_ne (fun z => by rw [z, h] at e; cases e)]; exact e) (fun b xs hs => by
      rcases hs with (hs | ⟨o, hs⟩) | hs
      · exact .inl (.inl (by rw [upd_ne (fun z => by rw [z, h] at hs; cases hs)]; exact hs))
      · exact .inl (.inr ⟨o, by rw [upd_ne (fun z => by rw [z, h] at hs; cases hs)]; exact hs⟩)
      · exact .inr hs) (fun b I c => c.lk _ _) (fun b c => c.lk _ _) _ _ _ h4⟩⟩
  · have e : (if b = a then (if U.Ge a = none then none else some _) else U.Ge b) = some u := e
    by_cases z : b = a
    · subst z
      rw [if_pos rfl] at e
      split at e
      · cases e
      · rw [upd_same]; exact e
    · rw [if_neg z] at e; rw [upd_ne z]; exact o.ge b u e
theorem J.lk {U : Vx} {H : Hp} (j : J U H F) (h : F a = some (.dK kvs)) (od : Obj) : J (U.lk a (.frz od (.dK kvs))) (upd H a (.frz od (.dK kvs))) (upd F a (.frz od (.dK kvs))) where
  up := ex_upd2 j.up
  keep := fun b u e => by
    have e : (if b = a then (if U.He a = none then none else some _) else U.He b) = some u := e
    by_cases z : b = a
    · subst z
      rw [if_pos rfl] at e
      split at e
      · cases e
      · rw [upd_same]; exact e
    · rw [if_neg z] at e; rw [upd_ne z]; exact j.keep b u e
  new := fun b q g => by
    by_cases z : b = a
    · subst z
      have : U.Ge b = none := by
        have g : (if b = b then (if U.Ge b = none then none else some _) else U.Ge b) = none := g
        rw [if_pos rfl] at g
        by_cases y : U.Ge b = none
        · exact y
        · rw [if_neg y] at g; cases g
      exact lkn_none (j.new b (by rw [h]; exact fun q => by cases q) this)
    · rw [upd_ne z] at q
      have g : (if b = a then (if U.Ge a = none then none else some _) else U.Ge b) = none := g
      rw [if_neg z] at g
      exact lkn_none (j.new b q g)
  hid := U.st H _ j.hid fun b mb => by
    have : b ≠ a := fun z => by subst z; rw [(j.msk b mb).1] at h; cases h
    rw [upd_ne this]
  msk := fun b mb => by
    have : b ≠ a := fun z => by subst z; rw [(j.msk b mb).1] at h; cases h
    rw [upd_ne this, upd_ne this]; exact j.msk b mb
theorem J.unlk {U : Vx} {H H2 G2 : Hp} (j0 : J U H F) (h0 : F a = some (.dK kvs)) (j : J (U.lk a (.frz od (.dK kvs))) H2 G2) (h : G2 a = some (.frz od (.dK kvs))) : J U (upd H2 a (.dK kvs)) (upd G2 a (.dK kvs)) where
  up := ex_upd2 j.up
  keep := fun b u e => by
    by_cases z : b = a
    · subst z
      have := j0.keep b u e
      rw [j0.up _ _ h0] at this
      rw [upd_same]; exact this
    · rw [upd_ne z]; exact j.keep b u (by show (if b = a then _ else U.He b) = some u; rw [if_neg z]; exact e)
  new := fun b q g => by
    by_cases z : b = a
    · subst z; exact lk_back (j.new b (by rw [h]; exact fun q => by cases q) (lk_noneG g))
    · rw [upd_ne z] at q; exact lk_back (j.new b q (lk_noneG g))
  hid := U.st H2 _ j.hid fun b mb => by
    have : b ≠ a := fun z => by subst z; rw [(j.msk b mb).1] at h; cases h
    rw [upd_ne this]
  msk := fun b mb => by
    have : b ≠ a := fun z => by subst z; rw [(j.msk b mb).1] at h; cases h
    rw [upd_ne this, upd_ne this]; exact j.msk b mb
theorem hides_lk {U : Vx} {L : Ow} {a : Addr} {u : HO} : (U.lk a u).hides L = (U.hides L).lk a u := rfl
end
/-- locked, if it is not so yet -/
def tLck (t : TE) : TE := fun σ H Q => tLockE t σ H Q ∨ t σ H Q
theorem pe_lck {X : Cx} {e : Expr} {t : TE} (h : PE X e t) : PE X e (tLck t) := ⟨fun pins s σ H Q I hh => hh.elim ((pe_lock h).run pins s σ H Q I) (h.run pins s σ H Q I)⟩
/-- the dict at slot i is locked -/
def FrzAt (K : PySem.W.Frag) (σ : L2.St) (G : Hp) (i : Nat) (m : List (Key × D)) : Prop := ∃ a od kvs, σ[i]? = some (some (.ref a)) ∧ G a = some (.frz od (.dK kvs)) ∧ KvR K G kvs m ∧ (m.map (·.1)).Nodup
section
variable {K : PySem.W.Frag} {ρ : List E} {te tk : TE} {tt : TT} {g : TG} {vs : List Nat} {Q : E → Prop} {QN : List D → Prop} {QM : List (Key × D) → Prop}
/-- what a lock needs of what comes of it -/
theorem em_lck {U : Vx} {σ : L2.St} {L : Ow} {G : Hp} {t : TE} {i : Nat} {m : List (Key × D)} (o : EnvOk K U ρ σ L G) (hi : ρ[i]? = some (.d (.dc m))) {PP : Hp → VK} (hP : ∀ G G2 a od kvs v, G a = some (.dK kvs) → G2 a = some (.frz od (.dK kvs)) → PP (upd G a (.frz od (.dK kvs))) v G2 → PP G v (upd G2 a (.dK kvs))) (hx : ∀ v G' G2, PP G' v G2 → Ex G' G2)
    (h : ∀ U G, EnvOk K U ρ σ L G → FrzAt K σ G i m → EM (U.hides L) t σ G (PP G)) : EM (U.hides L) (tLck t) σ G (PP G) := fun H j QH q => by
  obtain ⟨v, h3, h4⟩ := o.at hi rfl
  obtain ⟨a, kvs, rfl, r, kr, nd⟩ := rp_dc (show Rp K G v (.dc m) from h4)
  rcases r with r | ⟨od, r⟩
  · refine .inl ⟨a, .dK kvs, j.up _ _ r, trivial, fun od => ?_⟩
    have o' := o.lk r od
    have kr' : KvR K (upd G a (.frz od (.dK kvs))) kvs m := ⟨kr.1, rpa_gen (fun _ _ => rp_lock r) kr.2⟩
    refine h _ _ o' ⟨a, od, kvs, h3, upd_same, kr', nd⟩ _ (j.lk r od) _ fun v H2 G2 j2 p => ?_
    have g2 : G2 a = some (.frz od (.dK kvs)) := hx _ _ _ p _ _ upd_same
    exact ⟨j2.up _ _ g2, q v _ _ (J.unlk j r j2 g2) (hP _ _ _ _ _ _ r g2 p)⟩
  · exact .inr (h U G o ⟨a, od, kvs, h3, r, kr, nd⟩ H j QH q)
theorem ex_unlk {G G2 : Hp} {a : Addr} {od : Obj} {kvs : List (Key × V)} (h : G a = some (.dK kvs)) (e : Ex (upd G a (.frz od (.dK kvs))) G2) : Ex G (upd G2 a (.dK kvs)) := fun b u hb => by
  by_cases z : b = a
  · subst z; rw [h] at hb; cases hb; exact upd_same
  · rw [upd_ne z]; exact e b u (by rw [upd_ne z]; exact hb)
theorem dn_lck {t : TE} (i : Nat) {m : List (Key × D)} (hi : ρ[i]? = some (.d (.dc m))) (h : ∀ U σ L G, EnvOk K U ρ σ L G → FrzAt K σ G i m → EM (U.hides L) t σ G fun v G' => ∃ p vs ds G1, v = .ref p ∧ Ex G G1 ∧ G1 p = none ∧ Ex G1 G' ∧ G' p = some (.lst vs) ∧ RpA K G1 vs ds ∧ QN ds) : DN K (tLck t) ρ QN := fun U σ L G o =>
  em_lck o hi (PP := fun G v G' => ∃ p vs ds G1, v = .ref p ∧ Ex G G1 ∧ G1 p = none ∧ Ex G1 G' ∧ G' p = some (.lst vs) ∧ RpA K G1 vs ds ∧ QN ds) (fun G G2 a od kvs v h1 h2 ⟨p, vs, ds, G1, ev, e1, np, e2, gp, k, q⟩ => by
    have g1 : G1 a = some (.frz od (.dK kvs)) := e1 _ _ upd_same
    have na : p ≠ a := fun z => by subst z; rw [np] at g1; cases g1
    refine ⟨p, vs, ds, upd G1 a (.dK kvs), ev, ex_unlk h1 e1, by rw [upd_ne na]; exact np, ex_upd2 e2, by rw [upd_ne na]; exact gp, rpa_gen (fun _ _ => rp_unlock g1) k, q⟩) (fun v G' G2 ⟨p, vs, ds, G1, ev, e1, np, e2, _⟩ => e1.trans e2) (fun U G o' f => h U σ L G o' f)
theorem dnm_lck {t : TE} (i : Nat) {m : List (Key × D)} (hi : ρ[i]? = some (.d (.dc m))) (h : ∀ U σ L G, EnvOk K U ρ σ L G → FrzAt K σ G i m → EM (U.hides L) t σ G fun v G' => ∃ p kvs ks ds G1, v = .ref p ∧ Ex G G1 ∧ G1 p = none ∧ Ex G1 G' ∧ G' p = some (.dK kvs) ∧ kvs.map (·.1) = ks ∧ ks.Nodup ∧ RpA K G1 (kvs.map (·.2)) ds ∧ ∃ m, ks = m.map (·.1) ∧ ds = m.map (·.2) ∧ QM m) : DNM K (tLck t) ρ QM := fun U σ L G o =>
  em_lck o hi (PP := fun G v G' => ∃ p kvs ks ds G1, v = .ref p ∧ Ex G G1 ∧ G1 p = none ∧ Ex G1 G' ∧ G' p = some (.dK kvs) ∧ kvs.map (·.1) = ks ∧ ks.Nodup ∧ RpA K G1 (kvs.map (·.2)) ds ∧ ∃ m, ks = m.map (·.1) ∧ ds = m.map (·.2) ∧ QM m) (fun G G2 a od kvs v h1 h2 ⟨p, ws, ks, ds, G1, ev, e1, np, e2, gp, hk, hn, k, q⟩ => by
    have g1 : G1 a = some (.frz od (.dK kvs)) := e1 _ _ upd_same
    have na : p ≠ a := fun z => by subst z; rw [np] at g1; cases g1
    refine ⟨p, ws, ks, ds, upd G1 a (.dK kvs), ev, ex_unlk h1 e1, by rw [upd_ne na]; exact np, ex_upd2 e2, by rw [upd_ne na]; exact gp, hk, hn, rpa_gen (fun _ _ => rp_unlock g1) k, q⟩) (fun v G' G2 ⟨p, vs, ks, ds, G1, ev, e1, np, e2, _⟩ => e1.trans e2) (fun U G o' f => h U σ L G o' f)
/-! ### at one state -/
def DIat (K : PySem.W.Frag) (wi : TI) (U : Vx) (σ : L2.St) (L : Ow) (G : Hp) (P : List D → Prop) : Prop := ∀ H, J (U.hides L) H G → ∀ R : It → Hp → Prop, (∀ I H1 G1 xs, J (U.hides L) H1 G1 → Ex G G1 → ItOk K I G1 xs → P xs → R I H1) → wi σ H R
theorem lc_at {wi : TI} {U : Vx} {σ : L2.St} {L : Ow} {G : Hp} (o : EnvOk K U ρ σ L G) (h : DIat K wi U σ L G fun xs => xs.length < 16000000 ∧ ∃ P : Nat → List D → Prop, P 0 [] ∧ (∀ i acc, P i acc → acc.length ≤ i) ∧ (∀ (i : Nat) d acc, xs[i]? = some d → P i acc → DGW K g (.d d) vs ρ fun ρ2 => DT K tt ρ2 fun b => if b = true then DE K te ρ2 fun y => DD y fun dy => P (i + 1) (acc ++ [dy]) else P (i + 1) acc) ∧ ∀ acc, P xs.length acc → QN acc) :
    EM (U.hides L) (tLc wi g tt te vs) σ G fun v G' => ∃ p vs ds G1, v = .ref p ∧ Ex G G1 ∧ G1 p = none ∧ Ex G1 G' ∧ G' p = some (.lst vs) ∧ RpA K G1 vs ds ∧ QN ds := fun H j QH q =>
  h H j _ fun I H1 G1 xs j1 e1 ok ⟨hlen, P, h0, hz, hs, hd⟩ => by
    intro Dd hD
    obtain ⟨Gd, Y, wk, hg, hy⟩ := ok
    have c := lc_ok o e1 j1 hD
    refine lc_it wk (LcP K U L G1 Dd P) ?_ (fun i H' _ ⟨acc, ads, G', p, ka, e', j'⟩ => hg _ _ _ j' e') (fun i x H' H'' hi ⟨acc, ads, G', p, ka, e', j'⟩ yy => ?_) (fun H' hp => ?_)
    · obtain ⟨G', e', j'⟩ := lc_start (σ := σ) c j1 hD
      exact ⟨[], [], G', h0, .nil, e', j'⟩
    · obtain ⟨G'', d, e'', j'', hx, r⟩ := hy _ i H' x H'' G' j' e' hi yy
      exact lc_env (e := .d d) c.nl (c.lo o.lo (.ex (.lst acc))) (o.mono (e1.trans (e'.trans e''))) (e'.trans e'') j'' r (ka.mono e'') (by have := hz i ads p; omega) (hs i d ads hx p)
    · obtain ⟨G2, j2, r⟩ := lc_done c e1 hp hd
      exact q _ _ _ j2 r
/-- the dict that a comprehension makes -/
def DcP (K : PySem.W.Frag) (U : Vx) (L : Ow) (G1 : Hp) (Dd : Addr) (P : Nat → List (Key × D) → Prop) (i : Nat) (H : Hp) : Prop := ∃ kvs m G', P i m ∧ KvR K G' kvs m ∧ (m.map (·.1)).Nodup ∧ Ex G1 G' ∧ J (U.hides ((Dd, HI.ex (.dK kvs)) :: L)) H G'
theorem dc_at {wi : TI} {U : Vx} {σ : L2.St} {L : Ow} {G : Hp} (o : EnvOk K U ρ σ L G) (h : DIat K wi U σ L G fun xs => xs.length < 16000000 ∧ ∃ P : Nat → List (Key × D) → Prop, P 0 [] ∧ (∀ i m, P i m → m.length ≤ i) ∧ (∀ (i : Nat) d m, xs[i]? = some d → P i m → DGW K g (.d d) vs ρ fun ρ2 => DT K tt ρ2 fun b => if b = true then DE K tk ρ2 fun y => KyE y fun k => DE K te ρ2 fun z => DD z fun dz => P (i + 1) (putP m k dz) else P (i + 1) m) ∧ ∀ m, P xs.length m → QM m) :
    EM (U.hides L) (tDc wi g tt tk te vs) σ G fun v G' => ∃ p kvs ks ds G1, v = .ref p ∧ Ex G G1 ∧ G1 p = none ∧ Ex G1 G' ∧ G' p = some (.dK kvs) ∧ kvs.map (·.1) = ks ∧ ks.Nodup ∧ RpA K G1 (kvs.map (·.2)) ds ∧ ∃ m, ks = m.map (·.1) ∧ ds = m.map (·.2) ∧ QM m := fun H j QH q =>
  h H j _ fun I H1 G1 xs j1 e1 ok ⟨hlen, P, h0, hz, hs, hd⟩ => by
    intro Dd hD
    obtain ⟨Gd, Y, wk, hg, hy⟩ := ok
    have c := lc_ok o e1 j1 hD
    refine ⟨fun i n H => n = xs.length - i ∧ i ≤ xs.length ∧ DcP K U L G1 Dd P i H, ⟨xs.length, by simp, Nat.zero_le _, [], [], _, h0, .nil, List.nodup_nil, Ex.wo' (j1.free hD) (Ex.new (j1.free hD)), (j1.alloc hD).own upd_same rfl c.ng⟩, ?_⟩
    rintro i n H' ⟨rfl, hi, kvs, m, G', p, kr, nd, e', j'⟩
    have hGd := hg _ _ _ j' e'
    by_cases hlt : i < xs.length
    · refine .inr ⟨wk.goes i H' hlt hGd, fun H2 => DcP K U L G1 Dd P (i + 1) H2, fun H2 p2 => ⟨_, by omega, rfl, hlt, p2⟩, fun x H'' yy => ?_⟩
      obtain ⟨G'', d, e'', j'', hx, r⟩ := hy _ i H' x H'' G' j' e' hlt (wk.yields i H' x H'' hlt hGd yy)
      have hlo := c.lo o.lo (.ex (.dK kvs))
      have oo := (o.mono (e1.trans (e'.trans e''))).more (fun _ h => List.mem_cons_of_mem _ h) hlo
      refine hs i d m hx p U σ _ G'' x oo r H'' j'' _ fun σ2 H2 G2 j2 ⟨hw, e2, ρ2, o2, k2⟩ => ⟨hw, k2 U σ2 _ G2 o2 H2 j2 _ fun b H3 G3 j3 ⟨e3, k3⟩ => ?_⟩
      cases b with
      | true =>
        rw [if_pos rfl] at k3 ⊢
        refine k3 U σ2 _ G3 (o2.mono e3) H3 j3 _ fun y H4 G4 j4 ⟨e4, ey, sy, key, ek, k4⟩ => k4 U σ2 _ G4 (o2.mono (e3.trans e4)) H4 j4 _ fun z H5 G5 j5 ⟨e5, ez, sz, dz, ed, k5⟩ => ?_
        subst ek ed
        have kr' := (kr.mono (e''.trans (e2.trans (e3.trans (e4.trans e5))))).put (k := key) sz
        have nd' := putP_nodup (k := key) (v := dz) nd
        obtain ⟨n1, n2, _⟩ := hlo.nm (Dd, _) List.mem_cons_self
        refine ⟨kvs, key, kD_of sy, j5.at List.mem_cons_self, by rw [kr.len]; have := hz i m p; exact Nat.lt_of_lt_of_le (show m.length < 16000000 by omega) (by decide), ?_⟩
        exact ⟨_, _, G5, k5, kr', nd', e'.trans (e''.trans (e2.trans (e3.trans (e4.trans e5)))), j5.chgHead rfl c.nl n1 n2⟩
      | false =>
        rw [if_neg Bool.false_ne_true] at k3 ⊢
        exact ⟨kvs, m, G3, k3, kr.mono (e''.trans (e2.trans e3)), nd, e'.trans (e''.trans (e2.trans e3)), j3⟩
    · have ei : i = xs.length := by omega
      subst ei
      have gd : G' Dd = none := (j'.msk Dd (.inr ⟨_, List.mem_cons_self⟩)).1
      exact .inl ⟨wk.stops H' hGd, q _ _ _ (j'.showHead c.nm c.nh c.nl) (dnm_mk (e1.trans e') gd (Ex.new gd) upd_same kr nd (hd m p))⟩
theorem dn_dc {wi : TI} (h : DI K wi ρ fun xs => xs.length < 16000000 ∧ ∃ P : Nat → List (Key × D) → Prop, P 0 [] ∧ (∀ i m, P i m → m.length ≤ i) ∧ (∀ (i : Nat) d m, xs[i]? = some d → P i m → DGW K g (.d d) vs ρ fun ρ2 => DT K tt ρ2 fun b => if b = true then DE K tk ρ2 fun y => KyE y fun k => DE K te ρ2 fun z => DD z fun dz => P (i + 1) (putP m k dz) else P (i + 1) m) ∧ ∀ m, P xs.length m → QM m) : DNM K (tDc wi g tt tk te vs) ρ QM := fun U σ L G o => dc_at o (h U σ L G o)
/-! ### the dict at slot i, by keys, values, items -/
theorem itok_keys {G : Hp} {a : Addr} {od : Obj} {kvs : List (Key × V)} {m : List (Key × D)} (h : G a = some (.frz od (.dK kvs))) (k : KvR K G kvs m) : ItOk K (Itk a od kvs) G (m.map fun p => kD p.1) := by
  refine ⟨fun H => H a = some (.frz od (.dK kvs)), fun i H x H' => H' = H ∧ ∃ key w, kvs[i]? = some (key, w) ∧ x = kV key, by rw [List.length_map, ← k.len]; exact walk_keys, fun U H G' j e => j.up _ _ (e _ _ h), fun U i H v H' G' j e hi ⟨eh, key, w, hk, ev⟩ => ?_⟩
  subst eh ev
  have h1 : (m.map (·.1))[i]? = some key := by rw [← k.1, List.getElem?_map, hk]; rfl
  rw [List.getElem?_map] at h1
  obtain ⟨p, hp, rfl⟩ := Option.map_eq_some_iff.mp h1
  refine ⟨G', kD p.1, Ex.refl _, j, by rw [List.getElem?_map, hp]; rfl, ?_⟩
  cases p.1 with
  | inl i => exact .int i
  | inr s => exact .str s
theorem itok_vals {G : Hp} {a : Addr} {od : Obj} {kvs : List (Key × V)} {m : List (Key × D)} (h : G a = some (.frz od (.dK kvs))) (k : KvR K G kvs m) : ItOk K (Itd a od kvs) G (m.map (·.2)) := by
  refine ⟨fun H => H a = some (.frz od (.dK kvs)), fun i H x H' => H' = H ∧ ∃ key, kvs[i]? = some (key, x), by rw [List.length_map, ← k.len]; exact walk_values, fun U H G' j e => j.up _ _ (e _ _ h), fun U i H v H' G' j e hi ⟨eh, key, hk⟩ => ?_⟩
  subst eh
  obtain ⟨d, h1, h2⟩ := k.2.at (i := i) (v := v) (by rw [List.getElem?_map, hk]; rfl)
  exact ⟨G', d, Ex.refl _, j, h1, h2.mono e⟩
theorem itok_items {G : Hp} {a : Addr} {od : Obj} {kvs : List (Key × V)} {m : List (Key × D)} (h : G a = some (.frz od (.dK kvs))) (k : KvR K G kvs m) : ItOk K (Iti a od kvs) G (m.map pairD) := by
  refine ⟨fun H => H a = some (.frz od (.dK kvs)), YPair (fun i => kvs[i]?.map fun kv => kV kv.1) (fun i => kvs[i]?.map Prod.snd), by rw [List.length_map, ← k.len]; exact walk_items, fun U H G' j e => j.up _ _ (e _ _ h), fun U i H v H' G' j e hi ⟨T, x, y, ev, hT, eh, h1, h2⟩ => ?_⟩
  subst eh ev
  obtain ⟨kv, hkv, e1⟩ := Option.map_eq_some_iff.mp h1
  obtain ⟨kv', hkv', e2⟩ := Option.map_eq_some_iff.mp h2
  rw [hkv] at hkv'; cases hkv'
  have h3 : (m.map (·.1))[i]? = some kv.1 := by rw [← k.1, List.getElem?_map, hkv]; rfl
  rw [List.getElem?_map] at h3
  obtain ⟨p, hp, e3⟩ := Option.map_eq_some_iff.mp h3
  obtain ⟨d, h4, h5⟩ := k.2.at (i := i) (v := kv.2) (by rw [List.getElem?_map, hkv]; rfl)
  rw [List.getElem?_map, hp] at h4
  cases h4
  have eT : Ex G' (upd G' T (.tup [x, y])) := Ex.new (j.free hT)
  refine ⟨_, pairD p, eT, j.alloc hT, by rw [List.getElem?_map, hp]; rfl, .tup (st_of upd_same) (.cons ?_ (.cons ?_ .nil))⟩
  · rw [← e1, ← e3]
    cases p.1 with
    | inl i => exact .int i
    | inr s => exact .str s
  · have h6 : Rp K G y p.2 := by rw [← show kv.2 = y from e2]; exact h5
    exact (h6.mono e).mono eT
theorem keys_at {U : Vx} {σ : L2.St} {L : Ow} {G : Hp} {i : Nat} {m : List (Key × D)} {P : List D → Prop} (f : FrzAt K σ G i m) (p : P (m.map fun p => kD p.1)) : DIat K (iKeys (tVar i)) U σ L G P := fun H j R q => by
  obtain ⟨a, od, kvs, h1, h2, h3, _⟩ := f
  exact ⟨_, h1, a, od, rfl, .inl ⟨kvs, j.up _ _ h2, q _ _ _ _ j (Ex.refl G) (itok_keys h2 h3) p⟩⟩
theorem items_at {U : Vx} {σ : L2.St} {L : Ow} {G : Hp} {i : Nat} {m : List (Key × D)} {P : List D → Prop} (f : FrzAt K σ G i m) (p : P (m.map pairD)) : DIat K (iItems (tVar i)) U σ L G P := fun H j R q => by
  obtain ⟨a, od, kvs, h1, h2, h3, _⟩ := f
  exact ⟨_, h1, a, od, kvs, rfl, j.up _ _ h2, q _ _ _ _ j (Ex.refl G) (itok_items h2 h3) p⟩
theorem vals_at {U : Vx} {σ : L2.St} {L : Ow} {G : Hp} {i : Nat} {m : List (Key × D)} {P : List D → Prop} (f : FrzAt K σ G i m) (p : P (m.map (·.2))) : DIat K (iVals (tVar i)) U σ L G P := fun H j R q => by
  obtain ⟨a, od, kvs, h1, h2, h3, _⟩ := f
  exact ⟨_, h1, a, od, kvs, rfl, j.up _ _ h2, q _ _ _ _ j (Ex.refl G) (itok_vals h2 h3) p⟩
/-- [e for k in d if t] -/
theorem dn_lcK {i : Nat} (h : ∃ m, ρ[i]? = some (.d (.dc m)) ∧ m.length < 16000000 ∧ ∃ P : Nat → List D → Prop, P 0 [] ∧ (∀ i acc, P i acc → acc.length ≤ i) ∧ (∀ (i : Nat) p acc, m[i]? = some p → P i acc → DGW K g (.d (kD p.1)) vs ρ fun ρ2 => DT K tt ρ2 fun b => if b = true then DE K te ρ2 fun y => DD y fun dy => P (i + 1) (acc ++ [dy]) else P (i + 1) acc) ∧ ∀ acc, P m.length acc → QN acc) : DN K (tLck (tLc (iKeys (tVar i)) g tt te vs)) ρ QN := by
  obtain ⟨m, hi, hl, P, h0, hz, hs, hd⟩ := h
  exact dn_lck i hi fun U σ L G o f => lc_at o (keys_at f ⟨by rw [List.length_map]; exact hl, P, h0, hz, fun i d acc hx p => by
    rw [List.getElem?_map] at hx
    obtain ⟨q, hq, rfl⟩ := Option.map_eq_some_iff.mp hx
    exact hs i q acc hq p, by rw [List.length_map]; exact hd⟩)
theorem dn_lcI {i : Nat} (h : ∃ m, ρ[i]? = some (.d (.dc m)) ∧ m.length < 16000000 ∧ ∃ P : Nat → List D → Prop, P 0 [] ∧ (∀ i acc, P i acc → acc.length ≤ i) ∧ (∀ (i : Nat) p acc, m[i]? = some p → P i acc → DGW K g (.d (pairD p)) vs ρ fun ρ2 => DT K tt ρ2 fun b => if b = true then DE K te ρ2 fun y => DD y fun dy => P (i + 1) (acc ++ [dy]) else P (i + 1) acc) ∧ ∀ acc, P m.length acc → QN acc) : DN K (tLck (tLc (iItems (tVar i)) g tt te vs)) ρ QN := by
  obtain ⟨m, hi, hl, P, h0, hz, hs, hd⟩ := h
  exact dn_lck i hi fun U σ L G o f => lc_at o (items_at f ⟨by rw [List.length_map]; exact hl, P, h0, hz, fun i d acc hx p => by
    rw [List.getElem?_map] at hx
    obtain ⟨q, hq, rfl⟩ := Option.map_eq_some_iff.mp hx
    exact hs i q acc hq p, by rw [List.length_map]; exact hd⟩)
/-- .. by a filter and a function: keys ints -/
theorem dn_filtK {α : Type} {i : Nat} (fv : α → D) (b : Int × α → Bool) (f : Int × α → D) (h : ∃ m : List (Int × α), ρ[i]? = some (.d (.dc (mM fv m))) ∧ m.length < 16000000 ∧ (∀ p ∈ m, DGW K g (.d (.int p.1)) vs ρ fun ρ2 => DT K tt ρ2 fun c => c = b p ∧ (c = true → DE K te ρ2 fun y => y = .d (f p))) ∧ QN ((m.filter b).map f)) : DN K (tLck (tLc (iKeys (tVar i)) g tt te vs)) ρ QN := by
  obtain ⟨m, hi, hl, hs, hq⟩ := h
  refine dn_lcK ⟨_, hi, by rw [mM_len]; exact hl, fun j acc => j ≤ m.length ∧ acc = ((m.take j).filter b).map f, ⟨Nat.zero_le _, rfl⟩, fun j acc ⟨p0, p⟩ => by rw [p, List.length_map]; exact Nat.le_trans (List.length_filter_le _ _) (by rw [List.length_take]; omega), fun j q acc hq' ⟨p0, p⟩ => ?_, fun acc ⟨_, p⟩ => by rw [mM_len, List.take_length] at p; rw [p]; exact hq⟩
  unfold mM at hq'
  rw [List.getElem?_map] at hq'
  obtain ⟨x, hx, rfl⟩ := Option.map_eq_some_iff.mp hq'
  have hil := (List.getElem?_eq_some_iff.mp hx).1
  exact fun U σ L G v o s => (hs x (List.mem_of_getElem? hx) U σ L G v o s).w fun σ2 G2 ⟨hw, e2, ρ2, o2, k2⟩ => ⟨hw, e2, ρ2, o2, fun U σ L G o => (k2 U σ L G o).w fun c G3 ⟨e3, ec, k3⟩ => ⟨e3, by
    cases c with
    | true =>
      rw [if_pos rfl]
      exact fun U σ L G o => (k3 rfl U σ L G o).w fun y G3 ⟨e3, z, sz, ez⟩ => ⟨e3, z, sz, f x, ez, hil, by rw [p, List.take_add_one, hx, List.filter_append]; simp [← ec]⟩
    | false =>
      rw [if_neg Bool.false_ne_true]
      exact ⟨hil, by rw [p, List.take_add_one, hx, List.filter_append]; simp [← ec]⟩⟩⟩
end
end
end Wp

set_option Elab.async false
set_option linter.all false
set_option maxRecDepth 100000
set_option maxHeartbeats 4000000
/-! Rules that ask no type: len, list, sorted, +, *, ==, truth. -/
namespace Wp
section
open PySem L2 Evl StX
set_option autoImplicit false
theorem OpR.or {X : Cx} {f : Value → Value → Sem Value} {r r' : R2} (h : OpR X f r) (h' : OpR X f r') : OpR X f (fun x y H Q => r x y H Q ∨ r' x y H Q) := fun pins s σ H x y v u Q I rx ry q => q.elim (h pins s σ H x y v u Q I rx ry) (h' pins s σ H x y v u Q I rx ry)
theorem IxR.or {X : Cx} {r r' : R2} (h : IxR X r) (h' : IxR X r') : IxR X (fun x y H Q => r x y H Q ∨ r' x y H Q) := fun value slice pins s σ H x y v u Q I rx ry q hs => q.elim (fun z => h value slice pins s σ H x y v u Q I rx ry z hs) (fun z => h' value slice pins s σ H x y v u Q I rx ry z hs)
/-! ### ints in order -/
def insI (x : Int) : List Int → List Int
  | [] => [x]
  | y :: ys => if x ≤ y then x :: y :: ys else y :: insI x ys
def srt : List Int → List Int
  | [] => []
  | x :: xs => insI x (srt xs)
theorem insI_perm (x : Int) : ∀ ys, (insI x ys).Perm (x :: ys)
  | [] => List.Perm.refl _
  | y :: ys => by
    unfold insI
    split
    · exact List.Perm.refl _
    · exact ((insI_perm x ys).cons y).trans (List.Perm.swap x y ys)
theorem srt_perm : ∀ xs, (srt xs).Perm xs
  | [] => List.Perm.refl _
  | x :: xs => (insI_perm x _).trans ((srt_perm xs).cons x)
theorem insI_sorted (x : Int) : ∀ ys : List Int, ys.Pairwise (· ≤ ·) → (insI x ys).Pairwise (· ≤ ·)
  | [], _ => by simp [insI]
  | y :: ys, h => by
    rw [List.pairwise_cons] at h
    unfold insI
    split
    · rename_i z
      rw [List.pairwise_cons, List.pairwise_cons]
      exact ⟨fun a ha => by rcases List.mem_cons.mp ha with rfl | ha; exact z; exact Int.le_trans z (h.1 a ha), h⟩
    · rename_i z
      rw [List.pairwise_cons]
      exact ⟨fun a ha => by rcases List.mem_cons.mp ((insI_perm x ys).mem_iff.mp ha) with rfl | ha; omega; exact h.1 a ha, insI_sorted x ys h.2⟩
theorem srt_sorted : ∀ xs : List Int, (srt xs).Pairwise (· ≤ ·)
  | [] => List.Pairwise.nil
  | x :: xs => insI_sorted x _ (srt_sorted xs)
theorem sorted_uniq : ∀ {xs ys : List Int}, xs.Perm ys → xs.Pairwise (· ≤ ·) → ys.Pairwise (· ≤ ·) → xs = ys
  | [], ys, p, _, _ => (List.Perm.eq_nil p.symm).symm
  | x :: xs, ys, p, h1, h2 => by
    cases ys with
    | nil => exact absurd p.length_eq (by simp)
    | cons y ys =>
      rw [List.pairwise_cons] at h1 h2
      have e : x = y := by
        have a : x ∈ y :: ys := p.mem_iff.mp List.mem_cons_self
        have b : y ∈ x :: xs := p.mem_iff.mpr List.mem_cons_self
        rcases List.mem_cons.mp a with a | a
        · exact a
        · rcases List.mem_cons.mp b with b | b
          · exact b.symm
          · have := h2.1 x a; have := h1.1 y b; omega
      subst e
      rw [sorted_uniq (List.Perm.cons_inv p) h1.2 h2.2]
theorem srt_of {xs ys : List Int} (p : ys.Perm xs) (h : ys.Pairwise (· ≤ ·)) : ys = srt xs := sorted_uniq (p.trans (srt_perm xs).symm) h (srt_sorted xs)
theorem srt_len (xs : List Int) : (srt xs).length = xs.length := (srt_perm xs).length_eq
theorem mem_srt {xs : List Int} {x : Int} : x ∈ srt xs ↔ x ∈ xs := (srt_perm xs).mem_iff
section
variable {K : PySem.W.Frag} {ρ : List E} {te td ty tx ta tb : TE} {tas : TA} {tt : TT} {g : TG} {ts : TS} {vs : List Nat} {N B C : List E → Prop} {R : D → Prop} {QN : List D → Prop} {Q : E → Prop} {QM : List (Key × D) → Prop} {QT : Bool → Prop}
/-! ### list -/
def rListA (K : PySem.W.Frag) : List V → Hp → VK → Prop := fun xs H Q => rListQ K xs H Q ∨ ∃ p kvs, xs = [.ref p] ∧ Rd H p (.dK kvs) ∧ ∀ q, H q = none → Q (.ref q) (upd H q (.lst (kvs.map fun kv => kV kv.1)))
theorem kq_listA {X : Cx} (h : X.K = K := by rfl) (hc : X.calm = true := by rfl) : CallR X (.type "list") (rListA K) := by
  refine CallR.or (kq_list h) fun pins s σ H xs us Q I r hq => ?_
  obtain ⟨p, kvs, rfl, hk, q⟩ := hq
  rw [Vals.ref1 r]
  obtain ⟨z, lo, ws, rk, hd⟩ := dk_rd I.hok hk
  obtain ⟨ep, hat⟩ := hd.dictAt
  have hl : kvs.length = ws.length := Paired.length rk
  refine PySem.W.kdl_call (PySem.W.kdl_dict (knd := mixKind X.prog X.w) (kvs := ws) (ep := ep) lo) (I.ok.hd hc) hat (by omega) fun h' tk acc' c' hkeep hS hacc => ?_
  have ok : ObjOk X.prog X.w (upd H s.heap.objs.size (.lst (kvs.map fun kv => kV kv.1))) h' s.heap.objs.size (.lst (kvs.map fun kv => kV kv.1)) := by
    refine ⟨by rw [List.length_map]; exact z, acc'.toList, c', vals_of_at ?_ fun j x w h1 h2 => ?_, ?_⟩
    · have e0 : acc'.toList.length = acc'.size := Array.length_toList
      rw [List.length_map, e0, hacc.1, hl]
    · obtain ⟨k, y, hky, hi⟩ := hacc.2 j w (by rw [← Array.getElem?_toList]; exact h2)
      have e1 : (kvs.map (·.1))[j]? = some k := by rw [KV.keys rk, List.getElem?_map, hky]; rfl
      rw [List.getElem?_map] at h1 e1
      obtain ⟨kv, g1, g2⟩ := Option.map_eq_some_iff.mp h1
      rw [g1] at e1
      cases e1
      subst g2
      exact relV_key hi
    · simpa using hS
  exact ⟨.ref s.heap.objs.size, upd H s.heap.objs.size (.lst (kvs.map fun kv => kV kv.1)), I.laid hkeep (Nat.le_refl _) ok, rfl, q _ (I.hok.fresh (Nat.le_refl _))⟩
theorem rp_key {G : Hp} (k : Key) : Rp K G (kV k) (kD k) := by cases k <;> constructor
theorem rpa_keys {G : Hp} : ∀ {kvs : List (Key × V)} {m : List (Key × D)}, KvR K G kvs m → RpA K G (kvs.map fun kv => kV kv.1) (m.map fun p => kD p.1)
  | [], m, h => by rw [h.inv0]; exact .nil
  | p :: kvs, m, h => by
    obtain ⟨d, m', rfl, r, h'⟩ := h.inv
    exact .cons (rp_key _) (rpa_keys h')
theorem dn_listA (h : DE K te ρ fun x => (∃ ds, (x = .d (.lst ds) ∨ x = .d (.tup ds) ∨ x = .own ds) ∧ QN ds) ∨ DcE x fun m => QN (m.map fun p => kD p.1)) : DN K (tCB (rListA K) (tCons te tNil)) ρ QN := fun U σ L G o H j QH q =>
  h U σ L G o H j _ fun v H1 G1 j1 ⟨e1, x, sx, hx⟩ => by
    rcases hx with ⟨ds, hx, k⟩ | ⟨m, hx, k⟩
    · have z : ∃ a vs, v = .ref a ∧ (SqL K H1 a vs ∨ SqT K H1 a vs) ∧ RpA K G1 vs ds := by
        rcases hx with rfl | rfl | rfl
        · cases (sx : Rp K G1 v (.lst ds)) with | lst a b => exact ⟨_, _, rfl, .inl (sq_of (j1.up _ _ a)), b⟩
        · cases (sx : Rp K G1 v (.tup ds)) with | tup a b => exact ⟨_, _, rfl, .inr (ex_t j1.up a), b⟩
        · obtain ⟨a, vs, rfl, hm, b⟩ := sx; exact ⟨_, _, rfl, .inl (sq_of (j1.at hm)), b⟩
      obtain ⟨a, vs, rfl, hs, hr⟩ := z
      exact .inl ⟨a, vs, rfl, hs, fun l hl => q _ _ _ (j1.alloc hl) ⟨l, _, ds, G1, rfl, e1, j1.free hl, Ex.new (j1.free hl), upd_same, hr, k⟩⟩
    · obtain ⟨a, kvs, rfl, r, kr, nd⟩ := slot_dc hx sx j1
      exact .inr ⟨a, kvs, rfl, r, fun l hl => q _ _ _ (j1.alloc hl) ⟨l, _, _, G1, rfl, e1, j1.free hl, Ex.new (j1.free hl), upd_same, rpa_keys kr, k⟩⟩
def tListItemsR (te : TE) : TE := fun σ H Q => te σ H fun x H1 => ∃ (d : Addr) (kvs : List (Key × V)), x = .ref d ∧ Rd H1 d (.dK kvs) ∧
  ∀ (H' : Hp) (p : Addr) (ts : List Addr), (∀ b o, H1 b = some o → H' b = some o) → H1 p = none → (∀ t ∈ ts, H1 t = none) → p ∉ ts → H' p = some (.lst (ts.map V.ref)) → Paired (fun (t : Addr) (q : Key × V) => H' t = some (.tup [kV q.1, q.2])) ts kvs → Q (.ref p) H'
theorem pe_listItemsR {X : Cx} {e : Expr} {p apos cpos pos : Pos} (he : PE X e te) (hg : Gl X "list") (hm : X.mg "list" = none) (hc : X.calm = true := by rfl) (hv : bootBuiltins "list" = some (.type "list") := by decide +kernel) (hbase : attributeBase e "items" X.env (eval e X.env) = eval e X.env := by rfl) (hline : (apos.endLine == cpos.line) = true := by rfl)
    (hs : starEach [.Call (.Attribute e "items" apos) [] [] cpos] X.env = (false, eval (.Call (.Attribute e "items" apos) [] [] cpos) X.env) :: starEach [] X.env := by rfl) :
    PE X (.Call (.Name "list" p) [.Call (.Attribute e "items" apos) [] [] cpos] [] pos) (tListItemsR te) := by
  refine ⟨fun pins s σ H Q I hq => wpAny_Call_Name_kw (ld_blt I hg hm hv (PyProof.Rows.callWith_type1 ?_ hs rfl))⟩
  rw [hs]
  refine Calls.spliced_cons (wpAny_Call_method (T := "dict") (id := "dict.items") hbase rfl hline F.plainAttrs_dict F.slot_dict_items F.type_dict_items (thn (he.run pins s σ H _ I hq) fun u s1 ⟨x, H1, I1, rx, d, kvs, ex, hd, q⟩ => ?_))
  subst ex
  obtain rfl : u = Value.ref d := rx
  obtain ⟨hz, hsm, ws, kv, hdo⟩ := dk_rd I1.hok hd
  obtain ⟨ep, hat⟩ := hdo.dictAt
  have lk : kvs.length = ws.length := Paired.length kv
  have I2 : Inv X pins σ H1 { s1 with heap := s1.heap.push { cls := .type "dict_items", data := .fields #[.ref d] } } := I1.kept (t' := s1.toks) fun b ob z => Heap.get?_push_of_some _ z
  refine ⟨hdo.typeIs, hdo.mapOf.noDict, method_meetsIn F.slot_dict_items F.entry_dict_items rfl (PySem.evalArgs_none ⟨rfl, hdo.typeIs, F.args_dict_items_1 _, _, meets_dict_items (mixKind X.prog X.w) d hsm, ⟨ws, hdo⟩, Calls.spliced_nil ?_⟩)⟩
  refine PySem.W.kdx_call (knd := mixKind X.prog X.w) (kvs := ws) (ep := ep) (I1.ok.hd hc) ⟨_, Heap.get?_push_size _ rfl, rfl, rfl⟩ (hat.push _) (by omega) fun h' tk acc c as hk hS hl hG hacc => ?_
  obtain ⟨H', k1, k2, k3, k4, k5, k6, J'⟩ := LiI.items_laid (tk := tk) I2 hz kv hk hS hl hG hacc
  exact ⟨.ref _, H', J', rfl, q H' _ as k1 k2 k3 k4 k5 k6⟩
/-- new objects, all of them shown -/
theorem J.grow {U : Vx} {H H' G : Hp} (j : J U H G) (S : Addr → Prop) (hx : Ex H H') (hS : ∀ a, S a → H a = none) (G' : Hp) (h1 : ∀ a, S a → G' a = H' a) (h2 : ∀ a, ¬ S a → G' a = G a) : J U H' G' ∧ Ex G G' := by
  have hn : ∀ a, G a ≠ none → ¬ S a := fun a h s => h (j.free (hS a s))
  refine ⟨⟨fun a u e => ?_, j.keep.trans hx, fun a q g => ?_, U.st H _ j.hid fun a ma => ?_, fun a ma => ?_⟩, fun a u e => by rw [h2 a (hn a (by rw [e]; exact fun q => by cases q))]; exact e⟩
  · by_cases z : S a
    · rw [h1 a z] at e; exact e
    · rw [h2 a z] at e; exact hx _ _ (j.up _ _ e)
  · by_cases z : S a
    · exact none_of_ex j.keep (hS a z)
    · rw [h2 a z] at q; exact j.new a q g
  · have := (j.msk a ma).2
    cases z : H a with
    | none => exact absurd z this
    | some o => rw [hx a o z]
  · obtain ⟨q1, q2⟩ := j.msk a ma
    have z : ¬ S a := fun s => q2 (hS a s)
    refine ⟨by rw [h2 a z]; exact q1, ?_⟩
    cases y : H a with
    | none => exact absurd y q2
    | some o => rw [hx a o y]; exact fun q => by cases q
theorem rpa_items {G : Hp} : ∀ {kvs : List (Key × V)} {m : List (Key × D)} {ts : List Addr}, KvR K G kvs m → Paired (fun (t : Addr) (q : Key × V) => G t = some (.tup [kV q.1, q.2])) ts kvs → RpA K G (ts.map V.ref) (m.map pairD)
  | [], m, ts, h, p => by rw [h.inv0]; cases p; exact .nil
  | q :: kvs, m, ts, h, p => by
    obtain ⟨d, m', rfl, r, h'⟩ := h.inv
    cases p with
    | cons a b =>
      exact .cons (.tup (st_of a) (.cons (rp_key _) (.cons r .nil))) (rpa_items h' b)
open Classical in
theorem dn_items (h : DE K te ρ fun x => DcE x fun m => QN (m.map pairD)) : DN K (tListItemsR te) ρ QN := fun U σ L G o H j QH q =>
  h U σ L G o H j _ fun v H1 G1 j1 ⟨e1, x, sx, m, hx, k⟩ => by
    obtain ⟨a, kvs, rfl, r, kr, nd⟩ := slot_dc hx sx j1
    refine ⟨a, kvs, rfl, r, fun H' p ts hk hp ht npt gp pr => ?_⟩
    -- first the tuples, then the list
    obtain ⟨jt, et⟩ := j1.grow (H' := fun b => if b = p then none else H' b) (fun b => b ∈ ts) (fun b u e => by
      show (if b = p then none else H' b) = some u
      rw [if_neg (fun z => by rw [z, hp] at e; cases e)]; exact hk _ _ e) ht (fun b => if b ∈ ts then H' b else G1 b) (fun b hb => by
        show (if b ∈ ts then H' b else G1 b) = (if b = p then none else H' b)
        rw [if_pos hb, if_neg (fun z => npt (by rw [← z]; exact hb))]) (fun b hb => by show (if b ∈ ts then H' b else G1 b) = _; rw [if_neg hb])
    have gn : (fun b => if b ∈ ts then H' b else G1 b) p = none := by show (if p ∈ ts then H' p else G1 p) = none; rw [if_neg npt]; exact j1.free hp
    obtain ⟨jp, ep⟩ := jt.grow (H' := H') (fun b => b = p) (fun b u e => by
      have e : (if b = p then none else H' b) = some u := e
      by_cases z : b = p
      · rw [if_pos z] at e; cases e
      · rw [if_neg z] at e; exact e) (fun b hb => by show (if b = p then none else H' b) = none; rw [if_pos hb]) (upd (fun b => if b ∈ ts then H' b else G1 b) p (.lst (ts.map V.ref))) (fun b hb => by rw [hb, upd_same, gp]) (fun b hb => by rw [upd_ne hb])
    have pr' : Paired (fun (t : Addr) (q : Key × V) => (fun b => if b ∈ ts then H' b else G1 b) t = some (.tup [kV q.1, q.2])) ts kvs := by
      have : ∀ {us : List Addr} {ws : List (Key × V)}, (∀ t ∈ us, t ∈ ts) → Paired (fun (t : Addr) (q : Key × V) => H' t = some (.tup [kV q.1, q.2])) us ws → Paired (fun (t : Addr) (q : Key × V) => (fun b => if b ∈ ts then H' b else G1 b) t = some (.tup [kV q.1, q.2])) us ws := by
        intro us ws hu pp
        induction pp with
        | nil => exact .nil
        | cons a b ih => exact .cons (by show (if _ ∈ ts then _ else _) = _; rw [if_pos (hu _ List.mem_cons_self)]; exact a) (ih fun t ht => hu t (List.mem_cons_of_mem _ ht))
      exact this (fun t ht => ht) pr
    exact q _ _ _ jp ⟨p, _, _, _, rfl, e1.trans et, gn, ep, upd_same, rpa_items (kr.mono et) pr', k⟩
/-! ### sorted, of ints and of a dict's keys -/
def rSortA (K : PySem.W.Frag) : List V → Hp → VK → Prop := fun xs H Q => rSortedI K xs H Q ∨ ∃ (a : Addr) (kvs : List (Key × V)) (ks : List Int), xs = [.ref a] ∧ Rd H a (.dK kvs) ∧ kvs.map (·.1) = ks.map Sum.inl ∧ ks.length < 64 ∧
    ∀ (ys : List Int) (p : Addr), ys.Perm ks → ys.Pairwise (· ≤ ·) → H p = none → Q (.ref p) (upd H p (.lst (ys.map V.int)))
theorem kr_sortA {X : Cx} (h : X.K = K := by rfl) (hc : X.calm = true := by rfl) : CallR X (.builtin "sorted") (rSortA K) := by subst h; exact CallR.or cr_sortedI (call_sortedDI hc)
theorem rpa_mkI {G : Hp} : ∀ ns : List Int, RpA K G (ns.map V.int) (ns.map D.int)
  | [] => .nil
  | n :: ns => .cons (.int n) (rpa_mkI ns)
theorem dn_sortL (h : DE K te ρ fun x => ∃ ns : List Int, (x = .d (.lst (ns.map D.int)) ∨ x = .own (ns.map D.int)) ∧ QN ((srt ns).map D.int)) : DN K (tCB (rSortA K) (tCons te tNil)) ρ QN := fun U σ L G o H j QH q =>
  h U σ L G o H j _ fun v H1 G1 j1 ⟨e1, x, sx, ns, hx, k⟩ => by
    have z : ∃ a, v = .ref a ∧ SqL K H1 a (ns.map V.int) := by
      rcases hx with rfl | rfl
      · cases (sx : Rp K G1 v (.lst (ns.map D.int))) with | lst a b => rw [rpa_ints b] at a; exact ⟨_, rfl, sq_of (j1.up _ _ a)⟩
      · obtain ⟨a, vs, rfl, hm, b⟩ := sx; rw [rpa_ints b] at hm; exact ⟨_, rfl, sq_of (j1.at hm)⟩
    obtain ⟨a, rfl, hs⟩ := z
    exact .inl ⟨a, ns, rfl, hs, fun ys p hp hs' hn => by rw [srt_of hp hs']; exact q _ _ _ (j1.alloc hn) ⟨p, _, _, G1, rfl, e1, j1.free hn, Ex.new (j1.free hn), upd_same, rpa_mkI _, k⟩⟩
theorem dn_sortD {α : Type} {f : α → D} (h : DE K te ρ fun x => ∃ m : List (Int × α), (x = .d (.dc (mM f m)) ∨ x = .dm (mM f m)) ∧ m.length < 64 ∧ QN ((srt (m.map (·.1))).map D.int)) : DN K (tCB (rSortA K) (tCons te tNil)) ρ QN := fun U σ L G o H j QH q =>
  h U σ L G o H j _ fun v H1 G1 j1 ⟨e1, x, sx, m, hx, hl, k⟩ => by
    obtain ⟨a, kvs, rfl, r, kr, nd⟩ := slot_dc hx sx j1
    exact .inr ⟨a, kvs, m.map (·.1), rfl, r, by rw [kr.1, mM_keys], by rw [List.length_map]; exact hl, fun ys p hp hs' hn => by rw [srt_of hp hs']; exact q _ _ _ (j1.alloc hn) ⟨p, _, _, G1, rfl, e1, j1.free hn, Ex.new (j1.free hn), upd_same, rpa_mkI _, k⟩⟩
/-! ### displays -/
def DPs (K : PySem.W.Frag) : List (TE × TE) → List E → (List (Key × D) → Prop) → Prop
  | [], _, P => P []
  | (tk, tv) :: r, ρ, P => DE K tk ρ fun y => KyE y fun k => DE K tv ρ fun z => DD z fun d => DPs K r ρ fun m => P ((k, d) :: m)
theorem pairs_run {U : Vx} {σ : L2.St} {L : Ow} : ∀ (trs : List (TE × TE)) (P : List (Key × D) → Prop) (G : Hp), DPs K trs ρ P → EnvOk K U ρ σ L G → ∀ H, J (U.hides L) H G → ∀ R : List (V × V) → Hp → Prop, (∀ kvs m H' G', J (U.hides L) H' G' → Ex G G' → KvR K G' kvs m → kvs.length = trs.length → P m → R (kvs.map fun kv => (kV kv.1, kv.2)) H') → tPairs trs σ H R
  | [], P, G, h, o, H, j, R, q => q [] [] H G j (Ex.refl G) .nil rfl h
  | (tk, tv) :: r, P, G, h, o, H, j, R, q => h U σ L G o H j _ fun v H1 G1 j1 ⟨e1, y, sy, k, ek, h2⟩ => h2 U σ L G1 (o.mono e1) H1 j1 _ fun w H2 G2 j2 ⟨e2, z, sz, d, ed, h3⟩ =>
    pairs_run r _ G2 h3 (o.mono (e1.trans e2)) H2 j2 _ fun kvs m H3 G3 j3 e3 kr hl p => by
      subst ek ed
      rw [kD_of sy]
      exact q ((k, w) :: kvs) ((k, d) :: m) H3 G3 j3 ((e1.trans e2).trans e3) (.cons (SlotV.mono sz e3) kr) (by rw [List.length_cons, hl, List.length_cons]) p
theorem dn_disp {trs : List (TE × TE)} (h15 : trs.length ≤ 15) (h : DPs K trs ρ fun m => QM (mergeP [] m)) : DNM K (tDisp trs) ρ QM := fun U σ L G o H j QH q => fun p hp => by
  have c := lc_ok o (Ex.refl G) j hp
  have j' := (j.alloc (o := .dK []) hp).own (I := .ex (.dK [])) upd_same rfl c.ng
  have e' := Ex.wo' (j.free hp) (Ex.new (o := .dK []) (j.free hp))
  refine pairs_run trs _ _ h ((o.mono e').more (fun _ h => List.mem_cons_of_mem _ h) (c.lo o.lo _)) _ j' _ fun kvs m H2 G2 j2 e2 kr hl k => ⟨j2.at List.mem_cons_self, kvs, rfl, by omega, ?_⟩
  have j3 := j2.chgHead (I := .ex (.dK (mergeK [] kvs))) rfl c.nl c.nm c.nh
  have gd : G2 p = none := (j2.msk p (.inr ⟨_, List.mem_cons_self⟩)).1
  exact q _ _ _ (j3.showHead c.nm c.nh c.nl) (dnm_mk (e'.trans e2) gd (Ex.new gd) upd_same (kr.merge .nil) (mergeP_nodup _ _ List.nodup_nil) k)
/-! ### truth -/
def tTruQ (K : PySem.W.Frag) (ta : TE) : TT := fun σ H Q => ta σ H fun x H' => ∃ k, TruV K x H' k ∧ Q k H'
theorem kt_truth {X : Cx} {e : Expr} (he : PE X e te) (h : X.K = K := by rfl) (ht : ∀ whole, isTrue e X.env whole = (do let v ← whole; standAt e.pos; holding [v] (truthy v)) := by intro _; rfl) : PT X e (tTruQ K te) := by subst h; exact pt_truth he ht
theorem ke_orT {X : Cx} {a b : Expr} {rest : List Expr} {pos : Pos} (ha : PE X a ta) (hb : PE X (.BoolOp .Or (b :: rest) pos) tb) (h : X.K = K := by rfl) : PE X (.BoolOp .Or (a :: b :: rest) pos) (tOrT K ta tb) := by subst h; exact pe_orT ha hb
def truD : D → Option Bool
  | .non => some false
  | .bl b => some b
  | .int i => some (i != 0)
  | .lst ds => some (!ds.isEmpty)
  | .tup ds => some (!ds.isEmpty)
  | _ => none
theorem isEmpty_rpa {G : Hp} {vs : List V} {ds : List D} (h : RpA K G vs ds) : vs.isEmpty = ds.isEmpty := by cases h <;> rfl
theorem tru_of {H G : Hp} {U : Vx} {v : V} {d : D} {b : Bool} (r : Rp K G v d) (j : J U H G) (h : truD d = some b) : TruV K v H b := by
  cases r with
  | non => cases h; rfl
  | bl c => cases h; rfl
  | int i => cases h; rfl
  | str s => cases h
  | lst a k => cases h; exact .inl ⟨_, sq_of (j.up _ _ a), by rw [isEmpty_rpa k]⟩
  | tup a k => cases h; exact .inr (.inl ⟨_, ex_t j.up a, by rw [isEmpty_rpa k]⟩)
  | obj _ _ _ => cases h
  | dct _ _ _ _ => cases h
  | adr _ => cases h
theorem dt_truth (h : DE K te ρ fun x => DD x fun d => ∃ b, truD d = some b ∧ QT b) : DT K (tTruQ K te) ρ QT := fun U σ L G o H j QH q =>
  h U σ L G o H j _ fun v H1 G1 j1 ⟨e1, x, sx, d, ed, b, hb, k⟩ => by subst ed; exact ⟨b, tru_of sx j1 hb, q _ _ _ j1 ⟨e1, k⟩⟩
theorem de_orT (h : DE K ta ρ fun x => DD x fun d => ∃ b, truD d = some b ∧ if b = true then Q (.d d) else DE K tb ρ Q) : DE K (tOrT K ta tb) ρ Q := fun U σ L G o H j QH q =>
  h U σ L G o H j _ fun v H1 G1 j1 ⟨e1, x, sx, d, ed, b, hb, k⟩ => by
    subst ed
    refine ⟨b, tru_of sx j1 hb, ?_⟩
    cases b with
    | true => rw [if_pos rfl] at k ⊢; exact q _ _ _ j1 ⟨e1, .d d, sx, k⟩
    | false => rw [if_neg Bool.false_ne_true] at k ⊢; exact (k U σ L G1 (o.mono e1)) H1 j1 _ fun w H2 G2 j2 ⟨e2, r⟩ => q _ _ _ j2 ⟨e1.trans e2, r⟩
/-! ### + and * -/
def rAddA (K : PySem.W.Frag) : R2 := fun x y H Q => rI0 (fun i j => .int (i + j)) x y H Q ∨ rCat x y H Q ∨ rCatA K x y H Q
theorem kp_addA {X : Cx} (h : X.K = K := by rfl) : OpR X (binaryOp .Add) (rAddA K) := by subst h; exact OpR.or op_add (OpR.or op_cat op_catA)
theorem dr_addI {i j : Int} (k : Q (.d (.int (i + j)))) : DR K (rAddA K) (.d (.int i)) (.d (.int j)) Q := fun U L G v w lo sx sy H j QH q => .inl (dr_I0 (fun _ => .int _) k U L G v w lo sx sy H j QH q)
theorem dr_addL {ds es : List D} (hz : ds.length + es.length ≤ sizeLine) (k : Q (.d (.lst (ds ++ es)))) : DR K (rAddA K) (.d (.lst ds)) (.d (.lst es)) Q := fun U L G v w lo sx sy H j QH q => .inr (.inl (dr_cat hz k U L G v w lo sx sy H j QH q))
theorem dr_addT {ds es : List D} (hz : ds.length + es.length ≤ sizeLine) (k : Q (.d (.tup (ds ++ es)))) : DR K (rAddA K) (.d (.tup ds)) (.d (.tup es)) Q := fun U L G v w lo sx sy H j QH q => .inr (.inr (dr_catA hz k U L G v w lo sx sy H j QH q))
theorem dn_addL (h : DE K ta ρ fun x => DE K tb ρ fun y => ∃ ds es, x = .d (.lst ds) ∧ y = .d (.lst es) ∧ ds.length + es.length ≤ sizeLine ∧ QN (ds ++ es)) : DN K (tOp (rAddA K) ta tb) ρ QN := fun U σ L G o H j QH q =>
  (dn_cat h U σ L G o).w (fun v G' z => z) H j QH q |> fun t => by
    exact (h U σ L G o H j _ fun v H1 G1 j1 ⟨e1, x, sx, hx⟩ => hx U σ L G1 (o.mono e1) H1 j1 _ fun w H2 G2 j2 ⟨e2, y, sy, ds, es, ed, ee, hz, k⟩ => by
      subst ed ee
      cases (SlotV.mono sx e2 : Rp K G2 v (.lst ds)) with
      | lst a b =>
        cases (sy : Rp K G2 w (.lst es)) with
        | lst a' b' => exact .inr (.inl (rm_cat a a' (by rw [b.len, b'.len]; exact hz) (fun p G' n e g => ⟨p, _, ds ++ es, G2, rfl, e1.trans e2, n, e, g, b'.app b, k⟩) H2 j2 QH q)))
/-! ### == -/
def rEqA (K : PySem.W.Frag) : R2 := fun x y H Q => rEq x y H Q ∨ rEqD K x y H Q
def rNeA (K : PySem.W.Frag) : R2 := fun x y H Q => rNe x y H Q ∨ rNeD K x y H Q
theorem kp_eqA {X : Cx} (hu : X.A.units + 64 < cLine) (h : X.K = K := by rfl) : OpR X (compareOp .Eq) (rEqA K) := OpR.or op_eq (kp_eqD hu h)
theorem kp_neA {X : Cx} (hu : X.A.units + 64 < cLine) (h : X.K = K := by rfl) : OpR X (compareOp .NotEq) (rNeA K) := OpR.or op_ne (kp_neD hu h)
theorem dr_eqA {x y : E} (h : DR K rEq x y Q) : DR K (rEqA K) x y Q := fun U L G v w lo sx sy H j QH q => .inl (h U L G v w lo sx sy H j QH q)
theorem dr_neA {x y : E} (h : DR K rNe x y Q) : DR K (rNeA K) x y Q := fun U L G v w lo sx sy H j QH q => .inl (h U L G v w lo sx sy H j QH q)
theorem dr_eqAD {x y : E} (h : DR K (rEqD K) x y Q) : DR K (rEqA K) x y Q := fun U L G v w lo sx sy H j QH q => .inr (h U L G v w lo sx sy H j QH q)
theorem dr_neAD {x y : E} (h : DR K (rNeD K) x y Q) : DR K (rNeA K) x y Q := fun U L G v w lo sx sy H j QH q => .inr (h U L G v w lo sx sy H j QH q)
end
end
end Wp

set_option Elab.async false
set_option linter.all false
set_option maxRecDepth 100000
set_option maxHeartbeats 4000000
/-! Dicts of ints compared. -/
namespace Wp
section
open PySem L2 Evl StX
set_option autoImplicit false
/-- the same entries, whatever their order -/
def meq (m n : List (Int × Int)) : Bool := m.length == n.length && m.all fun p => getP n p.1 == some p.2
theorem keys_perm {m n : List (Int × Int)} (h1 : (m.map (·.1)).Nodup) (h2 : (n.map (·.1)).Nodup) (h : ∀ k, getP m k = getP n k) : m.length = n.length := by
  have hm : ∀ k, k ∈ m.map (·.1) ↔ k ∈ n.map (·.1) := fun k => by rw [← getP_isSome, ← getP_isSome, h k]
  have p : (m.map (·.1)).Perm (n.map (·.1)) := (List.perm_ext_iff_of_nodup h1 h2).mpr hm
  have := p.length_eq
  rwa [List.length_map, List.length_map] at this
theorem nodup_le {α : Type} [DecidableEq α] : ∀ (l m : List α), l.Nodup → (∀ x ∈ l, x ∈ m) → l.length ≤ m.length
  | [], m, _, _ => Nat.zero_le _
  | a :: l, m, h, s => by
    rw [List.nodup_cons] at h
    have ha := s a List.mem_cons_self
    have := nodup_le l (m.erase a) h.2 fun x hx => (List.mem_erase_of_ne (fun z => h.1 (by rw [← z]; exact hx))).mpr (s x (List.mem_cons_of_mem _ hx))
    rw [List.length_erase_of_mem ha] at this
    have := List.length_pos_of_mem ha
    rw [List.length_cons]; omega
theorem meq_iff {m n : List (Int × Int)} (h1 : (m.map (·.1)).Nodup) (h2 : (n.map (·.1)).Nodup) : meq m n = true ↔ ∀ k, getP m k = getP n k := by
  unfold meq
  rw [Bool.and_eq_true, List.all_eq_true]
  constructor
  · rintro ⟨hl, ha⟩ k
    have hl : m.length = n.length := by simpa using hl
    have ha : ∀ p ∈ m, getP n p.1 = some p.2 := fun p hp => by simpa using ha p hp
    cases e : getP m k with
    | some v => exact (ha _ (getP_mem e)).symm
    | none =>
      cases e' : getP n k with
      | none => rfl
      | some v =>
        -- n has one key more than m's
        exfalso
        have sub : ∀ x ∈ k :: m.map (·.1), x ∈ n.map (·.1) := fun x hx => by
          rcases List.mem_cons.mp hx with rfl | hx
          · exact List.mem_map.mpr ⟨_, getP_mem e', rfl⟩
          · obtain ⟨p, hp, rfl⟩ := List.mem_map.mp hx
            exact List.mem_map.mpr ⟨_, getP_mem (ha p hp), rfl⟩
        have nd : (k :: m.map (·.1)).Nodup := List.nodup_cons.mpr ⟨getP_none.mp e, h1⟩
        have := nodup_le _ _ nd sub
        simp at this
        omega
  · intro h
    refine ⟨by simpa using keys_perm h1 h2 h, fun p hp => ?_⟩
    rw [← h, mem_getP h1 (show (p.1, p.2) ∈ m from hp)]
    simp
section
variable {K : PySem.W.Frag}
abbrev iV (m : List (Int × Int)) : List (Key × V) := m.map fun p => (.inl p.1, .int p.2)
theorem val_iV {m : List (Int × Int)} {k : Int} : valV (iV m) (.inl k) = (getP m k).map V.int := by
  induction m with
  | nil => rfl
  | cons p m ih =>
    rw [getP_cons]
    by_cases z : p.1 = k
    · rw [if_pos z]; exact valV_pos (by show (Sum.inl p.1 : Key) = .inl k; rw [z])
    · rw [if_neg z, ← ih]; exact valV_neg (fun q => z (Sum.inl.inj q))
theorem hits_of {A : Around} {s : Shared} {n : List (Int × Int)} {vb : List (Key × Value)} (rb : L2.KV (iV n) vb) : ∀ {m : List (Int × Int)} {va : List (Key × Value)}, L2.KV (iV m) va → PySem.W.KeqHits A s vb va (m.all fun p => getP n p.1 == some p.2)
  | [], va, ra => by cases ra; exact .nil
  | p :: m, va, ra => by
    have ra' : Paired (fun (p : Key × V) (q : Key × Value) => p.1 = q.1 ∧ RelV p.2 q.2) ((.inl p.1, .int p.2) :: iV m) va := ra
    cases ra' with
    | @cons _ q _ qs h t =>
      obtain ⟨h1, i, h2⟩ := h
      obtain ⟨k, v⟩ := q
      have h1 : (Sum.inl p.1 : Key) = k := h1
      have h2 : v = Value.int p.2 i := h2
      subst h1 h2
      have ih := hits_of (A := A) (s := s) rb (m := m) (va := qs) t
      have rv := rb.val (.inl p.1)
      rw [val_iV] at rv
      rw [List.all_cons]
      cases e : getP n p.1 with
      | none =>
        rw [e] at rv
        have hn : valueAt vb (.inl p.1) = none := by
          cases z : valueAt vb (.inl p.1) with
          | none => rfl
          | some y => rw [z] at rv; cases rv
        exact .miss hn
      | some x =>
        rw [e] at rv
        have hy : ∃ t, valueAt vb (.inl p.1) = some (.int x t) := by
          cases z : valueAt vb (.inl p.1) with
          | none => rw [z] at rv; cases rv
          | some y => rw [z] at rv; obtain ⟨t, ht⟩ := (show RelV (.int x) y from rv); exact ⟨t, by rw [ht]⟩
        obtain ⟨t', hy⟩ := hy
        have e2 : ((some x == some p.2) : Bool) = (p.2 == x) := by
          by_cases z : x = p.2
          · subst z; simp
          · have z' : ¬ p.2 = x := fun q => z q.symm
            rw [beq_eq_false_iff_ne.mpr z', beq_eq_false_iff_ne.mpr (fun q => z (Option.some.inj q))]
        rw [e2]
        exact .hit hy (SeqAt.EqAt.int_int p.2 i x t') ih
def rEqM : R2 := fun x y H Q => ∃ a b m n, x = .ref a ∧ y = .ref b ∧ Rd H a (.dK (iV m)) ∧ Rd H b (.dK (iV n)) ∧ Q (.bl (meq m n)) H
def rNeM : R2 := fun x y H Q => ∃ a b m n, x = .ref a ∧ y = .ref b ∧ Rd H a (.dK (iV m)) ∧ Rd H b (.dK (iV n)) ∧ Q (.bl (!meq m n)) H
theorem len_KV {m : List (Int × Int)} {va : List (Key × Value)} (r : L2.KV (iV m) va) : va.length = m.length := by
  have := r.length
  rw [List.length_map] at this
  exact this.symm
theorem op_eqM {X : Cx} (hu : X.A.units + 64 < cLine) : OpR X (compareOp .Eq) rEqM := by
  rintro pins s σ H x y v u Q I rx ry ⟨a, b, m, n, rfl, rfl, ea, eb, q⟩
  obtain rfl : v = Value.ref a := rx
  obtain rfl : u = Value.ref b := ry
  obtain ⟨_, ya, va, ra, da⟩ := dk_rd I.hok ea
  obtain ⟨_, yb, vb, rb, db⟩ := dk_rd I.hok eb
  refine PySem.W.keq_eq (knd := mixKind X.prog X.w) (r := m.all fun p => getP n p.1 == some p.2) ya yb da db (by omega) (fun _ => hits_of rb ra) ⟨.bl (meq m n), H, I, ?_, q⟩
  rw [len_KV ra, len_KV rb]; rfl
theorem op_neM {X : Cx} (hu : X.A.units + 64 < cLine) : OpR X (compareOp .NotEq) rNeM := by
  rintro pins s σ H x y v u Q I rx ry ⟨a, b, m, n, rfl, rfl, ea, eb, q⟩
  obtain rfl : v = Value.ref a := rx
  obtain rfl : u = Value.ref b := ry
  obtain ⟨_, ya, va, ra, da⟩ := dk_rd I.hok ea
  obtain ⟨_, yb, vb, rb, db⟩ := dk_rd I.hok eb
  refine PySem.W.keq_ne (knd := mixKind X.prog X.w) (r := m.all fun p => getP n p.1 == some p.2) ya yb da db (by omega) (fun _ => hits_of rb ra) ⟨.bl (!meq m n), H, I, ?_, q⟩
  rw [len_KV ra, len_KV rb]; rfl
theorem kvr_iV {G : Hp} : ∀ {m : List (Int × Int)} {kvs : List (Key × V)}, KvR K G kvs (mI m) → kvs = iV m
  | [], kvs, h => by
    have := h.len
    cases kvs with
    | nil => rfl
    | cons a b => cases this
  | p :: m, kvs, h => by
    cases kvs with
    | nil => have := h.len; cases this
    | cons q kvs =>
      obtain ⟨d, m', e, r, h'⟩ := h.inv
      have e : ((Sum.inl p.1 : Key), D.int p.2) :: mM D.int m = (q.1, d) :: m' := e
      injection e with e1 e2
      injection e1 with e3 e4
      subst e2
      rw [kvr_iV h']
      have : q = (.inl p.1, .int p.2) := by
        refine Prod.ext e3.symm ?_
        rw [← e4] at r
        cases h : q.2 <;> rw [h] at r <;> cases r
        rfl
      rw [this]; rfl
section
open PySem.Spec PyProof.Rows
/-! ### tuples that hold ints, texts and dicts of ints -/
theorem isSome_of {m : List (Int × Int)} {vb : List (Key × Value)} (rb : L2.KV (iV m) vb) (k : Int) : (PySem.valueAt vb (.inl k : Key)).isSome = (getP m k).isSome := by
  have rv := rb.val (.inl k)
  rw [val_iV] at rv
  cases e : getP m k with
  | none =>
    rw [e] at rv
    cases z : PySem.valueAt vb (.inl k : Key) with
    | none => rfl
    | some y => rw [z] at rv; cases rv
  | some x =>
    rw [e] at rv
    cases z : PySem.valueAt vb (.inl k : Key) with
    | none => rw [z] at rv; cases rv
    | some y => rfl
theorem int_of {m : List (Int × Int)} {vb : List (Key × Value)} (rb : L2.KV (iV m) vb) {k : Int} {y : Value} (h : PySem.valueAt vb (.inl k : Key) = some y) : ∃ x t, getP m k = some x ∧ y = .int x t := by
  have rv := rb.val (.inl k)
  rw [val_iV, h] at rv
  cases e : getP m k with
  | none => rw [e] at rv; cases rv
  | some x => rw [e] at rv; obtain ⟨t, ht⟩ := (show RelV (.int x) y from rv); exact ⟨x, t, rfl, ht⟩
theorem mem_KV : ∀ {m : List (Int × Int)} {va : List (Key × Value)}, L2.KV (iV m) va → ∀ k v, (k, v) ∈ va → ∃ p t, p ∈ m ∧ k = .inl p.1 ∧ v = .int p.2 t
  | [], va, ra, k, v, h => by cases ra; cases h
  | p :: m, va, ra, k, v, h => by
    have ra' : Paired (fun (p : Key × V) (q : Key × Value) => p.1 = q.1 ∧ RelV p.2 q.2) ((.inl p.1, .int p.2) :: iV m) va := ra
    cases ra' with
    | @cons _ q _ qs hq t =>
      rcases List.mem_cons.mp h with e | h
      · subst e
        obtain ⟨h1, i, h2⟩ := hq
        exact ⟨p, i, List.mem_cons_self, h1.symm, h2⟩
      · obtain ⟨p', t', h1, h2⟩ := mem_KV (m := m) (va := qs) t k v h
        exact ⟨p', t', List.mem_cons_of_mem _ h1, h2⟩
theorem all_of {n : List (Int × Int)} {vb : List (Key × Value)} (rb : L2.KV (iV n) vb) {e : Key → Bool} : ∀ {m : List (Int × Int)} {va : List (Key × Value)}, L2.KV (iV m) va → (∀ p ∈ m, e (.inl p.1) = (getP n p.1 == some p.2)) →
    (va.all fun p => (PySem.valueAt vb p.1).isSome && e p.1) = m.all fun p => getP n p.1 == some p.2
  | [], va, ra, _ => by cases ra; rfl
  | p :: m, va, ra, he => by
    have ra' : Paired (fun (p : Key × V) (q : Key × Value) => p.1 = q.1 ∧ RelV p.2 q.2) ((.inl p.1, .int p.2) :: iV m) va := ra
    cases ra' with
    | @cons _ q _ qs hq t =>
      rw [List.all_cons, List.all_cons, all_of rb (m := m) (va := qs) t fun p hp => he p (List.mem_cons_of_mem _ hp)]
      have hk : q.1 = .inl p.1 := hq.1.symm
      rw [hk, isSome_of rb, he p List.mem_cons_self]
      cases getP n p.1 <;> rfl
/-- part by part -/
inductive CmpV (H : Hp) : V → V → Bool → Prop
  | int (i j : Int) : CmpV H (.int i) (.int j) (i == j)
  | str (i j : Str) : CmpV H (.str i) (.str j) (i == j)
  | dict {a b : Addr} {m n : List (Int × Int)} (ea : Rd H a (.dK (iV m))) (eb : Rd H b (.dK (iV n))) (nm : (m.map (·.1)).Nodup) : CmpV H (.ref a) (.ref b) (meq m n)
def rEqT (K : PySem.W.Frag) : R2 := fun x y H Q => ∃ (a b : Addr) (xs ys : List V) (es : List Bool), x = .ref a ∧ y = .ref b ∧ SqT K H a xs ∧ SqT K H b ys ∧ xs.length = ys.length ∧ xs.length = es.length ∧ (∀ (j : Nat) (v u : V) (e : Bool), xs[j]? = some v → ys[j]? = some u → es[j]? = some e → CmpV H v u e) ∧ Q (.bl (es.all id)) H
def rNeT (K : PySem.W.Frag) : R2 := fun x y H Q => ∃ (a b : Addr) (xs ys : List V) (es : List Bool), x = .ref a ∧ y = .ref b ∧ SqT K H a xs ∧ SqT K H b ys ∧ xs.length = ys.length ∧ xs.length = es.length ∧ (∀ (j : Nat) (v u : V) (e : Bool), xs[j]? = some v → ys[j]? = some u → es[j]? = some e → CmpV H v u e) ∧ Q (.bl (!es.all id)) H
theorem iV_inj : ∀ {m n : List (Int × Int)}, iV m = iV n → m = n
  | [], [], _ => rfl
  | [], _ :: _, h => by cases h
  | _ :: _, [], h => by cases h
  | p :: m, q :: n, h => by
    have h : ((Sum.inl p.1, V.int p.2) : Key × V) :: iV m = (Sum.inl q.1, V.int q.2) :: iV n := h
    injection h with h1 h2
    injection h1 with h3 h4
    injection h3 with h3
    injection h4 with h4
    rw [iV_inj h2, Prod.ext h3 h4]
theorem meq_self {m : List (Int × Int)} (nm : (m.map (·.1)).Nodup) : meq m m = true := (meq_iff nm nm).mpr fun _ => rfl
theorem tree_of {X : Cx} {pins : List (Addr × Obj)} {σ : L2.St} {H : Hp} {s : Shared} (I : L2.Inv X pins σ H s) {v u : V} {e : Bool} {v' u' : Value} (c : CmpV H v u e) (rv : RelV v v') (ru : RelV u u') : PySem.W.EqTree X.prog X.w s 3 v' u' e := by
  cases c with
  | int i j =>
    obtain ⟨t, rfl⟩ := rv
    obtain ⟨t', rfl⟩ := ru
    exact .leaf fun A _ => SeqAt.EqAt.int_int i t j t'
  | str i j =>
    obtain ⟨t, rfl⟩ := rv
    obtain ⟨t', rfl⟩ := ru
    exact .leaf fun A _ => SeqAt.EqAt.str_str i t j t'
  | @dict a b m n ea eb nm =>
    obtain rfl : v' = Value.ref a := rv
    obtain rfl : u' = Value.ref b := ru
    obtain ⟨_, ya, va, ra, da⟩ := dk_rd I.hok ea
    obtain ⟨_, yb, vb, rb, db⟩ := dk_rd I.hok eb
    by_cases z : a = b
    · subst z
      have em : HO.dK (iV m) = HO.dK (iV n) := by
        rcases ea with ea | ⟨od, ea⟩ <;> rcases eb with eb | ⟨od', eb⟩
        · rw [ea] at eb; exact Option.some.inj eb
        · rw [ea] at eb; cases Option.some.inj eb
        · rw [ea] at eb; cases Option.some.inj eb
        · rw [ea] at eb; injection Option.some.inj eb
      injection em with em
      have emn : m = n := iV_inj em
      subst emn
      rw [meq_self nm]
      exact .same
    · have t := PySem.W.EqTree.dicts (prog := X.prog) (w := X.w) (s := s) (n := 2) (knd := mixKind X.prog X.w) (e := fun k => match k with | .inl i => getP n i == getP m i | .inr _ => false) z ya yb da db (fun k v y hm hv => by
        obtain ⟨p, t, hp, rfl, rfl⟩ := mem_KV ra k v hm
        obtain ⟨x, t', hx, rfl⟩ := int_of rb hv
        have hg : getP m p.1 = some p.2 := mem_getP nm hp
        have : (getP n p.1 == getP m p.1) = (p.2 == x) := by
          rw [hx, hg]
          by_cases z : x = p.2
          · subst z; simp
          · rw [beq_eq_false_iff_ne.mpr (fun q => z (Option.some.inj q)), beq_eq_false_iff_ne.mpr (fun q => z q.symm)]
        show PySem.W.EqTree X.prog X.w s 2 _ _ (getP n p.1 == getP m p.1)
        rw [this]
        exact .leaf fun A _ => SeqAt.EqAt.int_int p.2 t x t')
      have e2 : (va.length == vb.length && va.all fun p => (PySem.valueAt vb p.1).isSome && (match p.1 with | .inl i => getP n i == getP m i | .inr _ => false)) = meq m n := by
        rw [all_of rb (e := fun k => match k with | .inl i => getP n i == getP m i | .inr _ => false) ra fun p hp => by show (getP n p.1 == getP m p.1) = _; rw [mem_getP nm hp], len_KV ra, len_KV rb]
        rfl
      rw [← e2]
      exact t
theorem all_getD : ∀ (es : List Bool), (List.range es.length).all (fun j => es.getD j false) = es.all id
  | [] => rfl
  | e :: es => by
    rw [List.length_cons, List.range_succ_eq_map, List.all_cons, List.all_map, List.all_cons, ← all_getD es]
    rfl
theorem op_eqT {X : Cx} (hu : X.A.units + 64 < cLine) : OpR X (compareOp .Eq) (rEqT X.K) := by
  rintro pins s σ H x y v u Q I rx ry ⟨a, b, xs, ys, es, rfl, rfl, ha, hb, hl, hle, hc, q⟩
  obtain rfl : v = Value.ref a := rx
  obtain rfl : u = Value.ref b := ry
  obtain ⟨us, ru, tu, _⟩ := I.tuple ha
  obtain ⟨ws, rw', tw, _⟩ := I.tuple hb
  have lu : us.length = xs.length := ru.length.symm
  have lw : ws.length = ys.length := rw'.length.symm
  refine PySem.W.eq_tuplesT (n := 3) (e := fun j => es.getD j false) tu tw (fun j h1 h2 => ?_) (by omega) ⟨.bl (es.all id), H, I, ?_, q⟩
  · have h1' : j < xs.length := by simpa [lu] using h1
    obtain ⟨u1, e1, r1⟩ := ru.get (List.getElem?_eq_getElem h1')
    obtain ⟨u2, e2, r2⟩ := rw'.get (List.getElem?_eq_getElem (show j < ys.length by omega))
    have hj : j < es.length := by omega
    have c := hc j _ _ _ (List.getElem?_eq_getElem h1') (List.getElem?_eq_getElem (show j < ys.length by omega)) (List.getElem?_eq_getElem hj)
    have t := tree_of I c r1 r2
    have g1 : us.toArray[j] = u1 := by
      have := (List.getElem?_eq_some_iff.mp e1).2
      simpa using this
    have g2 : ws.toArray[j] = u2 := by
      have := (List.getElem?_eq_some_iff.mp e2).2
      simpa using this
    rw [g1, g2]
    show PySem.W.EqTree X.prog X.w s 3 u1 u2 (es.getD j false)
    rw [List.getD_eq_getElem?_getD, List.getElem?_eq_getElem hj]
    exact t
  · have e3 : ((List.range (min us.toArray.size ws.toArray.size)).all (fun j => es.getD j false) && us.toArray.size == ws.toArray.size) = es.all id := by
      have s1 : us.toArray.size = es.length := by simp [lu, hle]
      have s2 : ws.toArray.size = es.length := by simp [lw, ← hl, hle]
      rw [s1, s2, Nat.min_self, all_getD]
      simp
    show RelV (.bl (es.all id)) (Value.bool _)
    rw [e3]
    rfl
end
/-! ### == over anything that is known -/
def rEqB (K : PySem.W.Frag) : R2 := fun x y H Q => rEqA K x y H Q ∨ rEqM x y H Q ∨ rEqT K x y H Q
def rNeB (K : PySem.W.Frag) : R2 := fun x y H Q => rNeA K x y H Q ∨ rNeM x y H Q
theorem kp_eqB {X : Cx} (hu : X.A.units + 64 < cLine) (h : X.K = K := by rfl) : OpR X (compareOp .Eq) (rEqB K) := OpR.or (kp_eqA hu h) (OpR.or (op_eqM hu) (by subst h; exact op_eqT hu))
theorem kp_neB {X : Cx} (hu : X.A.units + 64 < cLine) (h : X.K = K := by rfl) : OpR X (compareOp .NotEq) (rNeB K) := OpR.or (kp_neA hu h) (op_neM hu)
variable {Q : E → Prop} {x y : E}
theorem dr_eqB' (h : DR K rEq x y Q) : DR K (rEqB K) x y Q := fun U L G v w lo sx sy H j QH q => .inl (dr_eqA h U L G v w lo sx sy H j QH q)
theorem dr_neB' (h : DR K rNe x y Q) : DR K (rNeB K) x y Q := fun U L G v w lo sx sy H j QH q => .inl (dr_neA h U L G v w lo sx sy H j QH q)
theorem dr_eqBD (h : DR K (rEqD K) x y Q) : DR K (rEqB K) x y Q := fun U L G v w lo sx sy H j QH q => .inl (dr_eqAD h U L G v w lo sx sy H j QH q)
theorem dr_neBD (h : DR K (rNeD K) x y Q) : DR K (rNeB K) x y Q := fun U L G v w lo sx sy H j QH q => .inl (dr_neAD h U L G v w lo sx sy H j QH q)
theorem dr_eqBM {m n : List (Int × Int)} (hx : x = .d (.dc (mI m)) ∨ x = .dm (mI m)) (hy : y = .d (.dc (mI n)) ∨ y = .dm (mI n)) (k : Q (.d (.bl (meq m n)))) : DR K (rEqB K) x y Q := fun U L G v w lo sx sy H j QH q => by
  obtain ⟨a, kvs, rfl, r1, k1, _⟩ := slot_dc hx sx j
  obtain ⟨b, lvs, rfl, r2, k2, _⟩ := slot_dc hy sy j
  rw [kvr_iV k1] at r1
  rw [kvr_iV k2] at r2
  exact .inr (.inl ⟨a, b, m, n, rfl, rfl, r1, r2, q _ _ _ j ⟨Ex.refl G, .d (.bl _), Rp.bl _, k⟩⟩)
theorem dr_neBM {m n : List (Int × Int)} (hx : x = .d (.dc (mI m)) ∨ x = .dm (mI m)) (hy : y = .d (.dc (mI n)) ∨ y = .dm (mI n)) (k : Q (.d (.bl (!meq m n)))) : DR K (rNeB K) x y Q := fun U L G v w lo sx sy H j QH q => by
  obtain ⟨a, kvs, rfl, r1, k1, _⟩ := slot_dc hx sx j
  obtain ⟨b, lvs, rfl, r2, k2, _⟩ := slot_dc hy sy j
  rw [kvr_iV k1] at r1
  rw [kvr_iV k2] at r2
  exact .inr ⟨a, b, m, n, rfl, rfl, r1, r2, q _ _ _ j ⟨Ex.refl G, .d (.bl _), Rp.bl _, k⟩⟩
/-- part by part, told by data -/
inductive CmpD : D → D → Bool → Prop
  | int (i j : Int) : CmpD (.int i) (.int j) (i == j)
  | str (i j : Str) : CmpD (.str i) (.str j) (i == j)
  | dc (m n : List (Int × Int)) : CmpD (.dc (mI m)) (.dc (mI n)) (meq m n)
def CmpL : List D → List D → List Bool → Prop
  | [], [], [] => True
  | d :: ds, e :: es, b :: bs => CmpD d e b ∧ CmpL ds es bs
  | _, _, _ => False
theorem cmpV_of {U : Vx} {H G : Hp} (j : J U H G) {d e : D} {b : Bool} (c : CmpD d e b) {v u : V} (rv : Rp K G v d) (ru : Rp K G u e) : CmpV H v u b := by
  cases c with
  | int i j => cases rv; cases ru; exact .int _ _
  | str i j => cases rv; cases ru; exact .str _ _
  | dc m n =>
    obtain ⟨a, kvs, rfl, r1, k1, nd⟩ := rp_dc rv
    obtain ⟨b, lvs, rfl, r2, k2, _⟩ := rp_dc ru
    rw [kvr_iV k1] at r1
    rw [kvr_iV k2] at r2
    have up : ∀ a x, Rd G a x → Rd H a x := fun a x h => h.elim (fun h => .inl (j.up _ _ h)) fun ⟨od, h⟩ => .inr ⟨od, j.up _ _ h⟩
    exact .dict (up _ _ r1) (up _ _ r2) (mM_nodup.mp nd)
theorem cmpL_at {U : Vx} {H G : Hp} (j : J U H G) : ∀ {ds es : List D} {bs : List Bool} {xs ys : List V}, CmpL ds es bs → RpA K G xs ds → RpA K G ys es → xs.length = ys.length ∧ xs.length = bs.length ∧ ∀ (i : Nat) (v u : V) (b : Bool), xs[i]? = some v → ys[i]? = some u → bs[i]? = some b → CmpV H v u b
  | [], [], [], xs, ys, _, hx, hy => by cases hx; cases hy; exact ⟨rfl, rfl, fun i v u b h => by simp at h⟩
  | d :: ds, e :: es, b :: bs, xs, ys, ⟨c, cs⟩, hx, hy => by
    cases hx with
    | cons r1 t1 =>
      cases hy with
      | cons r2 t2 =>
        obtain ⟨h1, h2, h3⟩ := cmpL_at j cs t1 t2
        refine ⟨by simp [h1], by simp [h2], fun i v u b' hv hu hb => ?_⟩
        cases i with
        | zero => simp at hv hu hb; subst hv hu hb; exact cmpV_of j c r1 r2
        | succ i => exact h3 i v u b' (by simpa using hv) (by simpa using hu) (by simpa using hb)
  | [], [], _ :: _, _, _, h, _, _ => h.elim
  | [], _ :: _, _, _, _, h, _, _ => h.elim
  | _ :: _, [], _, _, _, h, _, _ => h.elim
  | _ :: _, _ :: _, [], _, _, h, _, _ => h.elim
theorem dr_eqBT {ds es : List D} (bs : List Bool) (c : CmpL ds es bs) (k : Q (.d (.bl (bs.all id)))) : DR K (rEqB K) (.d (.tup ds)) (.d (.tup es)) Q := fun U L G v w lo sx sy H j QH q => by
  cases (sx : Rp K G v (.tup ds)) with
  | tup a1 b1 =>
    cases (sy : Rp K G w (.tup es)) with
    | tup a2 b2 =>
      obtain ⟨h1, h2, h3⟩ := cmpL_at j c b1 b2
      exact .inr (.inr ⟨_, _, _, _, bs, rfl, rfl, ex_t j.up a1, ex_t j.up a2, h1, h2, h3, q _ _ _ j ⟨Ex.refl G, .d (.bl _), Rp.bl _, k⟩⟩)
end
end
end Wp

set_option Elab.async false
set_option linter.all false
set_option maxRecDepth 100000
set_option maxHeartbeats 4000000
/-! What the walker meets: one lemma for each kind of thing. -/
namespace Wp
section
open PySem L2 Evl StX
set_option autoImplicit false
def LenE (e : E) (P : Nat → Prop) : Prop := (∃ ds, (e = .d (.lst ds) ∨ e = .d (.tup ds) ∨ e = .own ds) ∧ P ds.length) ∨ DcE e fun m => P m.length
def SqE (e : E) (P : List D → Prop) : Prop := ∃ ds, (e = .d (.lst ds) ∨ e = .d (.tup ds)) ∧ P ds
def LsE (e : E) (P : List D → Prop) : Prop := (∃ ds, (e = .d (.lst ds) ∨ e = .d (.tup ds) ∨ e = .own ds) ∧ P ds) ∨ DcE e fun m => P (m.map fun p => kD p.1)
def RvE (e : E) (P : E → Prop) : Prop := (∃ ds, e = .d (.lst ds) ∧ P (.d (.lst ds.reverse))) ∨ (∃ ds, e = .own ds ∧ P (.d (.lst ds.reverse))) ∨ ∃ ds, e = .d (.tup ds) ∧ P (.d (.tup ds.reverse))
def TrE (e : E) (P : Bool → Prop) : Prop := DD e fun d => ∃ b, truD d = some b ∧ P b
section
variable {P : Nat → Prop} {PL : List D → Prop} {PE' : E → Prop} {PB : Bool → Prop} {ds : List D} {m : List (Key × D)} {α : Type} {f : α → D} {xs : List α} {mm : List (Int × α)}
theorem len_l (h : P ds.length) : LenE (.d (.lst ds)) P := .inl ⟨ds, .inl rfl, h⟩
theorem len_t (h : P ds.length) : LenE (.d (.tup ds)) P := .inl ⟨ds, .inr (.inl rfl), h⟩
theorem len_o (h : P ds.length) : LenE (.own ds) P := .inl ⟨ds, .inr (.inr rfl), h⟩
theorem len_lM (h : P xs.length) : LenE (.d (.lst (xs.map f))) P := len_l (by rw [List.length_map]; exact h)
theorem len_tM (h : P xs.length) : LenE (.d (.tup (xs.map f))) P := len_t (by rw [List.length_map]; exact h)
theorem len_oM (h : P xs.length) : LenE (.own (xs.map f)) P := len_o (by rw [List.length_map]; exact h)
theorem len_d (h : P m.length) : LenE (.d (.dc m)) P := .inr (dce_d h)
theorem len_m (h : P m.length) : LenE (.dm m) P := .inr (dce_o h)
theorem len_dM (h : P mm.length) : LenE (.d (.dc (mM f mm))) P := len_d (by rw [mM_len]; exact h)
theorem len_mM (h : P mm.length) : LenE (.dm (mM f mm)) P := len_m (by rw [mM_len]; exact h)
theorem sq_l (h : PL ds) : SqE (.d (.lst ds)) PL := ⟨ds, .inl rfl, h⟩
theorem sq_t (h : PL ds) : SqE (.d (.tup ds)) PL := ⟨ds, .inr rfl, h⟩
theorem ls_l (h : PL ds) : LsE (.d (.lst ds)) PL := .inl ⟨ds, .inl rfl, h⟩
theorem ls_t (h : PL ds) : LsE (.d (.tup ds)) PL := .inl ⟨ds, .inr (.inl rfl), h⟩
theorem ls_o (h : PL ds) : LsE (.own ds) PL := .inl ⟨ds, .inr (.inr rfl), h⟩
theorem ls_d (h : PL (m.map fun p => kD p.1)) : LsE (.d (.dc m)) PL := .inr (dce_d h)
theorem ls_m (h : PL (m.map fun p => kD p.1)) : LsE (.dm m) PL := .inr (dce_o h)
theorem kD_mM : (mM f mm).map (fun p => kD p.1) = (mm.map (·.1)).map D.int := by unfold mM; rw [List.map_map, List.map_map]; rfl
theorem ls_dM (h : PL ((mm.map (·.1)).map D.int)) : LsE (.d (.dc (mM f mm))) PL := ls_d (by rw [kD_mM]; exact h)
theorem ls_mM (h : PL ((mm.map (·.1)).map D.int)) : LsE (.dm (mM f mm)) PL := ls_m (by rw [kD_mM]; exact h)
theorem rv_l (h : PE' (.d (.lst ds.reverse))) : RvE (.d (.lst ds)) PE' := .inl ⟨ds, rfl, h⟩
theorem rv_o (h : PE' (.d (.lst ds.reverse))) : RvE (.own ds) PE' := .inr (.inl ⟨ds, rfl, h⟩)
theorem rv_t (h : PE' (.d (.tup ds.reverse))) : RvE (.d (.tup ds)) PE' := .inr (.inr ⟨ds, rfl, h⟩)
theorem rv_lM (h : PE' (.d (.lst (xs.reverse.map f)))) : RvE (.d (.lst (xs.map f))) PE' := rv_l (by rw [← List.map_reverse]; exact h)
theorem rv_oM (h : PE' (.d (.lst (xs.reverse.map f)))) : RvE (.own (xs.map f)) PE' := rv_o (by rw [← List.map_reverse]; exact h)
theorem rv_tM (h : PE' (.d (.tup (xs.reverse.map f)))) : RvE (.d (.tup (xs.map f))) PE' := rv_t (by rw [← List.map_reverse]; exact h)
theorem tr_n (h : PB false) : TrE (.d .non) PB := ⟨_, rfl, false, rfl, h⟩
theorem tr_b {b : Bool} (h : PB b) : TrE (.d (.bl b)) PB := ⟨_, rfl, b, rfl, h⟩
theorem tr_i {i : Int} (h : PB (i != 0)) : TrE (.d (.int i)) PB := ⟨_, rfl, _, rfl, h⟩
theorem tr_l (h : PB (!ds.isEmpty)) : TrE (.d (.lst ds)) PB := ⟨_, rfl, _, rfl, h⟩
theorem tr_t (h : PB (!ds.isEmpty)) : TrE (.d (.tup ds)) PB := ⟨_, rfl, _, rfl, h⟩
theorem tr_lM (h : PB (!xs.isEmpty)) : TrE (.d (.lst (xs.map f))) PB := tr_l (by rw [List.isEmpty_map]; exact h)
theorem tr_tM (h : PB (!xs.isEmpty)) : TrE (.d (.tup (xs.map f))) PB := tr_t (by rw [List.isEmpty_map]; exact h)
end
section
variable {K : PySem.W.Frag} {ρ : List E} {te td ty tx ta tb tl : TE} {tas : TA} {tt : TT} {g : TG} {ts : TS} {vs : List Nat} {N B C : List E → Prop} {R : D → Prop} {QN P : List D → Prop} {Q : E → Prop} {QM : List (Key × D) → Prop} {QT : Bool → Prop} {x y : E}
theorem de_len (h : DE K te ρ fun x => LenE x fun n => Q (.d (.int (n : Nat)))) : DE K (tCB (rLenA K) (tCons te tNil)) ρ Q := de_lenA fun U σ L G o => (h U σ L G o).w fun v G1 ⟨e1, x, sx, hx⟩ => ⟨e1, x, sx, hx⟩
theorem di_sq' (h : DE K tl ρ fun e => SqE e P) : DI K (iSq K tl) ρ P := di_sq h
theorem dn_list (h : DE K te ρ fun x => LsE x QN) : DN K (tCB (rListA K) (tCons te tNil)) ρ QN := dn_listA h
theorem de_rev (h : DE K te ρ fun x => RvE x Q) : DE K (tRevS K te) ρ Q := de_revS h
theorem dt_tru (h : DE K te ρ fun x => TrE x QT) : DT K (tTruQ K te) ρ QT := dt_truth h
theorem de_or (h : DE K ta ρ fun x => DD x fun d => ∃ b, truD d = some b ∧ if b = true then Q (.d d) else DE K tb ρ Q) : DE K (tOrT K ta tb) ρ Q := de_orT h
/-! ### items and slices of the def's own lists -/
theorem dr_ixSO {ds : List D} {i : Int} (h : ∃ d, atI ds i = some d ∧ Q (.d d)) : DR K (rIxS K) (.own ds) (.d (.int i)) Q := fun U L G v w lo sx sy H j QH q => .inl (dr_ixO h U L G v w lo sx sy H j QH q)
theorem dsl_SO {ds : List D} {lo hi : Option Int} (k : Q (.d (.lst (cutO ds lo hi)))) : DSl K (rSlS K) (.own ds) lo hi Q := fun U L G v lo' sx H j QH q => .inl (dsl_O k U L G v lo' sx H j QH q)
theorem dn_sl {tl th : TO} (h : DE K te ρ fun x => DO K tl ρ fun l => DO K th ρ fun u => ∃ ds, x = .d (.lst ds) ∧ QN (cutO ds l u)) : DN K (tSl (rSlS K) te tl th) ρ QN := fun U σ L G o H j QH q =>
  h U σ L G o H j _ fun v H1 G1 j1 ⟨e1, x, sx, hx⟩ => hx U σ L G1 (o.mono e1) H1 j1 _ fun l H2 G2 j2 ⟨e2, h2⟩ => h2 U σ L G2 (o.mono (e1.trans e2)) H2 j2 _ fun u H3 G3 j3 ⟨e3, ds, ed, k⟩ => by
    subst ed
    cases ((sx.mono e2).mono e3 : Rp K G3 v (.lst ds)) with
    | lst a b => exact .inl (rm_slL (sq_of a) (fun p G' n e g => ⟨p, _, _, G3, rfl, (e1.trans e2).trans e3, n, e, g, b.cut l u, k⟩) H3 j3 QH q)
theorem dr_eqBI {i j : Int} (k : Q (.d (.bl (decide (i = j))))) : DR K (rEqB K) (.d (.int i)) (.d (.int j)) Q := dr_eqB' (dr_eqI k)
theorem dr_neBI {i j : Int} (k : Q (.d (.bl (!decide (i = j))))) : DR K (rNeB K) (.d (.int i)) (.d (.int j)) Q := dr_neB' (dr_neI k)
theorem dr_eqBS {i j : Str} (k : Q (.d (.bl (decide (i = j))))) : DR K (rEqB K) (.d (.str i)) (.d (.str j)) Q := dr_eqB' (dr_eqS k)
theorem dr_neBS {i j : Str} (k : Q (.d (.bl (!decide (i = j))))) : DR K (rNeB K) (.d (.str i)) (.d (.str j)) Q := dr_neB' (dr_neS k)
theorem dr_eqBB {i j : Bool} (k : Q (.d (.bl (decide (i = j))))) : DR K (rEqB K) (.d (.bl i)) (.d (.bl j)) Q := dr_eqB' (dr_eqB k)
theorem dr_neBB {i j : Bool} (k : Q (.d (.bl (!decide (i = j))))) : DR K (rNeB K) (.d (.bl i)) (.d (.bl j)) Q := dr_neB' (dr_neB k)
theorem dr_eqBdd {m n : List (Int × Int)} (k : Q (.d (.bl (meq m n)))) : DR K (rEqB K) (.d (.dc (mI m))) (.d (.dc (mI n))) Q := dr_eqBM (.inl rfl) (.inl rfl) k
theorem dr_neBdd {m n : List (Int × Int)} (k : Q (.d (.bl (!meq m n)))) : DR K (rNeB K) (.d (.dc (mI m))) (.d (.dc (mI n))) Q := dr_neBM (.inl rfl) (.inl rfl) k
/-- data, told by something that is theirs: two of one kind, compared by what they are made of -/
theorem dr_eqBX {d e : D} (b : Bool) (hb : b = true ↔ d = e) (hd : d.plain = true) (he : e.plain = true) (sd : d.dep ≤ 60) (se : e.dep ≤ 60) (k : Q (.d (.bl b))) : DR K (rEqB K) (.d d) (.d e) Q := dr_eqBD (dr_eqD b hb hd he sd se k)
theorem dr_neBX {d e : D} (b : Bool) (hb : b = true ↔ d = e) (hd : d.plain = true) (he : e.plain = true) (sd : d.dep ≤ 60) (se : e.dep ≤ 60) (k : Q (.d (.bl (!b)))) : DR K (rNeB K) (.d d) (.d e) Q := dr_neBD (dr_neD b hb hd he sd se k)
/-! ### an item at a drawn place -/
section
variable {n : Int} {PD : D → Prop} {a b c d e f g h : Int}
theorem at_some {ds : List D} (h0 : 0 ≤ n) (h1 : n < ds.length) (k : ∀ d ∈ ds, PD d) : ∃ d, atI ds n = some d ∧ PD d := by
  obtain ⟨m, rfl⟩ := Int.eq_ofNat_of_zero_le h0
  have hm : m < ds.length := by omega
  exact ⟨ds[m], atI_nat (List.getElem?_eq_getElem hm), k _ (List.getElem_mem hm)⟩
theorem pick2 (h0 : 0 ≤ n) (h1 : n < 2) (k : ∀ m, m = a ∨ m = b → PD (.int m)) : ∃ d, atI [.int a, .int b] n = some d ∧ PD d := at_some h0 (by simpa using h1) fun d hd => by
  simp at hd; rcases hd with rfl | rfl <;> exact k _ (by simp)
theorem pick3 (h0 : 0 ≤ n) (h1 : n < 3) (k : ∀ m, m = a ∨ m = b ∨ m = c → PD (.int m)) : ∃ d, atI [.int a, .int b, .int c] n = some d ∧ PD d := at_some h0 (by simpa using h1) fun d hd => by
  simp at hd; rcases hd with rfl | rfl | rfl <;> exact k _ (by simp)
theorem pick4 (h0 : 0 ≤ n) (h1 : n < 4) (k : ∀ m, m = a ∨ m = b ∨ m = c ∨ m = d → PD (.int m)) : ∃ d', atI [.int a, .int b, .int c, .int d] n = some d' ∧ PD d' := at_some h0 (by simpa using h1) fun d hd => by
  simp at hd; rcases hd with rfl | rfl | rfl | rfl <;> exact k _ (by simp)
theorem pick5 (h0 : 0 ≤ n) (h1 : n < 5) (k : ∀ m, m = a ∨ m = b ∨ m = c ∨ m = d ∨ m = e → PD (.int m)) : ∃ d', atI [.int a, .int b, .int c, .int d, .int e] n = some d' ∧ PD d' := at_some h0 (by simpa using h1) fun d hd => by
  simp at hd; rcases hd with rfl | rfl | rfl | rfl | rfl <;> exact k _ (by simp)
theorem pick8 (h0 : 0 ≤ n) (h1 : n < 8) {a' : Int} (k : ∀ m, m = a ∨ m = b ∨ m = c ∨ m = d ∨ m = e ∨ m = f ∨ m = g ∨ m = a' → PD (.int m)) : ∃ d', atI [.int a, .int b, .int c, .int d, .int e, .int f, .int g, .int a'] n = some d' ∧ PD d' := at_some h0 (by simpa using h1) fun d hd => by
  simp at hd; rcases hd with rfl | rfl | rfl | rfl | rfl | rfl | rfl | rfl <;> exact k _ (by simp)
theorem pickI {ns : List Int} (h0 : 0 ≤ n) (h1 : n < ns.length) (k : ∀ m, m ∈ ns → PD (.int m)) : ∃ d, atI (ns.map D.int) n = some d ∧ PD d := at_some h0 (by rw [List.length_map]; exact h1) fun d hd => by
  obtain ⟨m, hm, rfl⟩ := List.mem_map.mp hd; exact k m hm
theorem pickM {α : Type} {fd : α → D} {ns : List α} (h0 : 0 ≤ n) (h1 : n < ns.length) (k : ∀ m, m ∈ ns → PD (fd m)) : ∃ d, atI (ns.map fd) n = some d ∧ PD d := at_some h0 (by rw [List.length_map]; exact h1) fun d hd => by
  obtain ⟨m, hm, rfl⟩ := List.mem_map.mp hd; exact k m hm
end
theorem get_some {α : Type} {f : α → D} {m : List (Int × α)} {k : Int} {v : α} {PD : D → Prop} (h : getP m k = some v) (q : PD (f v)) : ∃ d, getP (mM f m) (.inl k) = some d ∧ PD d := ⟨f v, by rw [get_mM, h]; rfl, q⟩
/-! ### min of a dict's keys, of a list -/
def rMinA (K : PySem.W.Frag) : List V → Hp → VK → Prop := fun xs H Q => rMin K xs H Q ∨ ∃ (a : Addr) (kvs : List (Key × V)) (ks : List Int), xs = [.ref a] ∧ Rd H a (.dK kvs) ∧ kvs.map (·.1) = ks.map Sum.inl ∧ 0 < ks.length ∧ ∀ m, m ∈ ks → (∀ y ∈ ks, m ≤ y) → Q (.int m) H
theorem kr_minA {X : Cx} (h : X.K = K := by rfl) (hc : X.calm = true := by rfl) : CallR X (.builtin "min") (rMinA K) := by
  subst h
  refine CallR.or (cr_min hc) fun pins s σ H xs us Q I r hq => ?_
  obtain ⟨a, kvs, ks, rfl, hd, hks, hne, q⟩ := hq
  rw [Vals.ref1 r]
  obtain ⟨_, hsys, ws, rel, dof⟩ := dk_rd I.hok hd
  obtain ⟨ep, dat⟩ := dof.dictAt
  have hkw : ws.map (·.1) = ks.map Sum.inl := rel.keys.symm.trans hks
  have hl : ws.length = ks.length := by have e := congrArg List.length hkw; rwa [List.length_map, List.length_map] at e
  have hval : ∀ (i : Nat) (v : Value), (∃ k x, ws[i]? = some (k, x) ∧ (mixKind X.prog X.w).is k v = true) → ∃ t, v = Value.int (ks.getD i 0) t := fun i v ⟨k, x, hk, hv⟩ => by
    have e3 : (ws.map (·.1))[i]? = some k := by rw [List.getElem?_map, hk]; rfl
    rw [hkw, List.getElem?_map] at e3
    obtain ⟨y, hy, e5⟩ := Option.map_eq_some_iff.mp e3
    subst e5
    rcases keyIs_shape (show keyIs (Sum.inl y) v = true from hv) with ⟨i', t, ek, ev⟩ | ⟨z, t, ek, ev⟩
    · cases ek; exact ⟨t, by rw [ev, List.getD_eq_getElem?_getD, hy]; rfl⟩
    · cases ek
  have hlt : a < s.heap.objs.size := by obtain ⟨ob, es, ho, _⟩ := dat; exact Heap.lt_size ho
  refine call_min_walk (wpAny_pyIter_dict hsys dat ⟨_, _, _, _, _, _, _, rfl, Walks.dictKeys (knd := mixKind X.prog X.w) (A := X.A.in1) (I.ok.hd hc) s.heap.objs.size a (Nat.ne_of_lt hlt) ws ep, ⟨⟨_, Heap.get?_push_size _ rfl, rfl, rfl⟩, dat.keep fun b u e => Heap.get?_push_of_some _ e⟩, fun b hb => ?_, by omega, CmpOf.ints_lt (fun i => ks.getD i 0) hval, fun v h' tk hP hk => ?_⟩)
  · show b < (s.heap.push _).objs.size
    rw [Heap.size_push]
    rcases List.mem_cons.mp hb with e | hb
    · rw [e]; exact Nat.lt_succ_self _
    · rw [show b = a from List.mem_singleton.mp hb]; exact Nat.lt_succ_of_lt hlt
  · obtain ⟨t, rfl⟩ := hval _ v hP
    obtain ⟨b1, b2⟩ := argBest_lt (fun i => ks.getD i 0) (ws.length - 1)
    have at' : ∀ i, i < ks.length → ks[i]? = some (ks.getD i 0) := fun i hi => by rw [List.getD_eq_getElem?_getD, List.getElem?_eq_getElem hi]; rfl
    refine ⟨.int _, H, I.kept (t' := tk) fun b u e => hk b u (fun hmem => ?_) (Heap.get?_push_of_some _ e), ⟨t, rfl⟩, q _ (List.mem_of_getElem? (at' _ (by omega))) fun j hj => ?_⟩
    · have e1 : b = s.heap.objs.size := List.mem_singleton.mp hmem
      have e2 := Heap.lt_size e
      rw [e1] at e2
      exact Nat.lt_irrefl _ e2
    · obtain ⟨i, hi, e⟩ := List.mem_iff_getElem.mp hj
      have e2 : ks.getD i 0 = j := by rw [List.getD_eq_getElem?_getD, List.getElem?_eq_getElem hi, ← e]; rfl
      rw [← e2]
      exact b2 i (by omega)
theorem de_minD {α : Type} {f : α → D} (h : DE K te ρ fun x => ∃ m : List (Int × α), (x = .d (.dc (mM f m)) ∨ x = .dm (mM f m)) ∧ 0 < m.length ∧ ∀ k, k ∈ m.map (·.1) → (∀ y ∈ m.map (·.1), k ≤ y) → Q (.d (.int k))) : DE K (tCB (rMinA K) (tCons te tNil)) ρ Q := fun U σ L G o H j QH q =>
  h U σ L G o H j _ fun v H1 G1 j1 ⟨e1, x, sx, m, hx, hl, k⟩ => by
    obtain ⟨a, kvs, rfl, r, kr, nd⟩ := slot_dc hx sx j1
    exact .inr ⟨a, kvs, m.map (·.1), rfl, r, by rw [kr.1, mM_keys], by rw [List.length_map]; exact hl, fun n hn hy => q _ _ _ j1 ⟨e1, .d (.int n), Rp.int _, k n hn hy⟩⟩
end
end
end Wp

set_option Elab.async false
set_option linter.all false
set_option maxRecDepth 100000
set_option maxHeartbeats 4000000
namespace Wp
section
open PySem L2 Evl StX PySem.Spec
set_option autoImplicit false
/-! ### (a, b, ..) = a list or a tuple -/
def gSq (K : PySem.W.Frag) (n : Nat) (t : TGs) : TG := fun v σ H Q => gTup K n t v σ H Q ∨ gUnl K n t v σ H Q
theorem kg_sq {X : Cx} {K : PySem.W.Frag} {es : List Expr} {k n : Nat} {t : TGs} {pos : Pos} (hc : X.calm = true) (h : PGs X es t) (hn : (assignEach es X.env).length = n := by rfl) (hst : (assignEach es X.env).findIdx? (·.1) = none := by rfl) (hk : X.K = K := by rfl) : PG X (.Tuple es k pos) (gSq K n t) := by
  subst hk
  exact ⟨fun pins s σ H v u Q I r hh => hh.elim ((pg_tup hc h hn hst).run pins s σ H v u Q I r) ((pg_unl hc h hn hst).run pins s σ H v u Q I r)⟩
variable {K : PySem.W.Frag} {ρ : List E} {gs : TGs} {ds : List D} {N : List E → Prop} {Q : E → Prop}
theorem dg_sqT {n : Nat} (hl : ds.length = n) (k : DGs K gs ds ρ N) : DG K (gSq K n gs) (.d (.tup ds)) ρ N := fun U σ L G v o s => by
  cases (s : Rp K G v (.tup ds)) with
  | tup a b => exact fun H j QH q => .inl (gm_tup a (by rw [b.len]; exact hl) (k U σ L G _ o b) H j QH q)
theorem dg_sqL {n : Nat} (hl : ds.length = n) (k : DGs K gs ds ρ N) : DG K (gSq K n gs) (.d (.lst ds)) ρ N := fun U σ L G v o s => by
  cases (s : Rp K G v (.lst ds)) with
  | lst a b => exact fun H j QH q => .inr ⟨_, _, rfl, sq_of (j.up _ _ a), by rw [b.len]; exact hl, k U σ L G _ o b H j QH q⟩
/-! ### among ints -/
theorem in_ints (i : Int) (ns : List Int) : inV (.int i) (ns.map V.int) = decide (i ∈ ns) := by
  unfold inV
  rw [List.any_map, Bool.eq_iff_iff, List.any_eq_true, decide_eq_true_eq]
  constructor
  · rintro ⟨x, hx, e⟩
    rw [show i = x from (eq_of_beq (show (x == i) = true from e)).symm]; exact hx
  · exact fun h => ⟨i, h, show (i == i) = true by simp⟩
theorem dr_inI {neg : Bool} {i : Int} {ns : List Int} {d : D} (hd : d = .tup (ns.map D.int) ∨ d = .lst (ns.map D.int)) (k : Q (.d (.bl (if neg then !decide (i ∈ ns) else decide (i ∈ ns))))) : DR K (rIn K neg) (.d (.int i)) (.d d) Q := fun U L G v w lo sx sy H j QH q => by
  cases (sx : Rp K G v (.int i))
  have hfl : (ns.map V.int).all flatV = true := by rw [List.all_map]; exact List.all_eq_true.mpr fun _ _ => rfl
  rcases hd with rfl | rfl
  · cases (sy : Rp K G w (.tup (ns.map D.int))) with
    | tup a b =>
      rw [rpa_ints b] at a
      exact ⟨_, _, rfl, .inr (ex_t j.up a), rfl, hfl, q _ _ _ j ⟨Ex.refl G, .d (.bl _), Rp.bl _, by rw [in_ints]; exact k⟩⟩
  · cases (sy : Rp K G w (.lst (ns.map D.int))) with
    | lst a b =>
      rw [rpa_ints b] at a
      exact ⟨_, _, rfl, .inl (sq_of (j.up _ _ a)), rfl, hfl, q _ _ _ j ⟨Ex.refl G, .d (.bl _), Rp.bl _, by rw [in_ints]; exact k⟩⟩
/-! ### the def's own dict or list, lent while something is counted -/
theorem J.same {U : Vx} {L L' : Ow} {H G : Hp} (j : J (U.hides L) H G) (h : ∀ p, p ∈ L ↔ p ∈ L') : J (U.hides L') H G := by
  refine ⟨j.up, j.keep, j.new, ⟨j.hid.1, fun p hp => j.hid.2 p ((h p).mpr hp)⟩, fun a ma => j.msk a ?_⟩
  rcases ma with ma | ⟨o, ma⟩
  · exact .inl ma
  · exact .inr ⟨o, (h _).mpr ma⟩
theorem own_back {U : Vx} {L : Ow} {a : Addr} {u : HO} (lo : LOk U L) (hm : (a, HI.ex u) ∈ L) : ∀ p, p ∈ (a, HI.ex u) :: L.filter (fun p => decide (p.1 ≠ a)) ↔ p ∈ L := fun p => by
  constructor
  · intro h
    rcases List.mem_cons.mp h with rfl | h
    · exact hm
    · exact (List.mem_filter.mp h).1
  · intro h
    by_cases z : p.1 = a
    · obtain ⟨b, x⟩ := p
      dsimp only at z
      subst z
      rw [lo.fn _ _ _ h hm]
      exact List.mem_cons_self
    · exact List.mem_cons_of_mem _ (List.mem_filter.mpr ⟨h, by simpa using z⟩)
theorem de_lendD {te : TE} {i : Nat} {m : List (Key × D)} {ρ' : List E} (hi : ρ[i]? = some (.dm m)) (hr : ρ.set i (.d (.dc m)) = ρ') (h : DE K te ρ' fun y => ∃ n : Int, y = .d (.int n) ∧ Q (.d (.int n))) : DE K te ρ Q := fun U σ L G o H j QH q => by
  obtain ⟨v, h3, a, vs, rfl, hm, hk, hnd, k⟩ := o.at hi rfl
  have na : G a = none := (j.msk a (.inr ⟨_, hm⟩)).1
  have e : Ex G (upd G a (.dK vs)) := Ex.new na
  obtain ⟨n1, n2, n3⟩ := o.lo.nm _ hm
  subst hr
  refine h U σ _ _ (o.shown hi rfl dic1 h3 hm na fun x => .dct (.inl upd_same) hk hnd (k.mono x)) H (j.show hm n1 n2) QH fun v H1 G1 j1 ⟨e1, y, sy, n, ey, k2⟩ => ?_
  have g1 : G1 a = some (.dK vs) := e1 _ _ upd_same
  have j2 := (j1.own (I := .ex (.dK vs)) g1 rfl n3).same (own_back o.lo hm)
  subst ey
  cases (sy : Rp K G1 v (.int n))
  exact q _ _ _ j2 ⟨woEx na (e.trans e1), .d (.int n), Rp.int _, k2⟩
/-! ### a def that returns its own list of ints -/
def KO (U : Vx) (rt : VK) (G : Hp) (R : List Int → Prop) : Prop := ∀ a qs L' G', R qs → G a = none → U.Ge a = none → G' a = some (.lst (qs.map V.int)) → Ex G G' → LOk U L' → KV (U.hides L') rt (.ref a) G'
def DSO (K : PySem.W.Frag) (ts : TS) (ρ : List E) (R : List Int → Prop) : Prop := ∀ U σ L G (Dn : Ends), EnvOk K U ρ σ L G → KO U Dn.rt G R → SM (U.hides L) ts Dn σ G
theorem KO.mono {U : Vx} {rt : VK} {G G' : Hp} {R : List Int → Prop} (h : KO U rt G R) (e : Ex G G') : KO U rt G' R := fun a qs L' G2 r n n' g e2 lo => h a qs L' G2 r (none_of_ex e n) n' g (e.trans e2) lo
theorem dso_seq {t1 t2 : TS} {R : List Int → Prop} (h : DS K t1 ρ (fun ρ' => DSO K t2 ρ' R) (fun _ => False) (fun _ => False) (fun _ => False)) : DSO K (tSeq t1 t2) ρ R := fun U σ L G Dn o r =>
  sm_seq (h U σ L G ⟨t2 Dn, Dn.rt, Dn.bk, Dn.ct⟩ o (fun ρ' σ' L' G' k o' e => fun H j => k U σ' L' G' Dn o' (r.mono e) H j) (fun _ _ _ _ z => z.elim) (fun _ _ _ _ z => z.elim) (fun _ _ _ _ z => z.elim))
theorem dso_ret {i : Nat} {R : List Int → Prop} (h : ∃ qs, ρ[i]? = some (.own (qs.map D.int)) ∧ R qs) : DSO K (tRet (tVar i)) ρ R := fun U σ L G Dn o r H j => by
  obtain ⟨qs, h1, h2⟩ := h
  obtain ⟨v, h3, a, vs, rfl, hm, b⟩ := o.at h1 rfl
  have na : G a = none := (j.msk a (.inr ⟨_, hm⟩)).1
  obtain ⟨n1, n2, n3⟩ := o.lo.nm _ hm
  have o2 := o.shown h1 rfl own1 h3 hm na fun x => .lst upd_same (b.mono x)
  have ev := rpa_ints b
  subst ev
  exact ⟨_, h3, r a qs _ _ h2 na n3 upd_same (Ex.new na) o2.lo H (j.show hm n1 n2)⟩
def spSN {α : Type} (K : PySem.W.Frag) (args : α → List D) (pre : α → Prop) (R : α → List Int → Prop) : Sp := spSA K (fun (x : α × Hp) vs G => x.2 = G ∧ RpA K G vs (args x.1) ∧ pre x.1) (fun x v G' => ∃ p qs, v = .ref p ∧ x.2 p = none ∧ G' p = some (.lst (qs.map V.int)) ∧ R x.1 qs)
section
variable {α : Type} {args : α → List D} {pre : α → Prop} {R : α → List Int → Prop}
theorem len_sN {vs : List V} {H : Hp} {QV : VK} {E' : XK} {n : Nat} (h : spSN K args pre R vs H QV E') (hn : ∀ x, (args x).length + 2 = n) : vs.length = n := by
  obtain ⟨⟨x, G0⟩, st, sc, ns, rest, G, rfl, _, _, _, _, ⟨_, s, p⟩, q⟩ := h
  rw [List.length_cons, List.length_cons, s.len, hn]
theorem env_draw {N : List Str} {st sc : Addr} {ns : List Int} {rest : List V} {ds : List D} {H G : Hp} (s : RpA K G rest ds) (hsc : SqL K G sc (ns.map V.int)) : EnvOk K (VS st H G) (.st :: .sc :: (ds.map E.d ++ List.replicate (N.length - ds.length - 2) E.any)) (L2.start N (.ref st :: .ref sc :: rest)) [] G := by
  have o := start_env (K := K) (N := N.drop 2) (U := V0 H G) (Ex.refl G) s
  have hl : L2.start N (.ref st :: .ref sc :: rest) = some (.ref st) :: some (.ref sc) :: (rest.map some ++ List.replicate (N.length - (rest.length + 2)) none) := rfl
  have e1 : L2.start (N.drop 2) rest = rest.map some ++ List.replicate (N.length - (rest.length + 2)) none := by
    unfold L2.start; rw [List.length_drop]; congr 2; omega
  have e2 : ds.map E.d ++ List.replicate (N.length - ds.length - 2) E.any = ds.map E.d ++ List.replicate ((N.drop 2).length - ds.length) E.any := by
    rw [List.length_drop]; congr 2; omega
  rw [hl, ← e1, e2]
  refine env_flat (by rw [List.length_cons, List.length_cons, o.len]; rfl) (fun i e h => ?_) (Ex.refl G)
  match i with
  | 0 => cases h; exact ⟨_, rfl, .inr ⟨_, rfl, rfl, st, rfl, VS.draw⟩⟩
  | 1 => cases h; exact ⟨_, rfl, .inr ⟨_, rfl, rfl, sc, ns, rfl, hsc⟩⟩
  | i + 2 =>
    obtain ⟨fp, of⟩ := o.fs
    obtain ⟨u, h1, h2⟩ := of.sl i e h
    refine ⟨u, h1, h2.elim (fun z => .inl z.1) fun ⟨v, h3, h4⟩ => ?_⟩
    have hm : e ∈ ds.map E.d ++ List.replicate ((N.drop 2).length - ds.length) E.any := List.mem_of_getElem? h
    cases e with
    | any => exact .inl rfl
    | d d => exact .inr ⟨v, h3, rfl, h4.slot⟩
    | _ => simp at hm
theorem fn_sN {N : List Str} {ts : TS} {vs : List V} {H : Hp} {QV : VK} {E' : XK} (h : spSN K args pre R vs H QV E') (hb : ∀ x, pre x → DSO K ts (.st :: .sc :: ((args x).map E.d ++ List.replicate (N.length - (args x).length - 2) E.any)) (R x)) : ts { nx := fun _ H' => QV .non H', rt := QV } (L2.start N vs) H := by
  obtain ⟨⟨x, G0⟩, st, sc, ns, rest, G, rfl, hst, gst, e0, hsc, ⟨eg, s, p⟩, q⟩ := h
  dsimp only at eg s p
  subst eg
  refine hb x p (VS st H G0) _ [] G0 ⟨fun _ H' => QV .non H', QV, fun _ _ => False, fun _ _ => False⟩ (env_draw s hsc) (fun a qs L' G' r n n' g e lo H' j => ?_) H (VS.start hst gst e0).hides_nil
  exact kv_s (p := fun v G' => ∃ p qs, v = .ref p ∧ G0 p = none ∧ G' p = some (.lst (qs.map V.int)) ∧ R x qs) (Q := QV) (fun v H' G' a b c dd ee ff g => q v H' G' a b c dd ee ff g) e ⟨a, qs, rfl, n, g, r⟩ H' j.unhides
theorem dn_callSN {i j : Nat} {tr : TA} {E' : XK} {QN : List D → Prop} (h1 : ρ[i]? = some .st) (h2 : ρ[j]? = some .sc) (h : DA K tr ρ fun ds => ∃ x, ds = args x ∧ pre x ∧ ∀ qs, R x qs → QN (qs.map D.int)) : DN K (tCall (spSN K args pre R) [] E' (tCons (tVar i) (tCons (tVar j) tr))) ρ QN := fun U σ L G o => by
  obtain ⟨v, h3, a, rfl, hd⟩ := o.at h1 rfl
  obtain ⟨w, h4, b, ns, rfl, hs⟩ := o.at h2 rfl
  refine em_call (am_cons (em_var h3 (am_cons (em_var h4 ((h U σ L G o).w fun vs G1 ⟨e1, ds, sd, x, ed, p, k⟩ => ?_)))))
  subst ed
  exact cm_sa (x, G1) (hd.hides o.lo) (ex_l e1 hs) ⟨rfl, sd, p⟩ fun v G3 e3 ⟨pp, qs, ev, np, gp, r⟩ => ⟨pp, _, _, G1, ev, e1, np, e3, gp, rpa_mkI qs, k qs r⟩
end
end
end Wp

set_option Elab.async false
set_option linter.all false
set_option maxRecDepth 100000
set_option maxHeartbeats 4000000
/-! sum(d.values()). -/
namespace Wp
section
open PySem L2 Evl StX PySem.Spec PyProof.Rows
set_option autoImplicit false
variable {K : PySem.W.Frag}
theorem sum_src {prog : Program} {w : World} {A : Around} {E : Value → Shared → Prop} {s : Shared} {T : String} {r d : Addr} {n : Nat} {P : Nat → Value → Prop} {OK : Heap → Prop} {Q : Value → Shared → Prop} (Ks : PySem.W.KdlSrc prog w T r d n P OK) (hh : A.handled = none) (hok : OK s.heap) (val : Nat → Int) (hval : ∀ (i : Nat) (v : Value), P i v → ∃ t : Tok, v = Value.int (val i) t)
    (h : ∀ (h' : Heap) (tk : Nat) (t' : Tok), (∀ b o, s.heap.get? b = some o → h'.get? b = some o) → Q (.int (preSum val n) t') { s with heap := h', toks := tk }) :
    wpAny (model prog w) A (call (.builtin "sum") [.ref r]) Q E s := by
  refine call_sum_walkAnyS ?_
  obtain ⟨oI, St, hit, W, st⟩ := Ks.iter A.in1 s hh hok
  refine hit _ _ ⟨s.heap.objs.size, _, _, _, n, P, _, val, rfl, W.toS, st, fun b hb => ?_, hval, fun s' t' hm => ?_⟩
  · show b < (s.heap.push oI).objs.size
    rw [Heap.size_push]
    rcases List.mem_cons.mp hb with e | hb
    · rw [e]; exact Nat.lt_succ_self _
    · rw [List.mem_singleton.mp hb]; exact Nat.lt_succ_of_lt (Ks.there _ hok).2
  · have hk : ∀ b o, s.heap.get? b = some o → s'.heap.get? b = some o := fun b o e =>
      hm.heap b o (fun hI => absurd (Heap.lt_size e) (by rw [List.mem_singleton.mp hI]; exact Nat.lt_irrefl _)) (Heap.get?_push_of_some _ e)
    rw [Moved.eq_with hm]
    exact h s'.heap s'.toks t' hk
theorem preSum_ints (f : Nat → Int) : ∀ (ns : List Int), (∀ i n, ns[i]? = some n → f i = n) → preSum f ns.length = ns.sum := by
  intro ns
  induction ns generalizing f with
  | nil => intro _; rfl
  | cons n ns ih =>
    intro h
    rw [List.length_cons, PySem.W.kdu_shift, ih (fun i => f (i + 1)) fun i m hm => h (i + 1) m (by simpa using hm), h 0 n rfl, List.sum_cons]
def tSumV (te : TE) : TE := fun σ H Q => te σ H fun x H1 => ∃ (d : Addr) (kvs : List (Key × V)) (ns : List Int), x = .ref d ∧ Rd H1 d (.dK kvs) ∧ kvs.map (·.2) = ns.map V.int ∧ Q (.int ns.sum) H1
theorem pe_sumV {X : Cx} {te : TE} {e : Expr} {p apos cpos pos : Pos} (he : PE X e te) (hg : Gl X "sum") (hm : X.mg "sum" = none) (hc : X.calm = true := by rfl) (hv : bootBuiltins "sum" = some (.builtin "sum") := by decide +kernel) (hbase : attributeBase e "values" X.env (eval e X.env) = eval e X.env := by rfl) (hline : (apos.endLine == cpos.line) = true := by rfl)
    (hs : starEach [.Call (.Attribute e "values" apos) [] [] cpos] X.env = (false, eval (.Call (.Attribute e "values" apos) [] [] cpos) X.env) :: starEach [] X.env := by rfl) :
    PE X (.Call (.Name "sum" p) [.Call (.Attribute e "values" apos) [] [] cpos] [] pos) (tSumV te) := by
  refine ⟨fun pins s σ H Q I hq => wpAny_Call_Name_kw (ld_blt I hg hm hv (PyProof.Rows.callWith_builtin1 ?_ hs rfl))⟩
  rw [hs]
  refine Calls.spliced_cons (wpAny_Call_method (T := "dict") (id := "dict.values") hbase rfl hline F.plainAttrs_dict F.slot_dict_values F.type_dict_values (thn (he.run pins s σ H _ I hq) fun u s1 ⟨x, H1, I1, rx, d, kvs, ns, ex, hd, hns, q⟩ => ?_))
  subst ex
  obtain rfl : u = Value.ref d := rx
  obtain ⟨hz, hsm, ws, kv, hdo⟩ := dk_rd I1.hok hd
  obtain ⟨ep, hat⟩ := hdo.dictAt
  have lk : kvs.length = ws.length := Paired.length kv
  have I2 : L2.Inv X pins σ H1 { s1 with heap := s1.heap.push { cls := .type "dict_values", data := .fields #[.ref d] } } := I1.kept (t' := s1.toks) fun b ob z => Heap.get?_push_of_some _ z
  refine ⟨hdo.typeIs, hdo.mapOf.noDict, method_meetsIn F.slot_dict_values F.entry_dict_values rfl (PySem.evalArgs_none ⟨rfl, hdo.typeIs, F.args_dict_values_1 _, _, meets_dict_values (mixKind X.prog X.w) d hsm, ⟨ws, hdo⟩, Calls.spliced_nil ?_⟩)⟩
  have hat' : ∀ (i : Nat) (v : Value) (k : Key), ws[i]? = some (k, v) → ∃ t, v = Value.int (ns.getD i 0) t := fun i v k hi => by
    obtain ⟨x, hx, rx⟩ := kv.at' hi
    have h2 : (kvs.map (·.2))[i]? = some x := by rw [List.getElem?_map, hx]; rfl
    rw [hns, List.getElem?_map] at h2
    obtain ⟨n, hn, rfl⟩ := Option.map_eq_some_iff.mp h2
    obtain ⟨t, ht⟩ := (show RelV (.int n) v from rx)
    exact ⟨t, by rw [ht, List.getD_eq_getElem?_getD, hn]; rfl⟩
  have ln : ns.length = ws.length := by
    have := congrArg List.length hns
    rw [List.length_map, List.length_map] at this
    omega
  refine sum_src (PySem.W.kdl_values (knd := mixKind X.prog X.w) (kvs := ws) (ep := ep)) (I1.ok.hd hc) ⟨⟨_, Heap.get?_push_size _ rfl, rfl, rfl⟩, hat.push _⟩ (fun i => ns.getD i 0) (fun i v ⟨k, hk⟩ => hat' i v k hk) fun h' tk t' hk => ?_
  have e : preSum (fun i => ns.getD i 0) ws.length = ns.sum := by
    rw [← ln]
    exact preSum_ints _ ns fun i n h => by rw [List.getD_eq_getElem?_getD, h]; rfl
  rw [e]
  exact ⟨.int _, H1, I2.kept (t' := tk) hk, ⟨_, rfl⟩, q⟩
theorem de_sumV {te : TE} {ρ : List E} {Q : E → Prop} (h : DE K te ρ fun x => ∃ m : List (Int × Int), (x = .d (.dc (mI m)) ∨ x = .dm (mI m)) ∧ Q (.d (.int (m.map (·.2)).sum))) : DE K (tSumV te) ρ Q := fun U σ L G o H j QH q =>
  h U σ L G o H j _ fun v H1 G1 j1 ⟨e1, x, sx, m, hx, k⟩ => by
    obtain ⟨a, kvs, rfl, r, kr, nd⟩ := slot_dc hx sx j1
    refine ⟨a, kvs, m.map (·.2), rfl, r, ?_, q _ _ _ j1 ⟨e1, .d (.int _), Rp.int _, k⟩⟩
    rw [kvr_iV kr, List.map_map, List.map_map]
    rfl
end
end Wp

set_option Elab.async false
set_option linter.all false
set_option maxRecDepth 100000
set_option maxHeartbeats 4000000
/-! Own things at an address that is known: handed to a def that changes them. -/
namespace Wp
section
open PySem L2 Evl StX
set_option autoImplicit false
variable {K : PySem.W.Frag} {ρ : List E} {te tv tk ty tx : TE} {ta tas : TA} {tt : TT} {g : TG} {ts t1 t2 : TS} {N B C : List E → Prop} {Rr : D → Prop} {Q : E → Prop}
/-- a statement that is never reached -/
def tDead : TS := fun _ _ _ => False
theorem ps_dead {X : Cx} {st : Stmt} : PS X st tDead := ⟨fun _ _ _ _ _ _ h => h.elim⟩
theorem ks_fld {X : Cx} {o value : Expr} {f : Str} {pos pos' : Pos} {ta tv : TE} (ha : PE X o ta) (hv : PE X value tv) (hs : swapsWith value (some (.Attribute o f pos')) pos.line X.env = pure false) (h : X.K = K := by rfl) : PS X (.Assign [.Attribute o f pos'] value pos) (sFld K ta tv f) := by subst h; exact ps_fld ha hv hs
theorem ks_fldaug {X : Cx} {o value : Expr} {f : Str} {pos tpos : Pos} {ta tv : TE} {op : Operator} {rd : V → V → Hp → VK → Prop} (ha : PE X o ta) (hv : PE X value tv) (hop : InOp X op rd) (h : X.K = K := by rfl) : PS X (.AugAssign (.Attribute o f tpos) op value pos) (sFldAug K ta tv rd f) := by subst h; exact ps_fldaug ha hv hop
abbrev OD.dm (m : List (Key × D)) : OD := .dct (m.map (·.1)) (m.map (·.2))
section
variable {U : Vx} {σ : L2.St} {L : Ow} {G H : Hp}
theorem EnvOk.oa (o : EnvOk K U ρ σ L G) {i : Nat} {a : Addr} {w : OD} (hi : ρ[i]? = some (.oa a w)) : ∃ u, σ[i]? = some (some (.ref a)) ∧ (a, HI.ex u) ∈ L ∧ ODr K G w u := by
  obtain ⟨v, h1, rfl, u, m, r⟩ := o.at hi rfl
  exact ⟨u, h1, m, r⟩
end
/-! ### fields -/
theorem de_fldO {i : Nat} {f : Str} (h : ∃ a C ks ds d, ρ[i]? = some (.oa a (.ins C ks ds)) ∧ Cls K C ∧ NoAttr K C f ∧ (ks.zip ds).lookup f = some d ∧ Q (.d d)) : DE K (tFld K (tVar i) f) ρ Q := fun U σ L G o H j QH q => by
  obtain ⟨a, C, ks, ds, d, hi, c, n, l, k⟩ := h
  obtain ⟨u, h1, m, r⟩ := o.oa hi
  cases r with
  | ins e b =>
    subst e
    obtain ⟨w, h2, h3⟩ := lk_of b l
    exact ⟨_, h1, a, C, _, _, w, rfl, j.at m, c, n, h2, q _ _ _ j ⟨Ex.refl G, .d d, h3, k⟩⟩
def putD (f : Str) (d : D) : List (Str × D) → List (Str × D)
  | [] => [(f, d)]
  | (g, x) :: r => if g = f then (g, d) :: r else (g, x) :: putD f d r
theorem putF_len (f : Str) (v : V) : ∀ fs : List (Str × V), (putF f v fs).length ≤ fs.length + 1
  | [] => Nat.le_refl _
  | (g, x) :: r => by
    unfold putF
    split
    · simp
    · have := putF_len f v r; simp; exact this
theorem put_of {F : Hp} {f : Str} {v : V} {d : D} (hv : Rp K F v d) : ∀ {fvs : List (Str × V)} {ds : List D}, RpA K F (fvs.map (·.2)) ds →
    (putF f v fvs).map (·.1) = (putD f d ((fvs.map (·.1)).zip ds)).map (·.1) ∧ RpA K F ((putF f v fvs).map (·.2)) ((putD f d ((fvs.map (·.1)).zip ds)).map (·.2))
  | [], ds, h => by cases h; exact ⟨rfl, .cons hv .nil⟩
  | (g, x) :: r, ds, h => by
    cases h with
    | @cons _ _ d0 ds a b =>
      show (putF f v ((g, x) :: r)).map (·.1) = (putD f d ((g, d0) :: ((r.map (·.1)).zip ds))).map (·.1) ∧ RpA K F ((putF f v ((g, x) :: r)).map (·.2)) ((putD f d ((g, d0) :: ((r.map (·.1)).zip ds))).map (·.2))
      have hz : (r.map (·.1)).length = ds.length := by rw [List.length_map]; have := b.len; rwa [List.length_map] at this
      unfold putF putD
      by_cases z : g = f
      · rw [if_pos z, if_pos z]
        refine ⟨?_, ?_⟩
        · show g :: r.map (·.1) = g :: ((r.map (·.1)).zip ds).map (·.1)
          rw [List.map_fst_zip (by omega)]
        · show RpA K F (v :: r.map (·.2)) (d :: ((r.map (·.1)).zip ds).map (·.2))
          rw [List.map_snd_zip (by omega)]
          exact .cons hv b
      · rw [if_neg z, if_neg z]
        obtain ⟨h1, h2⟩ := put_of (f := f) hv b
        exact ⟨congrArg (g :: ·) h1, .cons a h2⟩
/-- what an object is behind the setting of a field -/
def InsTo (C : Addr) (ks : List Str) (ds : List D) (f : Str) (d : D) (P : OD → Prop) : Prop := ∃ ks' ds', (putD f d (ks.zip ds)).map (·.1) = ks' ∧ (putD f d (ks.zip ds)).map (·.2) = ds' ∧ P (.ins C ks' ds')
theorem putD_new {f : Str} {d : D} : ∀ {ks : List Str} {ds : List D}, f ∉ ks → ks.length = ds.length → putD f d (ks.zip ds) = (ks ++ [f]).zip (ds ++ [d])
  | [], [], _, _ => rfl
  | k :: ks, e :: ds, h, hl => by
    have h1 : k ≠ f := fun z => h (by rw [z]; exact List.mem_cons_self)
    show putD f d ((k, e) :: ks.zip ds) = (k, e) :: (ks ++ [f]).zip (ds ++ [d])
    rw [putD, if_neg h1, putD_new (fun z => h (List.mem_cons_of_mem _ z)) (by simpa using hl)]
theorem putD_at {f : Str} {d : D} : ∀ {ks : List Str} {ds : List D} (i : Nat), ks[i]? = some f → f ∉ ks.take i → ks.length = ds.length → putD f d (ks.zip ds) = ks.zip (ds.set i d)
  | [], _, i, h, _, _ => by simp at h
  | k :: ks, [], i, _, _, hl => by simp at hl
  | k :: ks, e :: ds, 0, h, _, _ => by
    simp at h; subst h
    show putD k d ((k, e) :: ks.zip ds) = (k, d) :: ks.zip ds
    rw [putD, if_pos rfl]
  | k :: ks, e :: ds, i + 1, h, hn, hl => by
    have h1 : k ≠ f := fun z => hn (by rw [z]; exact List.mem_cons_self)
    show putD f d ((k, e) :: ks.zip ds) = (k, e) :: ks.zip (ds.set i d)
    rw [putD, if_neg h1, putD_at i (by simpa using h) (fun z => hn (List.mem_cons_of_mem _ z)) (by simpa using hl)]
theorem insTo_new {C : Addr} {ks ks' : List Str} {ds ds' : List D} {f : Str} {d : D} {P : OD → Prop} (hn : f ∉ ks) (hl : ks.length = ds.length) (e1 : ks ++ [f] = ks') (e2 : ds ++ [d] = ds') (k : P (.ins C ks' ds')) : InsTo C ks ds f d P := by
  subst e1 e2
  refine ⟨_, _, ?_, ?_, k⟩ <;> rw [putD_new hn hl]
  · rw [List.map_fst_zip (by simp [hl])]
  · rw [List.map_snd_zip (by simp [hl])]
theorem insTo_at {C : Addr} {ks : List Str} {ds ds' : List D} {f : Str} {d : D} {P : OD → Prop} (i : Nat) (hi : ks[i]? = some f) (hn : f ∉ ks.take i) (hl : ks.length = ds.length) (e2 : ds.set i d = ds') (k : P (.ins C ks ds')) : InsTo C ks ds f d P := by
  subst e2
  refine ⟨_, _, ?_, ?_, k⟩ <;> rw [putD_at i hi hn hl]
  · rw [List.map_fst_zip (by simp [hl])]
  · rw [List.map_snd_zip (by simp [hl])]
theorem ds_fldO {i : Nat} {f : Str} (h : DE K tv ρ fun y => DD y fun d => ∃ a C ks ds, ρ[i]? = some (.oa a (.ins C ks ds)) ∧ Cls K C ∧ NoAttr K C f ∧ ks.length < 999 ∧ InsTo C ks ds f d fun w => SetTo ρ i (.oa a w) N) : DS K (sFld K (tVar i) tv f) ρ N B C Rr := fun U σ L G Dn o n b c r H j => by
  refine h U σ L G o H j _ fun y H1 G1 j1 ⟨e1, x, sx, d, ed, a, C, ks, ds, hi, cl, na, hl, ks', ds', hk, hd, ρ', hr, kn⟩ => ?_
  subst ed hr hk hd
  have o1 := o.mono e1
  obtain ⟨u, h1, m, r⟩ := o1.oa hi
  obtain ⟨n1, n2, _⟩ := o1.lo.nm _ m
  cases r with
  | @ins _ dx fvs _ _ e bb =>
    subst e
    obtain ⟨p1, p2⟩ := put_of (f := f) (d := d) (v := y) sx bb
    exact ⟨_, h1, a, C, dx, fvs, rfl, j1.at m, cl, na, by rw [List.length_map] at hl; omega, n _ _ _ _ kn (o1.chg hi rfl oa1 h1 m (.oa (mem_setO_self m) (.ins p1 p2))) e1 _ (j1.chg m rfl n1 n2)⟩
theorem ds_fldaugO {i : Nat} {f : Str} (h : ∃ a C ks ds n, ρ[i]? = some (.oa a (.ins C ks ds)) ∧ Cls K C ∧ NoAttr K C f ∧ (ks.zip ds).lookup f = some (.int n) ∧ ks.length < 999 ∧ DE K tv ρ fun y => IE y fun m => InsTo C ks ds f (.int (n + m)) fun w => SetTo ρ i (.oa a w) N) : DS K (sFldAug K (tVar i) tv rAdd f) ρ N B C Rr := fun U σ L G Dn o n b c r H j => by
  obtain ⟨a, C, ks, ds, nn, hi, cl, na, hlk, hl, h⟩ := h
  obtain ⟨u0, h1, m0, r0⟩ := o.oa hi
  cases r0 with
  | @ins _ dx fvs _ _ e bb =>
    subst e
    obtain ⟨w, h2, h3⟩ := lk_of bb hlk
    cases h3
    refine ⟨_, h1, a, C, dx, fvs, _, rfl, j.at m0, cl, na, h2, h U σ L G o H j _ fun y H1 G1 j1 ⟨e1, x, sx, mm, em, ks', ds', hk, hd, ρ', hr, kn⟩ => ?_⟩
    subst em hr hk hd
    cases (sx : Rp K G1 y (.int mm))
    have o1 := o.mono e1
    obtain ⟨n1, n2, _⟩ := o1.lo.nm _ m0
    obtain ⟨p1, p2⟩ := put_of (K := K) (F := G1) (f := f) (d := .int (nn + mm)) (v := .int (nn + mm)) (.int _) (bb.mono e1)
    exact ⟨nn, mm, rfl, rfl, dx, fvs, j1.at m0, by rw [List.length_map] at hl; omega, n _ _ _ _ kn (o1.chg hi rfl oa1 h1 m0 (.oa (mem_setO_self m0) (.ins p1 p2))) e1 _ (j1.chg m0 rfl n1 n2)⟩
/-! ### its own dict -/
theorem ds_dputA {i : Nat} (h : DE K tx ρ fun z => DD z fun dz => ∃ a m, ρ[i]? = some (.oa a (.dm m)) ∧ DE K ty ρ fun y => KyE y fun k => m.length < 16000000 ∧ SetTo ρ i (.oa a (.dm (putP m k dz))) N) : DS K (sDPut (tVar i) ty tx) ρ N B C Rr := fun U σ L G Dn o n b c r H j => by
  refine h U σ L G o H j _ fun w H1 G1 j1 ⟨e1, x, sx, d, ed, a, m, hi, k2⟩ => ?_
  obtain ⟨u, h3, hm, hr0⟩ := (o.mono e1).oa hi
  obtain ⟨n1, n2, _⟩ := o.lo.nm _ hm
  cases hr0 with
  | @dct kvs _ _ hk hn k =>
    refine ⟨_, h3, k2 U σ L G1 (o.mono e1) H1 j1 _ fun y H2 G2 j2 ⟨e2, z, sz, key, em, hz, ρ', hr, kn⟩ => ?_⟩
    subst ed em hr
    have kr : KvR K G2 kvs m := ⟨hk, k.mono e2⟩
    have kr' := kr.put (k := key) (SlotV.mono sx e2 : Rp K G2 w d)
    refine ⟨a, _, rfl, .inl ⟨kvs, key, j2.at hm, kD_of sz, by rw [kr.len]; exact Nat.lt_of_lt_of_le hz (by decide), rfl⟩, ?_⟩
    exact n _ _ _ _ kn ((o.mono (e1.trans e2)).chg hi rfl oa1 h3 hm (.oa (mem_setO_self hm) (.dct kr'.1 (putP_nodup (by rw [← hk] at hn ⊢; exact hn)) kr'.2))) (e1.trans e2) _ (j2.chg hm rfl n1 n2)
/-! ### names of addresses come and go -/
theorem EnvOk.nameL {U : Vx} {σ : L2.St} {L : Ow} {G : Hp} (o : EnvOk K U ρ σ L G) {i : Nat} {ds : List D} (hi : ρ[i]? = some (.own ds)) : ∃ a, EnvOk K U (ρ.set i (.oa a (.lst ds))) σ L G := by
  obtain ⟨v, F, h1, h2, h3, h4⟩ := o.upd hi rfl
  cases h2 with
  | @own a vs _ m r => exact ⟨a, h4 L G _ [a] (Ex.refl G) (fun _ _ h => h) (fun _ _ _ h => h) o.lo (.oa m (.lst r)) (by simp) (fun _ h => .inl h)⟩
theorem EnvOk.nameD {U : Vx} {σ : L2.St} {L : Ow} {G : Hp} (o : EnvOk K U ρ σ L G) {i : Nat} {ks : List Key} {ds : List D} (hi : ρ[i]? = some (.dic ks ds)) : ∃ a, EnvOk K U (ρ.set i (.oa a (.dct ks ds))) σ L G := by
  obtain ⟨v, F, h1, h2, h3, h4⟩ := o.upd hi rfl
  cases h2 with
  | @dic a kvs _ _ m k n r => exact ⟨a, h4 L G _ [a] (Ex.refl G) (fun _ _ h => h) (fun _ _ _ h => h) o.lo (.oa m (.dct k n r)) (by simp) (fun _ h => .inl h)⟩
theorem EnvOk.unL {U : Vx} {σ : L2.St} {L : Ow} {G : Hp} (o : EnvOk K U ρ σ L G) {i : Nat} {a : Addr} {ds : List D} (hi : ρ[i]? = some (.oa a (.lst ds))) : EnvOk K U (ρ.set i (.own ds)) σ L G := by
  obtain ⟨v, F, h1, h2, h3, h4⟩ := o.upd hi rfl
  cases h2 with
  | oa m r =>
    cases r with
    | lst r => exact h4 L G _ [a] (Ex.refl G) (fun _ _ h => h) (fun _ _ _ h => h) o.lo (.own m r) (by simp) (fun _ h => .inl h)
theorem EnvOk.unD {U : Vx} {σ : L2.St} {L : Ow} {G : Hp} (o : EnvOk K U ρ σ L G) {i : Nat} {a : Addr} {ks : List Key} {ds : List D} (hi : ρ[i]? = some (.oa a (.dct ks ds))) : EnvOk K U (ρ.set i (.dic ks ds)) σ L G := by
  obtain ⟨v, F, h1, h2, h3, h4⟩ := o.upd hi rfl
  cases h2 with
  | oa m r =>
    cases r with
    | dct k n r => exact h4 L G _ [a] (Ex.refl G) (fun _ _ h => h) (fun _ _ _ h => h) o.lo (.dic m k n r) (by simp) (fun _ h => .inl h)
theorem ds_nameL (i : Nat) {ds : List D} (hi : ρ[i]? = some (.own ds)) (h : ∀ a ρ', ρ.set i (.oa a (.lst ds)) = ρ' → DS K ts ρ' N B C Rr) : DS K ts ρ N B C Rr := fun U σ L G Dn o n b c r H j =>
  let ⟨a, o'⟩ := o.nameL hi; h a _ rfl U σ L G Dn o' n b c r H j
theorem ds_nameD (i : Nat) {ks : List Key} {ds : List D} (hi : ρ[i]? = some (.dic ks ds)) (h : ∀ a ρ', ρ.set i (.oa a (.dct ks ds)) = ρ' → DS K ts ρ' N B C Rr) : DS K ts ρ N B C Rr := fun U σ L G Dn o n b c r H j =>
  let ⟨a, o'⟩ := o.nameD hi; h a _ rfl U σ L G Dn o' n b c r H j
theorem ds_unL (i : Nat) {a : Addr} {ds : List D} {ρ' : List E} (hi : ρ[i]? = some (.oa a (.lst ds))) (hr : ρ.set i (.own ds) = ρ') (h : DS K ts ρ' N B C Rr) : DS K ts ρ N B C Rr := fun U σ L G Dn o n b c r H j => by
  subst hr; exact h U σ L G Dn (o.unL hi) n b c r H j
theorem ds_unD (i : Nat) {a : Addr} {ks : List Key} {ds : List D} {ρ' : List E} (hi : ρ[i]? = some (.oa a (.dct ks ds))) (hr : ρ.set i (.dic ks ds) = ρ') (h : DS K ts ρ' N B C Rr) : DS K ts ρ N B C Rr := fun U σ L G Dn o n b c r H j => by
  subst hr; exact h U σ L G Dn (o.unD hi) n b c r H j
/-- the def's own object is a datum from here on -/
theorem ds_freezeO (i : Nat) {a : Addr} {Cc : Addr} {ks : List Str} {ds : List D} {ρ' : List E} (hi : ρ[i]? = some (.oa a (.ins Cc ks ds))) (hr : ρ.set i (.d (.obj Cc ks ds)) = ρ') (h : DS K ts ρ' N B C Rr) : DS K ts ρ N B C Rr := fun U σ L G Dn o n b c r H j => by
  obtain ⟨u, h3, hm, rr⟩ := o.oa hi
  cases rr with
  | @ins _ dx fvs _ _ e k =>
    have na : G a = none := (j.msk a (.inr ⟨_, hm⟩)).1
    have ex : Ex G (upd G a (.ins Cc dx fvs)) := Ex.new na
    obtain ⟨n1, n2, _⟩ := o.lo.nm _ hm
    subst hr
    exact h U σ _ _ Dn (o.shown hi rfl oa1 h3 hm na fun x => .obj upd_same e (k.mono x)) (n.mono ex) (b.mono ex) (c.mono ex) (r.mono ex) H (j.show hm n1 n2)
/-! ### arguments of any kind -/
inductive SlotA (K : PySem.W.Frag) (U : Vx) (L : Ow) (G : Hp) : List E → List V → Prop
  | nil : SlotA K U L G [] []
  | cons {e : E} {v : V} {es : List E} {vs : List V} : SlotV K U L G e v → SlotA K U L G es vs → SlotA K U L G (e :: es) (v :: vs)
theorem SlotA.mono {U : Vx} {L : Ow} {G G' : Hp} {es : List E} {vs : List V} (h : SlotA K U L G es vs) (x : Ex G G') : SlotA K U L G' es vs := by
  induction h with
  | nil => exact .nil
  | cons a _ ih => exact .cons (a.mono x) ih
def DAE (K : PySem.W.Frag) (ta : TA) (ρ : List E) (Q : List E → Prop) : Prop := ∀ U σ L G, EnvOk K U ρ σ L G → AM (U.hides L) ta σ G fun vs G' => Ex G G' ∧ ∃ es, SlotA K U L G' es vs ∧ Q es
theorem dae_nil {QA : List E → Prop} (k : QA []) : DAE K tNil ρ QA := fun U σ L G o => am_nil ⟨Ex.refl G, [], .nil, k⟩
theorem dae_cons {QA : List E → Prop} (h : DE K te ρ fun e => DAE K ta ρ fun es => QA (e :: es)) : DAE K (tCons te ta) ρ QA := fun U σ L G o =>
  am_cons ((h U σ L G o).w fun v G1 ⟨e1, x, sx, hx⟩ => (hx U σ L G1 (o.mono e1)).w fun vs G2 ⟨e2, es, ss, q⟩ => ⟨e1.trans e2, x :: es, .cons (sx.mono e2) ss, q⟩)
theorem slotA_of {U : Vx} {L : Ow} {G : Hp} : ∀ {ds : List D} {vs : List V}, RpA K G vs ds → SlotA K U L G (ds.map E.d) vs
  | [], vs, h => by cases h; exact .nil
  | d :: ds, vs, h => by cases h with | cons a b => exact .cons a (slotA_of b)
theorem slotA_split {U : Vx} {L : Ow} {G : Hp} {e : E} : ∀ {d1 d2 : List D} {vs : List V}, SlotA K U L G (d1.map E.d ++ e :: d2.map E.d) vs → ∃ v1 v v2, vs = v1 ++ v :: v2 ∧ RpA K G v1 d1 ∧ SlotV K U L G e v ∧ RpA K G v2 d2
  | [], d2, vs, h => by
    cases h with
    | @cons _ v _ vs a b =>
      have z : ∀ {d2 : List D} {vs : List V}, SlotA K U L G (d2.map E.d) vs → RpA K G vs d2 := by
        intro d2
        induction d2 with
        | nil => intro vs h; cases h; exact .nil
        | cons d d2 ih => intro vs h; cases h with | cons a b => exact .cons a (ih b)
      exact ⟨[], v, vs, rfl, .nil, a, z b⟩
  | d :: d1, d2, vs, h => by
    cases h with
    | @cons _ v _ vs a b =>
      obtain ⟨v1, u, v2, rfl, h1, h2, h3⟩ := slotA_split b
      exact ⟨v :: v1, u, v2, rfl, .cons a h1, h2, h3⟩
/-! ### the promise of a def that is handed an own thing -/
def spO {α : Type} (K : PySem.W.Frag) (w : α → OD) (as1 as2 : α → List D) (pre : α → Prop) (R : α → D → OD → Prop) : Sp := fun vs H Q _ => ∃ (x : α) (a : Addr) (u : HO) (v1 v2 : List V) (G : Hp), vs = v1 ++ .ref a :: v2 ∧ H a = some u ∧ ODr K G (w x) u ∧ G a = none ∧ Ex G H ∧ RpA K G v1 (as1 x) ∧ RpA K G v2 (as2 x) ∧ pre x ∧
  ∀ v d w' u' H' G', (∀ b o, b ≠ a → H b = some o → H' b = some o) → H' a = some u' → ODr K G' w' u' → Ex G G' → Ex G' H' → (∀ b, G' b ≠ none → G b = none → H b = none) → G' a = none → Rp K G' v d → R x d w' → Q v H'
section
variable {α : Type} {w : α → OD} {as1 as2 : α → List D} {pre : α → Prop} {R : α → D → OD → Prop}
theorem spO_run {U : Vx} {σ : L2.St} {L : Ow} {G H : Hp} (o : EnvOk K U ρ σ L G) (j : J (U.hides L) H G) {i : Nat} {a : Addr} (x : α) (hi : ρ[i]? = some (.oa a (w x))) {v1 v2 : List V} (s1 : RpA K G v1 (as1 x)) (s2 : RpA K G v2 (as2 x)) (p : pre x) {QH : VK} {E' : XK}
    (k : ∀ v d w' L' H' G', R x d w' → EnvOk K U (ρ.set i (.oa a w')) σ L' G' → Ex G G' → Rp K G' v d → J (U.hides L') H' G' → QH v H') : spO K w as1 as2 pre R (v1 ++ .ref a :: v2) H QH E' := by
  obtain ⟨u, h1, m, r⟩ := o.oa hi
  refine ⟨x, a, u, v1, v2, G, rfl, j.at m, r, (j.msk a (.inr ⟨_, m⟩)).1, j.up, s1, s2, p, fun v d w' u' H' G' hk ha hr e1 e2 hn ga rv hR => ?_⟩
  obtain ⟨n1, n2, n3⟩ := o.lo.nm _ m
  have j1 := j.chg (o := u') (I := .ex u') m rfl n1 n2
  have j2 := j1.call (H' := H') (G' := G') (fun b o' eb => by
    by_cases z : b = a
    · subst z; rw [upd_same] at eb; rw [ha]; exact eb
    · rw [upd_ne z] at eb; exact hk b o' z eb) e2 (fun b hb hg => by
    have : b ≠ a := fun z => by subst z; exact hb ga
    rw [upd_ne this]; exact hn b hb hg)
  exact k v d w' _ H' G' hR ((o.mono e1).chg hi rfl oa1 h1 m (.oa (mem_setO_self m) hr)) e1 rv j2
/-- what is asked of a call that is handed the thing at slot i -/
def Hand (ρ : List E) (w : α → OD) (as1 as2 : α → List D) (pre : α → Prop) (R : α → D → OD → Prop) (es : List E) (P : D → List E → Prop) : Prop := ∃ x i a, ρ[i]? = some (.oa a (w x)) ∧ es = (as1 x).map E.d ++ .oa a (w x) :: (as2 x).map E.d ∧ pre x ∧ ∀ d w', R x d w' → P d (ρ.set i (.oa a w'))
theorem hand (x : α) (i : Nat) {a : Addr} {es : List E} {P : D → List E → Prop} (hi : ρ[i]? = some (.oa a (w x))) (he : es = (as1 x).map E.d ++ .oa a (w x) :: (as2 x).map E.d) (p : pre x) (k : ∀ d w', R x d w' → ∃ ρ', ρ.set i (.oa a w') = ρ' ∧ P d ρ') : Hand ρ w as1 as2 pre R es P := ⟨x, i, a, hi, he, p, fun d w' hR => let ⟨ρ', e, h⟩ := k d w' hR; e ▸ h⟩
theorem ds_asgCO {E' : XK} (h : DAE K tas ρ fun es => Hand ρ w as1 as2 pre R es fun d ρ' => DG K g (.d d) ρ' N) : DS K (tAsg (tCall (spO K w as1 as2 pre R) [] E' tas) g) ρ N B C Rr := fun U σ L G Dn o n b c r H j => by
  refine h U σ L G o H j _ fun vs H1 G1 j1 ⟨e1, es, ss, x, i, a, hi, ee, p, k⟩ => ?_
  subst ee
  obtain ⟨v1, v, v2, rfl, s1, sv, s2⟩ := slotA_split ss
  obtain ⟨rfl, _⟩ := (show v = .ref a ∧ _ from sv)
  show spO K w as1 as2 pre R ((v1 ++ .ref a :: v2) ++ []) H1 _ _
  rw [List.append_nil]
  exact spO_run (o.mono e1) j1 x hi s1 s2 p fun v d w' L' H' G' hR o' e' rv j' => k d w' hR U σ L' G' v o' rv H' j' _ fun σ2 H2 G2 j2 ⟨e2, ρ2, o2, k2⟩ => n ρ2 σ2 L' G2 k2 o2 ((e1.trans e').trans e2) H2 j2
theorem ds_asgMO {Cc : Addr} {m : Str} {E' : XK} {i : Nat} (h : ∃ a ks ds, ρ[i]? = some (.oa a (.ins Cc ks ds)) ∧ m ∉ ks ∧ DA K tas ρ fun as => Hand ρ w as1 as2 pre R (.oa a (.ins Cc ks ds) :: as.map E.d) fun d ρ' => DG K g (.d d) ρ' N) : DS K (tAsg (tMeth Cc m (spO K w as1 as2 pre R) [] E' (tVar i) tas) g) ρ N B C Rr := fun U σ L G Dn o n b c r H j => by
  obtain ⟨a, ks, ds, hi0, hm, h⟩ := h
  obtain ⟨u, h1, mm, rr⟩ := o.oa hi0
  have sl : SlotV K U L G (.oa a (.ins Cc ks ds)) (.ref a) := ⟨rfl, u, mm, rr⟩
  cases rr with
  | @ins _ dx fvs _ _ ek bb =>
    subst ek
    refine ⟨_, h1, a, dx, fvs, rfl, j.at mm, lk_none hm, h U σ L G o H j _ fun vs H1 G1 j1 ⟨e1, as, sa, x, i, a', hi, ee, p, k⟩ => ?_⟩
    have ss : SlotA K U L G1 (.oa a (.ins Cc _ ds) :: as.map E.d) (.ref a :: vs) := .cons (sl.mono e1) (slotA_of sa)
    rw [ee] at ss
    obtain ⟨v1, v, v2, ev, s1, sv, s2⟩ := slotA_split ss
    obtain ⟨rfl, _⟩ := (show v = .ref a' ∧ _ from sv)
    show spO K w as1 as2 pre R (.ref a :: (vs ++ [])) H1 _ _
    rw [List.append_nil, ev]
    exact spO_run (o.mono e1) j1 x hi s1 s2 p fun v d w' L' H' G' hR o' e' rv j' => k d w' hR U σ L' G' v o' rv H' j' _ fun σ2 H2 G2 j2 ⟨e2, ρ2, o2, k2⟩ => n ρ2 σ2 L' G2 k2 o2 ((e1.trans e').trans e2) H2 j2
end
/-! ### bodies whose end tells the slots -/
def KRX (K : PySem.W.Frag) (U : Vx) (rt : VK) (G : Hp) (R : D → List E → Prop) : Prop := ∀ d v ρ' σ' L' G', R d ρ' → Rp K G' v d → EnvOk K U ρ' σ' L' G' → Ex G G' → KV (U.hides L') rt v G'
theorem KRX.mono {U : Vx} {rt : VK} {G G' : Hp} {R : D → List E → Prop} (h : KRX K U rt G R) (e : Ex G G') : KRX K U rt G' R := fun d v ρ' σ' L' G2 r s o e2 => h d v ρ' σ' L' G2 r s o (e.trans e2)
def DSX (K : PySem.W.Frag) (ts : TS) (ρ : List E) (N : List E → Prop) (R : D → List E → Prop) : Prop := ∀ U σ L G (Dn : Ends), EnvOk K U ρ σ L G → KN K U Dn.nx G N → KRX K U Dn.rt G R → SM (U.hides L) ts Dn σ G
section
variable {R : D → List E → Prop}
theorem dsx_seq (h : DSX K t1 ρ (fun ρ' => DSX K t2 ρ' N R) R) : DSX K (tSeq t1 t2) ρ N R := fun U σ L G Dn o n r =>
  sm_seq (h U σ L G ⟨t2 Dn, Dn.rt, Dn.bk, Dn.ct⟩ o (fun ρ' σ' L' G' k o' e => fun H j => k U σ' L' G' Dn o' (n.mono e) (r.mono e) H j) r)
theorem dsx_next (k : N ρ) : DSX K tNext ρ N R := fun U σ L G Dn o n r => sm_next (n ρ σ L G k o (Ex.refl G))
theorem dsx_if (h : DT K tt ρ fun c => if c = true then DSX K t1 ρ N R else DSX K t2 ρ N R) : DSX K (tIfS tt t1 t2) ρ N R := fun U σ L G Dn o n r =>
  sm_if ((h U σ L G o).w fun x G1 ⟨e1, hb⟩ => by
    cases x with
    | true => rw [if_pos rfl] at hb ⊢; exact hb U σ L G1 Dn (o.mono e1) (n.mono e1) (r.mono e1)
    | false => rw [if_neg Bool.false_ne_true] at hb ⊢; exact hb U σ L G1 Dn (o.mono e1) (n.mono e1) (r.mono e1))
theorem dsx_ret (h : DE K te ρ fun e => DD e fun d => R d ρ) : DSX K (tRet te) ρ N R := fun U σ L G Dn o n r =>
  sm_ret ((h U σ L G o).w fun v G1 ⟨e1, x, sx, d, ed, hd⟩ => by subst ed; exact r d v ρ σ L G1 hd sx (o.mono e1) e1)
theorem dsx_retN (h : R .non ρ) : DSX K tRetN ρ N R := fun U σ L G Dn o n r => sm_retN (r .non .non ρ σ L G h .non o (Ex.refl G))
theorem dsx_thru (h : DSX K ts ρ N R) : DSX K (tCut ts) ρ N R := fun U σ L G Dn o n r H j => ⟨Dn.nx, fun _ _ z => z, h U σ L G Dn o n r H j⟩
theorem dsx_cut (P : List E → Prop) (h : DSX K ts ρ (Wk P) R) (k : ∀ ρ', P ρ' → N ρ') : DSX K (tCut ts) ρ N R := fun U σ L G Dn o n r H j =>
  ⟨fun σ' H' => ∃ ρ' L' G', P ρ' ∧ EnvOk K U ρ' σ' L' G' ∧ Ex G G' ∧ J (U.hides L') H' G', fun σ' H' ⟨ρ', L', G', p, o', e', j'⟩ => n ρ' σ' L' G' (k ρ' p) o' e' H' j',
    h U σ L G ⟨fun σ' H' => ∃ ρ' L' G', P ρ' ∧ EnvOk K U ρ' σ' L' G' ∧ Ex G G' ∧ J (U.hides L') H' G', Dn.rt, Dn.bk, Dn.ct⟩ o (fun ρ' σ' L' G' ⟨ρ2, le, p⟩ o' e H' j' => ⟨ρ2, L', G', p, o'.le le, e, j'⟩) r H j⟩
/-- a statement that returns nothing -/
theorem dsx_asg (h : DS K (tAsg te g) ρ N (fun _ => True) (fun _ => True) (fun _ => False)) : DSX K (tAsg te g) ρ N R := fun U σ L G Dn o n r H j =>
  h U σ L G ⟨Dn.nx, fun _ _ => True, fun _ _ => True, fun _ _ => True⟩ o n (fun _ _ _ _ _ _ _ _ _ => trivial) (fun _ _ _ _ _ _ _ _ _ => trivial) (fun _ _ _ _ z => z.elim) H j
theorem dsx_fld {ta : TE} {f : Str} (h : DS K (sFld K ta tv f) ρ N (fun _ => True) (fun _ => True) (fun _ => False)) : DSX K (sFld K ta tv f) ρ N R := fun U σ L G Dn o n r H j =>
  h U σ L G ⟨Dn.nx, fun _ _ => True, fun _ _ => True, fun _ _ => True⟩ o n (fun _ _ _ _ _ _ _ _ _ => trivial) (fun _ _ _ _ _ _ _ _ _ => trivial) (fun _ _ _ _ z => z.elim) H j
theorem dsx_fldaug {ta : TE} {f : Str} {rd : V → V → Hp → VK → Prop} (h : DS K (sFldAug K ta tv rd f) ρ N (fun _ => True) (fun _ => True) (fun _ => False)) : DSX K (sFldAug K ta tv rd f) ρ N R := fun U σ L G Dn o n r H j =>
  h U σ L G ⟨Dn.nx, fun _ _ => True, fun _ _ => True, fun _ _ => True⟩ o n (fun _ _ _ _ _ _ _ _ _ => trivial) (fun _ _ _ _ _ _ _ _ _ => trivial) (fun _ _ _ _ z => z.elim) H j
theorem dsx_dput {td : TE} (h : DS K (sDPut td ty tx) ρ N (fun _ => True) (fun _ => True) (fun _ => False)) : DSX K (sDPut td ty tx) ρ N R := fun U σ L G Dn o n r H j =>
  h U σ L G ⟨Dn.nx, fun _ _ => True, fun _ _ => True, fun _ _ => True⟩ o n (fun _ _ _ _ _ _ _ _ _ => trivial) (fun _ _ _ _ _ _ _ _ _ => trivial) (fun _ _ _ _ z => z.elim) H j
theorem dsx_drop (h : DS K (tDrop te) ρ N (fun _ => True) (fun _ => True) (fun _ => False)) : DSX K (tDrop te) ρ N R := fun U σ L G Dn o n r H j =>
  h U σ L G ⟨Dn.nx, fun _ _ => True, fun _ _ => True, fun _ _ => True⟩ o n (fun _ _ _ _ _ _ _ _ _ => trivial) (fun _ _ _ _ _ _ _ _ _ => trivial) (fun _ _ _ _ z => z.elim) H j
section
variable {α : Type} {w : α → OD} {as1 as2 : α → List D} {pre : α → Prop} {R' : α → D → OD → Prop}
theorem dsx_retCO {E' : XK} (h : DAE K tas ρ fun es => Hand ρ w as1 as2 pre R' es fun d ρ' => R d ρ') : DSX K (tRet (tCall (spO K w as1 as2 pre R') [] E' tas)) ρ N R := fun U σ L G Dn o n r H j => by
  refine h U σ L G o H j _ fun vs H1 G1 j1 ⟨e1, es, ss, x, i, a, hi, ee, p, k⟩ => ?_
  subst ee
  obtain ⟨v1, v, v2, rfl, s1, sv, s2⟩ := slotA_split ss
  obtain ⟨rfl, _⟩ := (show v = .ref a ∧ _ from sv)
  show spO K w as1 as2 pre R' ((v1 ++ .ref a :: v2) ++ []) H1 _ _
  rw [List.append_nil]
  exact spO_run (o.mono e1) j1 x hi s1 s2 p fun v d w' L' H' G' hR o' e' rv j' => r d v _ σ L' G' (k d w' hR) rv o' (e1.trans e') H' j'
theorem dsx_retMO {Cc : Addr} {m : Str} {E' : XK} {i : Nat} (h : ∃ a ks ds, ρ[i]? = some (.oa a (.ins Cc ks ds)) ∧ m ∉ ks ∧ DA K tas ρ fun as => Hand ρ w as1 as2 pre R' (.oa a (.ins Cc ks ds) :: as.map E.d) fun d ρ' => R d ρ') : DSX K (tRet (tMeth Cc m (spO K w as1 as2 pre R') [] E' (tVar i) tas)) ρ N R := fun U σ L G Dn o n r H j => by
  obtain ⟨a, ks, ds, hi0, hm, h⟩ := h
  obtain ⟨u, h1, mm, rr⟩ := o.oa hi0
  have sl : SlotV K U L G (.oa a (.ins Cc ks ds)) (.ref a) := ⟨rfl, u, mm, rr⟩
  cases rr with
  | @ins _ dx fvs _ _ ek bb =>
    subst ek
    refine ⟨_, h1, a, dx, fvs, rfl, j.at mm, lk_none hm, h U σ L G o H j _ fun vs H1 G1 j1 ⟨e1, as, sa, x, i, a', hi, ee, p, k⟩ => ?_⟩
    have ss : SlotA K U L G1 (.oa a (.ins Cc _ ds) :: as.map E.d) (.ref a :: vs) := .cons (sl.mono e1) (slotA_of sa)
    rw [ee] at ss
    obtain ⟨v1, v, v2, ev, s1, sv, s2⟩ := slotA_split ss
    obtain ⟨rfl, _⟩ := (show v = .ref a' ∧ _ from sv)
    show spO K w as1 as2 pre R' (.ref a :: (vs ++ [])) H1 _ _
    rw [List.append_nil, ev]
    exact spO_run (o.mono e1) j1 x hi s1 s2 p fun v d w' L' H' G' hR o' e' rv j' => r d v _ σ L' G' (k d w' hR) rv o' (e1.trans e') H' j'
end
end
/-! ### the frame of such a def -/
section
variable {α : Type} {w : α → OD} {as1 as2 : α → List D} {pre : α → Prop} {R : α → D → OD → Prop}
theorem len_oa {vs : List V} {H : Hp} {QV : VK} {E' : XK} {n : Nat} (h : spO K w as1 as2 pre R vs H QV E') (hn : ∀ x, (as1 x).length + (as2 x).length + 1 = n) : vs.length = n := by
  obtain ⟨x, a, u, v1, v2, G, rfl, _, _, _, _, s1, s2, _⟩ := h
  rw [List.length_append, List.length_cons, s1.len, s2.len, ← hn x]; omega
theorem set_self {α : Type} {xs : List α} {i : Nat} {x : α} (h : xs[i]? = some x) : xs.set i x = xs := by
  refine List.ext_getElem? fun q => ?_
  by_cases z : i = q
  · subst z; rw [List.getElem?_set_self (List.getElem?_eq_some_iff.mp h).1, h]
  · rw [List.getElem?_set_ne z]
theorem fn_o {Nm : List Str} {vs : List V} {H : Hp} {QV : VK} {E' : XK} (h : spO K w as1 as2 pre R vs H QV E')
    (hb : ∀ x a, pre x → DSX K ts ((((as1 x) ++ .adr a :: (as2 x)).map E.d ++ List.replicate (Nm.length - ((as1 x) ++ .adr a :: (as2 x)).length) E.any).set (as1 x).length (.oa a (w x))) (fun ρ' => ∃ w', ρ'[(as1 x).length]? = some (.oa a w') ∧ R x .non w') (fun d ρ' => ∃ w', ρ'[(as1 x).length]? = some (.oa a w') ∧ R x d w')) : ts { nx := fun _ H' => QV .non H', rt := QV } (L2.start Nm vs) H := by
  obtain ⟨x, a, u, v1, v2, G, rfl, ha, hr, ga, e0, s1, s2, p, q⟩ := h
  have lo : LOk (V0 (wo a H) G) [(a, HI.ex u)] := ⟨fun p hp => by
    rw [List.mem_singleton] at hp; subst hp
    exact ⟨fun z => z, wo_same, ga⟩, fun b x y h1 h2 => by
    rw [List.mem_singleton] at h1 h2; cases h1; cases h2; rfl⟩
  have j0 : J ((V0 (wo a H) G).hides [(a, HI.ex u)]) H G := ⟨e0, wo_ex, fun b q g => absurd g q, ⟨trivial, fun p hp => by
    rw [List.mem_singleton] at hp; subst hp; exact ⟨u, ha, rfl⟩⟩, fun b mb => by
    rcases mb with mb | ⟨o, mb⟩
    · exact mb.elim
    · rw [List.mem_singleton] at mb; cases mb; exact ⟨ga, by rw [ha]; exact fun q => by cases q⟩⟩
  have o := (start_env (K := K) (N := Nm) (U := V0 (wo a H) G) (Ex.refl G) (RpA.app (.cons (.adr a) s2) s1)).put (i := (as1 x).length) (L' := [(a, HI.ex u)]) (v := .ref a) (e := .oa a (w x)) (F := [a]) (Ex.refl G) (fun _ h => by simp at h) lo (.oa (by simp) hr) (by simp) (fun _ _ _ h => by simp at h)
  rw [set_self (xs := L2.start Nm (v1 ++ .ref a :: v2)) (by
    unfold L2.start
    rw [List.getElem?_append_left (by simp [s1.len]), List.getElem?_map, List.getElem?_append_right (by rw [s1.len]; exact Nat.le_refl _), s1.len, Nat.sub_self]; rfl)] at o
  have fin : ∀ d v ρ' σ' L' G' w', ρ'[(as1 x).length]? = some (.oa a w') → R x d w' → Rp K G' v d → EnvOk K (V0 (wo a H) G) ρ' σ' L' G' → Ex G G' → ∀ H', J ((V0 (wo a H) G).hides L') H' G' → QV v H' := fun d v ρ' σ' L' G' w' h1 h2 rv o' e H' j' => by
    obtain ⟨u', _, m, r⟩ := o'.oa h1
    have ga' := (j'.msk a (.inr ⟨_, m⟩)).1
    exact q v d w' u' H' G' (fun b o nb eb => j'.keep b o (by show wo a H b = some o; rw [wo_ne nb]; exact eb)) (j'.at m) r e j'.up (fun b hb hg => by
      have nb : b ≠ a := fun z => by subst z; exact hb ga'
      have hh : wo a H b = none := j'.new b hb hg
      rw [wo_ne nb] at hh; exact hh) ga' rv h2
  exact hb x a p (V0 (wo a H) G) _ _ G ⟨fun _ H' => QV .non H', QV, fun _ _ => False, fun _ _ => False⟩ o
    (fun ρ' σ' L' G' ⟨w', h1, h2⟩ o' e H' j' => fin .non .non ρ' σ' L' G' w' h1 h2 .non o' e H' j')
    (fun d v ρ' σ' L' G' ⟨w', h1, h2⟩ rv o' e H' j' => fin d v ρ' σ' L' G' w' h1 h2 rv o' e H' j') H j0
/-! ### instances -/
theorem make_run {U : Vx} {σ : L2.St} {L : Ow} {G H : Hp} (o : EnvOk K U ρ σ L G) (j : J (U.hides L) H G) (x : α) {Cc : Addr} (hw : w x = .ins Cc [] []) (ha1 : as1 x = []) {vs : List V} (s : RpA K G vs (as2 x)) (p : pre x) (hn : ∀ d w', R x d w' → d = .non) {QH : VK} {E' : XK}
    (k : ∀ a w' u' H' G', R x .non w' → G' a = none → U.Ge a = none → U.He a = none → ¬ U.m a → (∀ u, (a, u) ∉ L) → Ex G G' → ODr K G' w' u' → J (U.hides ((a, HI.ex u') :: L)) H' G' → QH (.ref a) H') :
    ∀ a dx, H a = none → H dx = none → dx ≠ a → spO K w as1 as2 pre R (.ref a :: (vs ++ [])) (upd (upd H dx (.own a)) a (.ins Cc dx [])) (fun v H2 => v = .non ∧ QH (.ref a) H2) E' := fun a dx na ndx ne => by
  rw [List.append_nil]
  have n2 : upd H dx (.own a) a = none := by rw [upd_ne (Ne.symm ne)]; exact na
  have j2 := (j.alloc (o := .own a) ndx).alloc (o := .ins Cc dx []) n2
  have ga : G a = none := j.free na
  have gdx : G dx = none := j.free ndx
  have ug : U.Ge a = none := none_of_ex o.ge ga
  have hm : ¬ U.m a := fun z => (j.msk a (.inl z)).2 na
  have hl : ∀ u, (a, u) ∉ L := fun u hu => (j.msk a (.inr ⟨_, hu⟩)).2 na
  have uh : U.He a = none := none_of_ex j.keep na
  have j3 := j2.own (p := a) (I := .ex (.ins Cc dx [])) upd_same rfl ug
  refine ⟨x, a, .ins Cc dx [], [], vs, G, rfl, upd_same, by rw [hw]; exact .ins rfl .nil, ga, fun b u e => ?_, by rw [ha1]; exact .nil, s, p, fun v d w' u' H' G' hk ha hr e1 e2 hnw ga' rv hR => ?_⟩
  · rw [upd_ne (ne_of_none e ga), upd_ne (ne_of_none e gdx)]; exact j.up b u e
  have hd := hn d w' hR
  subst hd
  cases rv
  refine ⟨rfl, ?_⟩
  have j4 := j3.chgHead (o := u') (I := .ex u') rfl (fun q hq z => hl q.2 (by rw [← z]; exact hq)) hm uh
  have j5 := j4.call (H' := H') (G' := G') (fun b o' eb => by
    by_cases z : b = a
    · subst z; rw [upd_same] at eb; rw [ha]; exact eb
    · rw [upd_ne z] at eb; exact hk b o' z eb) e2 (fun b hb hg => by
    have nb : b ≠ a := fun z => by subst z; exact hb ga'
    rw [upd_ne nb]
    rw [wo_ne nb] at hg
    refine hnw b hb ?_
    cases z : G b with
    | none => rfl
    | some u =>
      rw [upd_ne nb] at hg
      have nd : b ≠ dx := fun y => by subst y; rw [gdx] at z; cases z
      rw [upd_ne nd, z] at hg; cases hg)
  exact k a w' u' H' G' hR ga' ug uh hm hl e1 hr j5
/-- a datum -/
theorem de_makeO {Cc : Addr} {E' : XK} (hw : ∀ x, w x = .ins Cc [] []) (ha1 : ∀ x, as1 x = []) (h : DA K tas ρ fun as => ∃ x, as = as2 x ∧ pre x ∧ (∀ d w', R x d w' → d = .non) ∧ ∀ w', R x .non w' → ∃ ks ds, w' = .ins Cc ks ds ∧ Q (.d (.obj Cc ks ds))) : DE K (tMake Cc (spO K w as1 as2 pre R) [] E' tas) ρ Q := fun U σ L G o H j QH q => by
  refine h U σ L G o H j _ fun vs H1 G1 j1 ⟨e1, as, sa, x, ea, p, hn, k⟩ => ?_
  subst ea
  refine make_run (o.mono e1) j1 x (hw x) (ha1 x) sa p hn fun a w' u' H' G' hR ga ug uh hm hl e' hr j' => ?_
  obtain ⟨ks, ds, rfl, kq⟩ := k w' hR
  cases hr with
  | @ins _ dx fvs _ _ ek bb =>
    exact q _ _ _ (j'.showHead hm uh (fun q hq z => hl q.2 (by rw [← z]; exact hq))) ⟨(e1.trans e').trans (Ex.new ga), .d (.obj Cc ks ds), .obj upd_same ek (bb.mono (Ex.new ga)), kq⟩
/-- the def's own -/
theorem ds_makeO {Cc : Addr} {E' : XK} {i : Nat} (hw : ∀ x, w x = .ins Cc [] []) (ha1 : ∀ x, as1 x = []) (h : DA K tas ρ fun as => ∃ x, as = as2 x ∧ pre x ∧ (∀ d w', R x d w' → d = .non) ∧ ∀ a w', R x .non w' → SetTo ρ i (.oa a w') N) : DS K (tAsg (tMake Cc (spO K w as1 as2 pre R) [] E' tas) (gName i)) ρ N B C Rr := fun U σ L G Dn o n b c r H j => by
  refine h U σ L G o H j _ fun vs H1 G1 j1 ⟨e1, as, sa, x, ea, p, hn, k⟩ => ?_
  subst ea
  refine make_run (QH := fun v H2 => gName i v σ H2 Dn.nx) (o.mono e1) j1 x (hw x) (ha1 x) sa p hn fun a w' u' H' G' hR ga ug uh hm hl e' hr j' => ?_
  obtain ⟨ρ', er, kn⟩ := k a w' hR
  subst er
  exact n _ _ _ _ kn (((o.mono e1).mono e').put (Ex.refl _) (fun q hq => List.mem_cons_of_mem _ hq) (o.lo.cons hl hm uh ug) (.oa List.mem_cons_self hr) (by simp) (fun b hb u hu => by simp at hb; subst hb; exact hl u hu)) (e1.trans e') H' j'
end
end
end Wp

set_option Elab.async false
set_option linter.all false
set_option maxRecDepth 100000
set_option maxHeartbeats 4000000
namespace Wp
open PySem L2 Evl StX
set_option autoImplicit false
/-! ### cells: hidden places that a value leads to -/
theorem cell_hid {U : Vx} {L : Ow} {c : Addr} {I : HO → Prop} (lo : LOk U L) (h : CellOk U c I ∨ (c, HI.ce I) ∈ L) : HidOk (U.hides L) c I := by
  rcases h with ck | hm
  · refine ⟨.inl ck.m, ck.ne, fun H hI => ck.at_ H hI.1, fun H H' hI hk ho => ⟨ck.to H H' hI.1 (fun x mx nx => hk x (.inl mx) nx) ho, fun p hp => ?_⟩⟩
    obtain ⟨o, h1, h2⟩ := hI.2 p hp
    have : p.1 ≠ c := fun z => (lo.nm p hp).1 (z ▸ ck.m)
    exact ⟨o, by rw [hk _ (.inr ⟨_, hp⟩) this]; exact h1, h2⟩
  · refine ⟨.inr ⟨_, hm⟩, (lo.nm _ hm).2.1, fun H hI => hI.2 _ hm, fun H H' hI hk ho => ⟨U.st H H' hI.1 fun a ma => hk a (.inl ma) fun z => (lo.nm _ hm).1 (z ▸ ma), fun p hp => ?_⟩⟩
    by_cases z : p.1 = c
    · obtain ⟨p1, p2⟩ := p
      subst z
      have e := lo.fn _ _ _ hp hm
      subst e
      exact ho
    · obtain ⟨o, h1, h2⟩ := hI.2 p hp
      exact ⟨o, by rw [hk _ (.inr ⟨_, hp⟩) z]; exact h1, h2⟩
def CellsAt (H : Hp) (cs : Ce) : Prop := ∀ c ∈ cs, ∃ o, H c.1 = some o ∧ c.2 o
def CFn (cs : Ce) : Prop := ∀ c d, c ∈ cs → d ∈ cs → c.1 = d.1 → c.2 = d.2
theorem cfn1 (c : Addr × (HO → Prop)) : CFn [c] := fun a b ha hb _ => by rw [List.mem_singleton.mp ha, List.mem_singleton.mp hb]
theorem cfn0 : CFn [] := fun a b ha => by cases ha
def InEnv (ρ : List E) (c : Addr × (HO → Prop)) : Prop := ∃ (i : Nat) (d : D) (cs : Ce), ρ[i]? = some (E.cd d cs) ∧ c ∈ cs
theorem InEnv.ok {K : PySem.W.Frag} {U : Vx} {ρ : List E} {σ : L2.St} {L : Ow} {G : Hp} {c : Addr × (HO → Prop)} (o : EnvOk K U ρ σ L G) (h : InEnv ρ c) : CellOk U c.1 c.2 ∨ (c.1, HI.ce c.2) ∈ L := by
  obtain ⟨i, d, cs, hi, hc⟩ := h
  obtain ⟨v, h3, h4, h5⟩ := o.at hi rfl
  exact h5 c hc
def spC {α : Type} (K : PySem.W.Frag) (args : α → List D) (cells : α → Ce) (pre : α → Prop) (R : α → D → Ce → Prop) : Sp := fun vs H Q _ => ∃ (x : α) (G : Hp), CellsAt H (cells x) ∧ (∀ c ∈ cells x, G c.1 = none) ∧ CFn (cells x) ∧ Ex G H ∧ RpA K G vs (args x) ∧ pre x ∧
  ∀ v H' G' d ns, (∀ y u, (∀ c ∈ cells x, y ≠ c.1) → H y = some u → H' y = some u) → CellsAt H' (cells x) → CellsAt H' ns → (∀ c ∈ ns, H c.1 = none ∧ G' c.1 = none) → CFn ns → Ex G G' → Ex G' H' → (∀ a, G' a ≠ none → G a = none → H a = none) → (∀ c ∈ cells x, G' c.1 = none) → R x d ns → Rp K G' v d → Q v H'
open Classical in
noncomputable def wos (cs : Ce) (H : Hp) : Hp := fun a => if ∃ c ∈ cs, a = c.1 then none else H a
theorem wos_in {cs : Ce} {H : Hp} {c : Addr × (HO → Prop)} (h : c ∈ cs) : wos cs H c.1 = none := by unfold wos; rw [if_pos ⟨c, h, rfl⟩]
theorem wos_ne {cs : Ce} {H : Hp} {a : Addr} (h : ∀ c ∈ cs, a ≠ c.1) : wos cs H a = H a := by unfold wos; rw [if_neg fun ⟨c, hc, e⟩ => h c hc e]
theorem wos_some {cs : Ce} {H : Hp} {a : Addr} {u : HO} (h : wos cs H a = some u) : (∀ c ∈ cs, a ≠ c.1) ∧ H a = some u := by
  have n : ∀ c ∈ cs, a ≠ c.1 := fun c hc e => by rw [e, wos_in hc] at h; cases h
  exact ⟨n, by rw [wos_ne n] at h; exact h⟩
noncomputable def VC (cs : Ce) (H G : Hp) : Vx := ⟨wos cs H, G, fun H' => CellsAt H' cs, fun a => ∃ c ∈ cs, a = c.1, fun H1 H2 h k c hc => by obtain ⟨o, h1, h2⟩ := h c hc; exact ⟨o, by rw [k _ ⟨c, hc, rfl⟩]; exact h1, h2⟩⟩
theorem VC.cell {cs : Ce} {H G : Hp} (fn : CFn cs) {c : Addr × (HO → Prop)} (hc : c ∈ cs) : CellOk (VC cs H G) c.1 c.2 :=
  ⟨⟨c, hc, rfl⟩, wos_in hc, fun H' h => h c hc, fun H1 H2 h k ho d hd => by
    by_cases z : d.1 = c.1
    · rw [z, fn d c hd hc z]; exact ho
    · obtain ⟨o, h1, h2⟩ := h d hd
      exact ⟨o, by rw [k _ ⟨d, hd, rfl⟩ z]; exact h1, h2⟩⟩
theorem VC.start {cs : Ce} {H G : Hp} (h : CellsAt H cs) (g : ∀ c ∈ cs, G c.1 = none) (e : Ex G H) : J (VC cs H G) H G := ⟨e, fun a u q => (wos_some q).2, fun x q z => absurd z q, h, fun a ⟨c, hc, ea⟩ => by
  subst ea
  obtain ⟨o, h1, _⟩ := h c hc
  exact ⟨g c hc, by rw [h1]; exact fun q => by cases q⟩⟩
theorem cells_to {U : Vx} {H' : Hp} : ∀ (cs : Ce) (H : Hp), (∀ c ∈ cs, HidOk U c.1 c.2) → U.I H → (∀ x, U.m x → (∀ c ∈ cs, x ≠ c.1) → H' x = H x) → CellsAt H' cs → U.I H'
  | [], H, _, i, k, _ => U.st H H' i fun a ma => k a ma (fun c hc => by cases hc)
  | c :: cs, H, d, i, k, h => by
    classical
    obtain ⟨H1, e1⟩ : ∃ H1 : Hp, H1 = fun a => if a = c.1 then H' a else H a := ⟨_, rfl⟩
    have i1 : U.I H1 := (d c List.mem_cons_self).to H H1 i (fun x _ nx => by rw [e1]; exact if_neg nx) (by
      obtain ⟨o, h1, h2⟩ := h c List.mem_cons_self
      exact ⟨o, by rw [e1]; show (if c.1 = c.1 then H' c.1 else H c.1) = _; rw [if_pos rfl]; exact h1, h2⟩)
    refine cells_to cs H1 (fun c' hc' => d c' (List.mem_cons_of_mem _ hc')) i1 (fun x mx nx => ?_) (fun c' hc' => h c' (List.mem_cons_of_mem _ hc'))
    rw [e1]
    show H' x = if x = c.1 then H' x else H x
    by_cases z : x = c.1
    · rw [if_pos z]
    · rw [if_neg z]
      exact k x mx fun c' hc' => by
        rcases List.mem_cons.mp hc' with e | hc'
        · rw [e]; exact z
        · exact nx c' hc'
theorem J.cells_call {U : Vx} {H G H' G' : Hp} {cs : Ce} (d : ∀ c ∈ cs, HidOk U c.1 c.2) (j : J U H G) (hx : ∀ y u, (∀ c ∈ cs, y ≠ c.1) → H y = some u → H' y = some u) (hc : CellsAt H' cs) (e2 : Ex G' H') (hn : ∀ x, G' x ≠ none → G x = none → H x = none) : J U H' G' where
  up := e2
  keep := fun x o ex => hx x o (fun c hc' z => by rw [z, (d c hc').ne] at ex; cases ex) (j.keep x o ex)
  new := fun x z g => by
    cases w : G x with
    | none => exact none_of_ex j.keep (hn x z w)
    | some o => exact j.new x (by rw [w]; exact fun q => by cases q) g
  hid := cells_to cs H d j.hid (fun x mx nx => by
    cases z : H x with
    | none => exact absurd z (j.msk x mx).2
    | some o => exact hx x o nx z) hc
  msk := fun x mx => by
    obtain ⟨g, h⟩ := j.msk x mx
    refine ⟨by
      cases z : G' x with
      | none => rfl
      | some o => exact absurd (hn x (by rw [z]; exact fun q => by cases q) g) h, fun z => ?_⟩
    by_cases m : ∃ c ∈ cs, x = c.1
    · obtain ⟨c, hcm, e⟩ := m
      obtain ⟨o, h1, _⟩ := hc c hcm
      rw [e, h1] at z; cases z
    · cases w : H x with
      | none => exact h w
      | some o => rw [hx x o (fun c hcm e => m ⟨c, hcm, e⟩) w] at z; cases z
def cdHead (cs : Ce) : List D → List E
  | [] => []
  | d :: ds => .cd d cs :: ds.map E.d
section
variable {K : PySem.W.Frag} {α : Type} {args : α → List D} {cells : α → Ce} {pre : α → Prop} {R : α → D → Ce → Prop} {ds : List D}
theorem cm_c {U : Vx} {vs : List V} {G : Hp} {Q : VK} (x : α) (d : ∀ c ∈ cells x, HidOk U c.1 c.2) (fn : CFn (cells x)) (h : RpA K G vs (args x)) (p : pre x) (k : ∀ v G' dd ns, Ex G G' → R x dd ns → Rp K G' v dd → Q v G') : CM U (spC K args cells pre R) vs G Q := fun H j QH q E =>
  ⟨x, G, fun c hc => (d c hc).at_ H j.hid, fun c hc => (j.msk _ (d c hc).m).1, fn, j.up, h, p, fun v H' G' dd ns hx hc _ _ _ e1 e2 hn _ r rp => q v H' G' (J.cells_call d j hx hc e2 hn) (k v G' dd ns e1 r rp)⟩
theorem de_callC {ρ : List E} {Q : E → Prop} {tas : TA} {sp : Sp} {E' : XK} (hsp : sp = spC K args cells pre R) (h : DA K tas ρ fun ds => ∃ x, ds = args x ∧ pre x ∧ (∀ c ∈ cells x, InEnv ρ c) ∧ CFn (cells x) ∧ ∀ d ns, R x d ns → Q (.d d)) : DE K (tCall sp [] E' tas) ρ Q := fun U σ L G o => by
  subst hsp
  refine em_call ((h U σ L G o).w fun vs G1 ⟨e1, ds, sd, x, ed, p, hc, fn, k⟩ => ?_)
  subst ed
  exact cm_c x (fun c hcm => cell_hid o.lo ((hc c hcm).ok o)) fn sd p fun v G' dd ns e r rp => ⟨e1.trans e, .d dd, rp, k dd ns r⟩
theorem start_envC {N : List Str} {vs : List V} {G : Hp} {U : Vx} {cs : Ce} (ge : Ex U.Ge G) (s : RpA K G vs ds) (hc : ∀ c ∈ cs, CellOk U c.1 c.2) : EnvOk K U (cdHead cs ds ++ List.replicate (N.length - ds.length) E.any) (L2.start N vs) [] G := by
  have hl : (cdHead cs ds).length = ds.length := by cases ds <;> simp [cdHead]
  refine env_flat (by unfold L2.start; rw [List.length_append, List.length_append, hl, List.length_map, List.length_replicate, List.length_replicate, s.len]) (fun i e h => ?_) ge
  unfold L2.start
  by_cases z : i < ds.length
  · rw [List.getElem?_append_left (by rw [hl]; exact z)] at h
    obtain ⟨d, hd⟩ : ∃ d, ds[i]? = some d := ⟨_, List.getElem?_eq_getElem z⟩
    obtain ⟨v, h1, h2⟩ := s.get hd
    refine ⟨some v, by rw [List.getElem?_append_left (by rw [List.length_map, s.len]; exact z), List.getElem?_map, h1]; rfl, .inr ⟨v, rfl, ?_⟩⟩
    cases ds with
    | nil => simp at z
    | cons d0 ds =>
      cases i with
      | zero =>
        simp [cdHead] at h hd
        subst h hd
        exact ⟨rfl, h2, fun c hcm => .inl (hc c hcm)⟩
      | succ i =>
        simp [cdHead] at h hd
        rw [hd] at h
        simp at h
        subst h
        exact ⟨rfl, h2⟩
  · rw [List.getElem?_append_right (by rw [hl]; omega), hl, List.getElem?_replicate] at h
    split at h
    · rename_i hh
      cases h
      exact ⟨none, by rw [List.getElem?_append_right (by rw [List.length_map, s.len]; omega), List.length_map, s.len, List.getElem?_replicate, if_pos hh], .inl rfl⟩
    · cases h
theorem fn_c {N : List Str} {ts : TS} {vs : List V} {H : Hp} {QV : VK} {E' : XK} (h : spC K args cells pre R vs H QV E') (hb : ∀ x, pre x ∧ CFn (cells x) → DS K ts (cdHead (cells x) (args x) ++ List.replicate (N.length - (args x).length) E.any) (fun _ => R x .non []) (fun _ => False) (fun _ => False) (fun d => R x d [])) : ts { nx := fun _ H' => QV .non H', rt := QV } (L2.start N vs) H := by
  obtain ⟨x, G, hca, hcg, fn, e0, s, p, q⟩ := h
  have fin : ∀ {v : V} {L' : Ow} {H' G' : Hp} {d : D}, J ((VC (cells x) H G).hides L') H' G' → Ex G G' → R x d [] → Rp K G' v d → QV v H' := fun {v L' H' G' d} j e r s' =>
    q v H' G' d [] (fun y u ny hy => j.keep y u (by show wos (cells x) H y = some u; rw [wos_ne ny]; exact hy)) j.hid.1 (fun c hc => by cases hc) (fun c hc => by cases hc) cfn0 e j.up (fun a g1 g2 => by
      have h1 : wos (cells x) H a = none := j.new a g1 g2
      have h2 : ∀ c ∈ cells x, a ≠ c.1 := fun c hc ea => g1 (j.msk a (.inl ⟨c, hc, ea⟩)).1
      rw [wos_ne h2] at h1; exact h1) (fun c hc => (j.msk _ (.inl ⟨c, hc, rfl⟩)).1) r s'
  exact hb x ⟨p, fn⟩ (VC (cells x) H G) _ [] G ⟨fun _ H' => QV .non H', QV, fun _ _ => False, fun _ _ => False⟩ (start_envC (Ex.refl G) s fun c hc => VC.cell fn hc)
    (fun ρ' σ' L' G' r o e H' j => fin j e r .non) (fun _ _ _ _ z => z.elim) (fun _ _ _ _ z => z.elim)
    (fun d v L' G' r s' e lo H' j => fin j e r s') H (VC.start hca hcg e0).hides_nil
theorem len_c {vs : List V} {H : Hp} {QV : VK} {E' : XK} {n : Nat} (h : spC K args cells pre R vs H QV E') (hn : ∀ x, (args x).length = n) : vs.length = n := by
  obtain ⟨x, G, _, _, _, e0, s, p, q⟩ := h
  rw [s.len, hn]
/-! ### a def that returns new cells -/
def KRc (K : PySem.W.Frag) (U : Vx) (rt : VK) (G : Hp) (Rc : D → Ce → Prop) : Prop := ∀ d ns v L' G', Rc d ns → (∀ c ∈ ns, CellOk U c.1 c.2 ∨ (c.1, HI.ce c.2) ∈ L') → Rp K G' v d → Ex G G' → LOk U L' → KV (U.hides L') rt v G'
def DSR (K : PySem.W.Frag) (ts : TS) (ρ : List E) (Rc : D → Ce → Prop) : Prop := ∀ U σ L G (Dn : Ends), EnvOk K U ρ σ L G → KRc K U Dn.rt G Rc → SM (U.hides L) ts Dn σ G
theorem KRc.mono {U : Vx} {rt : VK} {G G' : Hp} {Rc : D → Ce → Prop} (k : KRc K U rt G Rc) (e : Ex G G') : KRc K U rt G' Rc := fun d ns v L' G2 r hc rp e2 lo => k d ns v L' G2 r hc rp (e.trans e2) lo
theorem dsr_seq {t1 t2 : TS} {ρ : List E} {Rc : D → Ce → Prop} (h : DS K t1 ρ (fun ρ' => DSR K t2 ρ' Rc) (fun _ => False) (fun _ => False) (fun _ => False)) : DSR K (tSeq t1 t2) ρ Rc := fun U σ L G Dn o r =>
  sm_seq (h U σ L G ⟨t2 Dn, Dn.rt, Dn.bk, Dn.ct⟩ o (fun ρ' σ' L' G' k o' e => fun H j => k U σ' L' G' Dn o' (r.mono e) H j) (fun _ _ _ _ z => z.elim) (fun _ _ _ _ z => z.elim) (fun _ _ _ _ z => z.elim))
theorem dsr_ret {te : TE} {ρ : List E} {Rc : D → Ce → Prop} (h : DE K te ρ fun e => DD e fun d => ∃ ns, Rc d ns ∧ ∀ c ∈ ns, InEnv ρ c) : DSR K (tRet te) ρ Rc := fun U σ L G Dn o r =>
  sm_ret ((h U σ L G o).w fun v G1 ⟨e1, x, sx, d, ed, ns, hd, hc⟩ => by subst ed; exact r d ns v L G1 hd (fun c hcm => (hc c hcm).ok o) sx e1 o.lo)
theorem dsr_freeze (i : Nat) {ρ ρ' : List E} {ts : TS} {Rc : D → Ce → Prop} {ds : List D} (hi : ρ[i]? = some (.own ds)) (hr : ρ.set i (.d (.lst ds)) = ρ') (h : DSR K ts ρ' Rc) : DSR K ts ρ Rc := fun U σ L G Dn o r H j => by
  obtain ⟨v, h3, a, vs, rfl, hm, k⟩ := o.at hi rfl
  have na : G a = none := (j.msk a (.inr ⟨_, hm⟩)).1
  have e : Ex G (upd G a (.lst vs)) := Ex.new na
  obtain ⟨n1, n2, _⟩ := o.lo.nm _ hm
  subst hr
  exact h U σ _ _ Dn (o.shown hi rfl own1 h3 hm na fun x => .lst upd_same (k.mono x)) (r.mono e) H (j.show hm n1 n2)
theorem fn_cN {N : List Str} {ts : TS} {vs : List V} {H : Hp} {QV : VK} {E' : XK} (h : spC K args cells pre R vs H QV E') (h0 : ∀ x, cells x = []) (hb : ∀ x, pre x → DSR K ts ((args x).map E.d ++ List.replicate (N.length - (args x).length) E.any) (R x)) : ts { nx := fun _ H' => QV .non H', rt := QV } (L2.start N vs) H := by
  obtain ⟨x, G, _, _, _, e0, s, p, q⟩ := h
  rw [h0] at q
  refine hb x p (V0 H G) _ [] G ⟨fun _ H' => QV .non H', QV, fun _ _ => False, fun _ _ => False⟩ (start_env (Ex.refl G) s)
    (fun d ns v L' G' r hc s' e lo H' j => ?_) H (J.start e0).hides_nil
  have hL : ∀ c ∈ ns, (c.1, HI.ce c.2) ∈ L' := fun c hcm => (hc c hcm).elim (fun ck => absurd ck.m (fun z => z)) id
  refine q v H' G' d ns (fun y u _ hy => j.keep y u hy) (fun c hcm => by cases hcm) (fun c hcm => j.hid.2 _ (hL c hcm)) (fun c hcm => ⟨(lo.nm _ (hL c hcm)).2.1, (j.msk _ (.inr ⟨_, hL c hcm⟩)).1⟩) (fun c d hcm hdm ecd => ?_) e j.unhides.up j.new (fun c hcm => by cases hcm) r s'
  have h1 := hL c hcm
  have h2 := hL d hdm
  rw [ecd] at h1
  have := lo.fn _ _ _ h1 h2
  injection this
/-! ### its call: a name is set -/
theorem J.cells_new {U : Vx} {L : Ow} {H G : Hp} {ns : Ce} (j : J (U.hides L) H G) (hc : CellsAt H ns) (hg : ∀ c ∈ ns, G c.1 = none) : J (U.hides (ns.map (fun c => (c.1, HI.ce c.2)) ++ L)) H G where
  up := j.up
  keep := j.keep
  new := j.new
  hid := ⟨j.hid.1, fun p hp => by
    rcases List.mem_append.mp hp with hp | hp
    · obtain ⟨c, hcm, rfl⟩ := List.mem_map.mp hp
      exact hc c hcm
    · exact j.hid.2 p hp⟩
  msk := fun a ma => by
    rcases ma with ma | ⟨u, hu⟩
    · exact j.msk a (.inl ma)
    · rcases List.mem_append.mp hu with hp | hp
      · obtain ⟨c, hcm, e⟩ := List.mem_map.mp hp
        injection e with e1 e2
        subst e1
        obtain ⟨o, h1, _⟩ := hc c hcm
        exact ⟨hg c hcm, by rw [h1]; exact fun q => by cases q⟩
      · exact j.msk a (.inr ⟨u, hp⟩)
theorem ds_asgC {ρ : List E} {N B C : List E → Prop} {RR : D → Prop} {i : Nat} {tas : TA} {sp : Sp} {E' : XK} (hsp : sp = spC K args cells pre R) (h : DA K tas ρ fun ds => ∃ x, ds = args x ∧ pre x ∧ (∀ c ∈ cells x, InEnv ρ c) ∧ CFn (cells x) ∧ ∀ d ns, CFn ns → R x d ns → SetTo ρ i (.cd d ns) N) : DS K (tAsg (tCall sp [] E' tas) (gName i)) ρ N B C RR := fun U σ L G Dn o n b c r H j => by
  subst hsp
  refine h U σ L G o H j _ fun vs H1 G1 j1 ⟨e1, ds, sd, x, ed, p, hc, fn, k⟩ => ?_
  subst ed
  show spC K args cells pre R (vs ++ []) H1 _ _
  rw [List.append_nil]
  have hd : ∀ c ∈ cells x, HidOk (U.hides L) c.1 c.2 := fun c hcm => cell_hid o.lo ((hc c hcm).ok o)
  refine ⟨x, G1, fun c hcm => (hd c hcm).at_ H1 j1.hid, fun c hcm => (j1.msk _ (hd c hcm).m).1, fn, j1.up, sd, p, fun v H' G' dd ns hx hca hna hnn hnf e2 e3 hn hg rr rp => ?_⟩
  obtain ⟨ρ', hr, kn⟩ := k dd ns hnf rr
  subst hr
  have j2 := J.cells_call hd j1 hx hca e3 hn
  have j3 := j2.cells_new hna fun c hcm => (hnn c hcm).2
  have ee := e1.trans e2
  have nol : ∀ a u, H1 a = none → (a, u) ∉ L := fun a u ha hu => (j1.msk a (.inr ⟨u, hu⟩)).2 ha
  have lo' : LOk U (ns.map (fun c => (c.1, HI.ce c.2)) ++ L) := ⟨fun q hq => by
    rcases List.mem_append.mp hq with hq | hq
    · obtain ⟨c, hcm, rfl⟩ := List.mem_map.mp hq
      have h1 := (hnn c hcm).1
      exact ⟨fun z => (j1.msk _ (.inl z)).2 h1, none_of_ex j1.keep h1, none_of_ex ((o.ge.trans e1).trans j1.up) h1⟩
    · exact o.lo.nm q hq, fun a u w h1 h2 => by
    rcases List.mem_append.mp h1 with h1 | h1 <;> rcases List.mem_append.mp h2 with h2 | h2
    · obtain ⟨c, hcm, e⟩ := List.mem_map.mp h1
      obtain ⟨d, hdm, e'⟩ := List.mem_map.mp h2
      injection e with ea eb
      injection e' with ea' eb'
      rw [← eb, ← eb', hnf c d hcm hdm (ea.trans ea'.symm)]
    · obtain ⟨c, hcm, e⟩ := List.mem_map.mp h1
      injection e with ea eb
      subst ea
      exact absurd h2 (nol _ _ (hnn c hcm).1)
    · obtain ⟨c, hcm, e⟩ := List.mem_map.mp h2
      injection e with ea eb
      subst ea
      exact absurd h1 (nol _ _ (hnn c hcm).1)
    · exact o.lo.fn a u w h1 h2⟩
  exact n _ _ _ _ kn (o.put (F := []) ee (fun q hq => List.mem_append_right _ hq) lo' (.cd rp fun c hcm => .inr (List.mem_append_left _ (List.mem_map.mpr ⟨c, hcm, rfl⟩))) List.nodup_nil (fun a ha => by simp at ha)) ee H' j3
/-- a slot of cells, read as a datum -/
theorem de_cdv {ρ : List E} {Q : E → Prop} {i : Nat} {d : D} {cs : Ce} (hi : ρ[i]? = some (.cd d cs)) (k : Q (.d d)) : DE K (tVar i) ρ Q := fun U σ L G o => by
  obtain ⟨v, h3, h4⟩ := o.at hi rfl
  exact em_var h3 ⟨Ex.refl G, .d d, h4.1, k⟩
/-- a datum's slot takes cells that the def knows -/
theorem ds_cell (i : Nat) (cs : Ce) {ρ ρ' : List E} {ts : TS} {N B C : List E → Prop} {RR : D → Prop} {d : D} (hi : ρ[i]? = some (.d d)) (hr : ρ.set i (.cd d cs) = ρ') (hc : ∀ c ∈ cs, InEnv ρ c) (h : DS K ts ρ' N B C RR) : DS K ts ρ N B C RR := fun U σ L G Dn o => by
  obtain ⟨v, h3, h4⟩ := o.at hi rfl
  subst hr
  have o2 := o.set (i := i) (e := .cd d cs) (v := v) rfl ⟨h4, fun c hcm => (hc c hcm).ok o⟩
  rw [show σ.set i (some v) = σ from by
    have hl := (List.getElem?_eq_some_iff.mp h3).1
    refine List.ext_getElem? fun j => ?_
    by_cases z : i = j
    · subst z; rw [List.getElem?_set_self hl, h3]
    · rw [List.getElem?_set_ne z]] at o2
  exact h U σ L G Dn o2
theorem ds_cell' (i : Nat) (cs : Ce) {ρ ρ' : List E} {ts : TS} {N B C : List E → Prop} {RR : D → Prop} {d : D} {cs0 : Ce} (hi : ρ[i]? = some (.cd d cs0)) (hr : ρ.set i (.cd d cs) = ρ') (hc : ∀ c ∈ cs, InEnv ρ c) (h : DS K ts ρ' N B C RR) : DS K ts ρ N B C RR := fun U σ L G Dn o => by
  obtain ⟨v, h3, h4⟩ := o.at hi rfl
  subst hr
  have o2 := o.set (i := i) (e := .cd d cs) (v := v) rfl ⟨h4.1, fun c hcm => (hc c hcm).ok o⟩
  rw [show σ.set i (some v) = σ from by
    have hl := (List.getElem?_eq_some_iff.mp h3).1
    refine List.ext_getElem? fun j => ?_
    by_cases z : i = j
    · subst z; rw [List.getElem?_set_self hl, h3]
    · rw [List.getElem?_set_ne z]] at o2
  exact h U σ L G Dn o2
/-! ### a list, so many times -/
theorem rpa_rep {G : Hp} {vs : List V} {es : List D} (h : RpA K G vs es) : ∀ n : Nat, RpA K G (List.replicate n vs).flatten (List.replicate n es).flatten
  | 0 => .nil
  | n + 1 => by rw [List.replicate_succ, List.replicate_succ, List.flatten_cons, List.flatten_cons]; exact (rpa_rep h n).app h
theorem dr_rep {Q : E → Prop} {es : List D} {n : Int} (h0 : -2 ^ 63 ≤ n) (h1 : n < 2 ^ 63) (hz : es.length * n.toNat ≤ sizeLine) (k : Q (.d (.lst (List.replicate n.toNat es).flatten))) : DR K rRep (.d (.lst es)) (.d (.int n)) Q := fun U L G v w lo sx sy H j QH q => by
  cases (sx : Rp K G v (.lst es)) with
  | lst a b =>
    cases (sy : Rp K G w (.int n))
    exact ⟨_, _, _, rfl, rfl, j.up _ _ a, h0, h1, by rw [b.len]; exact hz, fun p hp => q _ _ _ (j.alloc hp) ⟨Ex.new (j.free hp), .d (.lst _), .lst upd_same (rpa_rep (b.mono (Ex.new (j.free hp))) _), k⟩⟩
end
end Wp

set_option Elab.async false
set_option linter.all false
set_option maxRecDepth 100000
set_option maxHeartbeats 4000000
namespace Wp
open PySem L2 Evl StX
set_option autoImplicit false
/-! ### sorted, of pairs of ints that are not negative -/
abbrev prT (p : Int × Int) : D := .tup [.int p.1, .int p.2]
abbrev srtB : Int := 2 ^ 200
def rSortB (K : PySem.W.Frag) : List V → Hp → VK → Prop := fun xs H Q => rSortA K xs H Q ∨ rSortU K 2 srtB xs H Q
theorem kr_sortB {X : Cx} {K : PySem.W.Frag} (h : X.K = K := by rfl) (hc : X.calm = true := by rfl) : CallR X (.builtin "sorted") (rSortB K) := by subst h; exact CallR.or (kr_sortA rfl hc) (cr_sortT (by decide))
section
variable {K : PySem.W.Frag} {G : Hp}
theorem rpa_perm : ∀ {ys vs : List V}, ys.Perm vs → ∀ {es : List D}, RpA K G vs es → ∃ fs, fs.Perm es ∧ RpA K G ys fs := by
  intro ys vs h
  induction h with
  | nil => intro es r; exact ⟨es, .refl _, r⟩
  | cons x _ ih =>
    intro es r
    cases r with
    | cons a b =>
      obtain ⟨fs, p, q⟩ := ih b
      exact ⟨_ :: fs, p.cons _, .cons a q⟩
  | swap x y l =>
    intro es r
    cases r with
    | cons a b =>
      cases b with
      | cons b c => exact ⟨_, List.Perm.swap _ _ _, .cons b (.cons a c)⟩
  | trans _ _ ih1 ih2 =>
    intro es r
    obtain ⟨f1, p1, q1⟩ := ih2 r
    obtain ⟨f2, p2, q2⟩ := ih1 q1
    exact ⟨f2, p2.trans p1, q2⟩
theorem perm_of_map {α β : Type} {f : α → β} : ∀ {l m : List β}, l.Perm m → ∀ {ps : List α}, l = ps.map f → ∃ qs : List α, qs.Perm ps ∧ m = qs.map f := by
  intro l m h
  induction h with
  | nil => intro ps e; exact ⟨ps, .refl _, e⟩
  | cons x _ ih =>
    intro ps e
    cases ps with
    | nil => cases e
    | cons p ps =>
      rw [List.map_cons] at e
      injection e with e1 e2
      obtain ⟨qs, h1, h2⟩ := ih e2
      exact ⟨p :: qs, h1.cons _, by rw [List.map_cons, ← h2, e1]⟩
  | swap x y l =>
    intro ps e
    match ps, e with
    | p :: q :: ps, e =>
      rw [List.map_cons, List.map_cons] at e
      injection e with e1 e2
      injection e2 with e2 e3
      exact ⟨q :: p :: ps, List.Perm.swap _ _ _, by rw [List.map_cons, List.map_cons, ← e1, ← e2, ← e3]⟩
    | [p], e => cases e
    | [], e => cases e
  | trans _ _ ih1 ih2 =>
    intro ps e
    obtain ⟨q1, p1, e1⟩ := ih1 e
    obtain ⟨q2, p2, e2⟩ := ih2 e1
    exact ⟨q2, p2.trans p1, e2⟩
theorem tupI_of {H : Hp} {v : V} {p : Int × Int} (e : Ex G H) (h : Rp K G v (prT p)) : TupI K H v [p.1, p.2] := by
  cases h with
  | @tup t vs _ s r =>
    have := rpa_ints (ns := [p.1, p.2]) r
    subst this
    exact ⟨t, rfl, ex_t e s⟩
theorem rpa_pw {H : Hp} (e : Ex G H) : ∀ {ys : List V} {qs : List (Int × Int)}, RpA K G ys (qs.map prT) → ys.Pairwise (fun x y => ∀ n m, TupI K H x n → TupI K H y m → TS.code srtB n ≤ TS.code srtB m) → qs.Pairwise fun p q => TS.code srtB [p.1, p.2] ≤ TS.code srtB [q.1, q.2]
  | ys, [], _, _ => .nil
  | ys, q :: qs, r, h => by
    cases r with
    | @cons v _ vs _ a b =>
      rw [List.pairwise_cons] at h ⊢
      refine ⟨fun q' hq' => ?_, rpa_pw e b h.2⟩
      obtain ⟨i, hi⟩ := List.mem_iff_getElem?.mp hq'
      obtain ⟨w, hw, rw'⟩ := b.get (i := i) (d := prT q') (by rw [List.getElem?_map, hi]; rfl)
      exact h.1 w (List.mem_of_getElem? hw) _ _ (tupI_of e a) (tupI_of e rw')
theorem code_fst {p q : Int × Int} (hp : 0 ≤ p.1 ∧ p.1 < srtB ∧ 0 ≤ p.2 ∧ p.2 < srtB) (hq : 0 ≤ q.1 ∧ q.1 < srtB ∧ 0 ≤ q.2 ∧ q.2 < srtB) (h : TS.code srtB [p.1, p.2] ≤ TS.code srtB [q.1, q.2]) : p.1 ≤ q.1 := by
  rcases Int.lt_or_le q.1 p.1 with z | z
  · have := TS.code_lt (B := srtB) (d := q.1) (e := p.1) (r := [q.2]) (q := [p.2]) rfl (fun m hm => by rw [List.mem_singleton.mp hm]; exact ⟨hq.2.2.1, hq.2.2.2⟩) (fun m hm => by rw [List.mem_singleton.mp hm]; exact ⟨hp.2.2.1, hp.2.2.2⟩) z
    omega
  · exact z
def PrB (p : Int × Int) : Prop := 0 ≤ p.1 ∧ p.1 < srtB ∧ 0 ≤ p.2 ∧ p.2 < srtB
variable {ρ : List E} {QN : List D → Prop} {te : TE}
theorem rpa_mem : ∀ {vs : List V} {ps : List (Int × Int)} {x : V}, RpA K G vs (ps.map prT) → x ∈ vs → ∃ p ∈ ps, Rp K G x (prT p)
  | [], _, _, _, h => by cases h
  | v :: vs, [], _, r, _ => by cases r
  | v :: vs, p :: ps, x, r, h => by
    cases r with
    | cons a b =>
      rcases List.mem_cons.mp h with rfl | h
      · exact ⟨p, List.mem_cons_self, a⟩
      · obtain ⟨q, hq, hr⟩ := rpa_mem b h
        exact ⟨q, List.mem_cons_of_mem _ hq, hr⟩
theorem dn_sortP (h : DE K te ρ fun x => ∃ ps : List (Int × Int), (x = .d (.lst (ps.map prT)) ∨ x = .own (ps.map prT)) ∧ ps.length < 64 ∧ (∀ p ∈ ps, PrB p) ∧ ∀ qs : List (Int × Int), qs.Perm ps → (qs.Pairwise fun p q => p.1 ≤ q.1) → QN (qs.map prT)) : DN K (tCB (rSortB K) (tCons te tNil)) ρ QN := fun U σ L G o H j QH q =>
  h U σ L G o H j _ fun v H1 G1 j1 ⟨e1, x, sx, ps, hx, hl, hb, k⟩ => by
    obtain ⟨a, vs, rfl, hs, rr⟩ : ∃ a vs, v = .ref a ∧ SqL K H1 a vs ∧ RpA K G1 vs (ps.map prT) := by
      rcases hx with rfl | rfl
      · cases (sx : Rp K G1 v (.lst (ps.map prT))) with | lst a b => exact ⟨_, _, rfl, sq_of (j1.up _ _ a), b⟩
      · obtain ⟨a, vs, rfl, hm, b⟩ := sx; exact ⟨a, vs, rfl, sq_of (j1.at hm), b⟩
    refine .inr ⟨a, vs, rfl, hs, by rw [rr.len, List.length_map]; exact hl, fun x hx => ?_, fun ys p hp hpw hn => ?_⟩
    · obtain ⟨p, hp, hr⟩ := rpa_mem rr hx
      obtain ⟨b1, b2, b3, b4⟩ := hb p hp
      exact ⟨[p.1, p.2], tupI_of j1.up hr, rfl, fun m hm => by
        simp at hm
        rcases hm with rfl | rfl
        · exact ⟨b1, b2⟩
        · exact ⟨b3, b4⟩⟩
    · obtain ⟨fs, hfs, rf⟩ := rpa_perm hp rr
      obtain ⟨qs, hq, rfl⟩ := perm_of_map hfs.symm rfl
      have pw := rpa_pw j1.up rf hpw
      exact q _ _ _ (j1.alloc hn) ⟨p, ys, _, G1, rfl, e1, j1.free hn, Ex.new (j1.free hn), upd_same, rf, k qs hq (pw.imp_of_mem fun h1 h2 h3 => code_fst (hb _ (hq.mem_iff.mp h1)) (hb _ (hq.mem_iff.mp h2)) h3)⟩
end
/-! ### a dict comprehension, a local name's value -/
theorem sw_trueD {kx vx : Expr} {gs : List Comprehension} {scope : Scope} {pos py : Pos} {y : Str} {l : Nat} {env : Env} (h1 : env.scope.kind = ScopeKind.function) (h2 : List.lookup y env.scope.names = some NameKind.local) (h3 : (py.line == pos.line) = true)
    (h4 : (scope.names.any fun x => match x with | (n, k) => n == y && (k == NameKind.local || k == NameKind.cell)) = false) : swapsWith (.DictComp kx vx gs scope pos) (some (Expr.Name y py)) l env = pure true :=
  (show swapsWith (.DictComp kx vx gs scope pos) (some (Expr.Name y py)) l env = swapsWith (.ListComp kx gs scope pos) (some (Expr.Name y py)) l env from rfl).trans (sw_true h1 h2 h3 h4)
theorem ps_setDc {X : Cx} {i : Nat} {y : Str} {py : Pos} {kx vx tg iter : Expr} {ifs : List Expr} {scope : Scope} {own : List (Str × Nat)} {pos spos : Pos} {wi : TI} {g : TG} {tt : TT} {tk tv : TE}
    (hc : X.calm = true) (hN : X.N.Nodup) (hy : X.N[i]? = some y) (hl : L2.Loc X.env.scope y) (hyl : X.env.scope.names.lookup y = some NameKind.local)
    (hsw : swapsWith (.DictComp kx vx [{ target := tg, iter := iter, ifs := ifs, is_async := 0 }] scope pos) (some (.Name y py)) spos.line X.env = pure true)
    (hi : PI X tg iter wi) (ok : BlkOk X.N X.env.scope scope own)
    (hg : ∀ (s : Shared) (H : Hp) (C : Addr) (cl : List (Str × Addr)) (fp : List Addr), PG (X.blk s H scope (compEnvC scope cl C X.env) fp) tg g)
    (ht : ∀ (s : Shared) (H : Hp) (C : Addr) (cl : List (Str × Addr)) (fp : List Addr), PTs (X.blk s H scope (compEnvC scope cl C X.env) fp) ifs tt)
    (hk : ∀ (s : Shared) (H : Hp) (C : Addr) (cl : List (Str × Addr)) (fp : List Addr), PE (X.blk s H scope (compEnvC scope cl C X.env) fp) kx tk)
    (hv : ∀ (s : Shared) (H : Hp) (C : Addr) (cl : List (Str × Addr)) (fp : List Addr), PE (X.blk s H scope (compEnvC scope cl C X.env) fp) vx tv)
    (hf : ∀ x : Value, foldedSetIterable iter X.env x = pure x := by intro x; rfl) :
    PS X (.Assign [.Name y py] (.DictComp kx vx [{ target := tg, iter := iter, ifs := ifs, is_async := 0 }] scope pos) spos) (tAsg (tDc wi g tt tk tv (own.map fun x => x.snd)) (gName i)) :=
  ⟨fun pins s σ H D inv h => by
    rw [exec_Assign_Name_used y py _ spos hsw]
    refine wpAny_bind (wpAny_standAt ?_)
    refine wpAny_bind ?_
    rw [arm_evalThenUse_DictComp]
    refine wpAny_bind ?_
    refine dc_core (Q := fun v H' => gName i v σ H' (fun σ' H' => D.nx σ' H')) hc hN inv hi ok hg ht hk hv hf h ?_
    intro D' C s' m H' inv' q hns fp
    show wpAny _ _ (assign (.Name y py) X.env (.ref D')) _ _ _
    refine wpAny_assign_Name ?_
    refine store_ok2 inv' hN hy hl (v := .ref D') ?_ (fun s2 inv2 ⟨a, same, ha⟩ => ?_) (.inr hyl)
    · exact rfl
    · have na : C ≠ a := by
        rcases ha with ha | ha
        · rw [ha]; exact fp.2.1
        · exact fun z => fp.2.2.2.2.1 y a ha z.symm
      obtain ⟨o, es, ep, h1, h2, h3, h4⟩ := hns
      refine ⟨m, ⟨o, es, ep, by rw [same.2 C na]; exact h1, h2, h3, h4⟩, fun h' sb => ?_⟩
      refine wpAny_pure (wpAny_pure ?_)
      refine ⟨_, H', inv2.turnedL (ch := [C]) (fun b o nb e => ?_) (fun b hb => ?_), q⟩
      · rw [sb.2 b (fun z => nb (by rw [z]; exact List.mem_singleton.mpr rfl))]; exact e
      · rw [List.mem_singleton.mp hb]; exact fp⟩
end Wp

set_option Elab.async false
set_option linter.all false
set_option maxRecDepth 100000
set_option maxHeartbeats 4000000
/-! == and != of instances with an __eq__ of their own, by the promise of that def. -/
namespace HNE
open PySem PySem.Spec PyProof.Rows PySem.SeqAt
section
variable {M : Model} {prog : Program} {w : World} {A : Around} {E : Value → Shared → Prop} {s : Shared} {K : PySem.W.Frag} {x C L f : Addr} {h₀ : Heap} {m : Str → Option Value} {ox : Obj} {od : Option Obj} {b tb : Value}
theorem ifBound_objNe {args : List Value} {Q : Option Value → Shared → Prop} (X : K.In s.heap) (I : PySem.W.InstAt s.heap x ox C od) (hs : PySem.W.findIn K (.ref C) "__ne__" = some (some (.builtin "object.__ne__")))
    (h : wpAny M A (call (.builtin "object.__ne__") (.ref x :: args)) (fun v => Q (some v)) E s) : wpAny M A (callSpecialIfBound? (.ref x) "__ne__" args) Q E s := by
  simp only [callSpecialIfBound?, bindSpecialIfBound?]
  refine wpAny_holding (wpAny_bind (wpAny_bind (wpAny_bind (I.type.here ((PySem.W.looks_findIn X hs).here ?_)))))
  refine wpAny_bind (wpAny_askSetting (wpAny_ite ?_))
  have fin : wpAny M A (call (.builtin "object.__ne__") ([.ref x] ++ args) >>= fun v => pure (some v)) Q E s := wpAny_bind (wpAny_mono h (fun v s' h' => wpAny_pure h') fun _ _ h' => h')
  split
  · exact wpAny_bind (wpAny_of_eq (PySem.F.cmp_object.ne.bind _) (wpAny_pure (by exact fin)))
  · exact wpAny_tryCatch (wpAny_bind (wpAny_of_eq (PySem.F.cmp_object.ne.bind _) (wpAny_pure (by exact fin))))
theorem entry_ne {Q : Fin → Shared → Prop} (hu : A.units < cLine) (X : K.In s.heap) (I : PySem.W.InstAt s.heap x ox C od) (hs : PySem.W.findIn K (.ref C) "__eq__" = some (some (.ref f))) (hf : PySem.W.isFn K (.ref f) = true)
    (h : wpAny (model prog w) A (call (.ref f) [.ref x, b]) (fun v s' => ∃ r, v = .bool r ∧ Q (.done (.ret (.bool (!r)))) s') E s) :
    wpAny (model prog w) A (Builtin.«object.__ne__» ⟨[.ref x, b], []⟩) Q E s := by
  unfold Builtin.«object.__ne__»
  repeat (first
    | with_reducible refine wpAny_cRoomFor hu ?_
    | (refine wpAny_bind (m := callSpecialIfBound? (.ref x) (Str.ofString "__eq__") [b])
        (PySem.W.ifBound_K X I hs hf (wpAny_mono h (fun r s' hr => by
          obtain ⟨b, rfl, hq⟩ := hr
          repeat (first | exact hq | exact wpAny_pure hq | exact wpAny_truthy_bool hq | (refine wpAny_bind (m := truthy (.bool _)) (wpAny_truthy_bool ?_)) | wp_step)) fun _ _ e => e)))
    | wp_step)
theorem ne_K {Q : Value → Shared → Prop} (hu : A.units + 1 < cLine) (F : Fr h₀ L s.heap m) (X₀ : K.In h₀) (I : PySem.W.InstAt s.heap x ox C od) (hb : PySem.W.Looks (model prog w) s.heap (typeOf b) tb) (hn : PySem.W.notFirst K C tb = true)
    (hne : PySem.W.findIn K (.ref C) "__ne__" = some (some (.builtin "object.__ne__"))) (ho : PySem.W.mroIn K C (.type "object") = some true)
    (hs : PySem.W.findIn K (.ref C) "__eq__" = some (some (.ref f))) (hf : PySem.W.isFn K (.ref f) = true)
    (h : wpAny (model prog w) A.in1 (call (.ref f) [.ref x, b]) (fun v s' => ∃ r, v = .bool r ∧ Q (.bool (!r)) s') E s) : wpAny (model prog w) A (richCompare .NotEq (.ref x) b) Q E s := by
  have X := X₀.keeps F.keep
  have one : wpAny (model prog w) A (tryCompare (.ref x) "__ne__" b) (fun r s' => ∃ v, r = some v ∧ Q v s') E s := by
    unfold tryCompare
    refine wpAny_bind (ifBound_objNe X I hne (wpAny_call (codeAny_call_builtin PySem.F.cmp_object.ne.plain PySem.F.cmpEntry_ne (PySem.W.check_slot PySem.F.cmpKind_ne PySem.F.cmpSplit_ne (I.type.andThen (PySem.W.looks_mroIn X ho)) (PySem.F.cmpArgs_ne _ _) (entry_ne (A := A.in1) hu X I hs hf (wpAny_mono h (fun v s' hv => ?_) fun _ _ e => e))))))
    obtain ⟨r, rfl, hq⟩ := hv
    first | exact ⟨r, rfl, wpAny_pure ⟨_, rfl, hq⟩⟩ | exact ⟨r, rfl, wpAny_pure (wpAny_pure ⟨_, rfl, hq⟩)⟩ | exact ⟨r, rfl, ⟨_, rfl, hq⟩⟩
  unfold richCompare
  simp only [oneThing_ref]
  refine wpAny_holding (wpAny_bind (wpAny_cRoomFor (Nat.lt_of_succ_lt hu) ?_))
  rw [cmpInfo_NotEq]
  dsimp only
  refine wpAny_bind (I.type.here (wpAny_bind (hb.here ?_)))
  split
  · rename_i q
    have e : PySem.W.subIn K tb (.ref C) = some false := by
      rcases Bool.or_eq_true_iff.mp hn with e | e
      · rw [beq_iff_eq.mp e] at q; simp at q
      · exact beq_iff_eq.mp e
    refine wpAny_bind ((PySem.W.looks_subIn X e).here ?_)
    simp only [Bool.false_eq_true, if_false]
    refine wpAny_bind (wpAny_mono one (fun r s' z => ?_) fun _ _ e => e)
    obtain ⟨z, rfl, hq⟩ := z
    exact wpAny_pure hq
  · refine wpAny_bind (wpAny_pure ?_)
    simp only [Bool.false_eq_true, if_false]
    refine wpAny_bind (wpAny_mono one (fun r s' z => ?_) fun _ _ e => e)
    obtain ⟨z, rfl, hq⟩ := z
    exact wpAny_pure hq
end
end HNE
namespace L2
open PySem PySem.Spec PyProof.Rows
/-- what the text's table tells of a class that has an __eq__ of its own -/
structure EqC (K : PySem.W.Frag) (C : Addr) : Prop where
  ne : PySem.W.findIn K (.ref C) "__ne__" = some (some (.builtin "object.__ne__"))
  cl : PySem.W.findIn K (.ref C) "__class__" = some (some (.builtin "object.__class__"))
  gn : PySem.W.specialIn K (.builtin "object.__class__") "__get__" = some (some (.builtin "getset_descriptor.__get__"))
  tk : PySem.W.takesIn K (.builtin "object.__class__") = some true
  ob : PySem.W.mroIn K C (.type "object") = some true
  so : (PySem.W.clsIn K C).isSome = true
  ty : PySem.W.typeIn K (.ref C) = some (.type "type")
def eqcB (K : PySem.W.Frag) (C : Addr) : Bool :=
  decide (PySem.W.findIn K (.ref C) "__ne__" = some (some (.builtin "object.__ne__"))) && (decide (PySem.W.findIn K (.ref C) "__class__" = some (some (.builtin "object.__class__"))) &&
  (decide (PySem.W.specialIn K (.builtin "object.__class__") "__get__" = some (some (.builtin "getset_descriptor.__get__"))) && (decide (PySem.W.takesIn K (.builtin "object.__class__") = some true) &&
  (decide (PySem.W.mroIn K C (.type "object") = some true) && ((PySem.W.clsIn K C).isSome && decide (PySem.W.typeIn K (.ref C) = some (.type "type")))))))
theorem eqcB_ok {K : PySem.W.Frag} {C : Addr} (h : eqcB K C = true) : EqC K C := by
  unfold eqcB at h
  simp only [Bool.and_eq_true, decide_eq_true_iff] at h
  obtain ⟨h1, h2, h3, h4, h5, h6, h7⟩ := h
  exact ⟨h1, h2, h3, h4, h5, h6, h7⟩
theorem EqC.kit {K : PySem.W.Frag} {C : Addr} (e : EqC K C) (n : String) (hm : ∃ l : List String, fastBuiltinMro n = some (l.map Value.type)) : PySem.W.kitOne K (.type n) (.ref C) = some false := by
  obtain ⟨l, hl⟩ := hm
  unfold PySem.W.kitOne
  rw [if_neg (by simp)]
  unfold PySem.W.kitCls
  dsimp only
  rw [if_pos (by rw [e.so, e.ty]; rfl)]
  show (fastBuiltinMro n).map (·.contains (.ref C)) = some false
  rw [hl]
  simp
theorem kit_same {K : PySem.W.Frag} {C : Addr} : PySem.W.kitOne K (.ref C) (.ref C) = some true := by
  unfold PySem.W.kitOne
  rw [if_pos (by simp)]
theorem sub_no {K : PySem.W.Frag} {C : Addr} (n : String) (hm : ∃ l : List String, fastBuiltinMro n = some (l.map Value.type)) : PySem.W.subIn K (.type n) (.ref C) = some false := by
  obtain ⟨l, hl⟩ := hm
  show (fastBuiltinMro n).map (·.contains (.ref C)) = some false
  rw [hl]
  simp
theorem mro_int : ∃ l : List String, fastBuiltinMro "int" = some (l.map Value.type) := ⟨["int", "object"], by decide +kernel⟩
theorem mro_tup : ∃ l : List String, fastBuiltinMro "tuple" = some (l.map Value.type) := ⟨["tuple", "object"], by decide +kernel⟩
/-- the other one of a comparison: of the class too, an int, a tuple -/
def TyF (K : PySem.W.Frag) (H : Hp) (C : Addr) (y : V) : Prop := (∃ b dx fs, y = .ref b ∧ H b = some (.ins C dx fs)) ∨ (∃ i, y = .int i) ∨ (∃ a xs, y = .ref a ∧ SqT K H a xs)
section
variable {X : Cx}
theorem tyf_looks {pins : List (Addr × Obj)} {σ : St} {H : Hp} {s : Shared} {C : Addr} {y : V} {u : Value} (I : Inv X pins σ H s) (ry : RelV y u) (t : TyF X.K H C y) : ∃ tb, PySem.W.Looks (model X.prog X.w) s.heap (typeOf u) tb ∧ PySem.W.notFirst X.K C tb = true := by
  rcases t with ⟨b, dx, fs, rfl, hb⟩ | ⟨i, rfl⟩ | ⟨a, xs, rfl, hs⟩
  · cases ry
    obtain ⟨mB, J', _⟩ := ins_get I.hok hb
    obtain ⟨od', J', _⟩ := J'.look
    exact ⟨_, J'.type, by simp [PySem.W.notFirst]⟩
  · obtain ⟨t, q⟩ := (show ∃ t, u = Value.int i t from ry)
    subst q
    refine ⟨.type "int", PySem.W.Looks.of_pure rfl, ?_⟩
    unfold PySem.W.notFirst
    rw [sub_no "int" mro_int]
    simp
  · cases ry
    obtain ⟨its, r, ⟨o, e, hc, _⟩, _⟩ := I.tuple hs
    refine ⟨.type "tuple", ?_, ?_⟩
    · have z : PySem.W.Looks (model X.prog X.w) s.heap (typeOf (.ref a)) o.cls := (PySem.W.Looks.ld e).andThen .now
      rw [hc] at z
      exact z
    · unfold PySem.W.notFirst
      rw [sub_no "tuple" mro_tup]
      simp
def rOE (K : PySem.W.Frag) (C : Addr) (sp : Sp) : R2 := fun x y H Q => ∃ a dx fs, x = .ref a ∧ H a = some (.ins C dx fs) ∧ TyF K H C y ∧ sp [x, y] H (fun v H' => ∃ b, v = .bl b ∧ Q (.bl b) H') fun _ _ _ => False
def rON (K : PySem.W.Frag) (C : Addr) (sp : Sp) : R2 := fun x y H Q => ∃ a dx fs, x = .ref a ∧ H a = some (.ins C dx fs) ∧ TyF K H C y ∧ sp [x, y] H (fun v H' => ∃ b, v = .bl b ∧ Q (.bl (!b)) H') fun _ _ _ => False
theorem run_oe {n : Nat} {f : Addr} {fd : FuncData} {ps : List Str} {sp : Sp} (F : FnOk X.prog X.w X.K X.mg X.base CX0 n f fd ps sp) (hb : Binds X.K fd ps []) {A : Around} (hA : A.frames = X.A.frames) (hr : Room n A)
    {pins : List (Addr × Obj)} {σ : St} {H : Hp} {s : Shared} {a : Addr} {y : V} {u : Value} {g : Bool → Bool} {Q : VK} (I : Inv X pins σ H s) (ry : RelV y u) (h : sp [.ref a, y] H (fun v H' => ∃ b, v = .bl b ∧ Q (.bl (g b)) H') fun _ _ _ => False) :
    wpAny (model X.prog X.w) A (call (.ref f) [.ref a, u]) (fun r s' => ∃ b, r = .bool b ∧ EP X pins σ Q (.bool (g b)) s') X.xe s := by
  have e0 : Env0 X.prog X.w X.K X.mg X.base A X.stack s H := by
    have e := I.env0
    exact ⟨by rw [hA]; exact e.frames, e.mod, e.bs, e.bsz, e.funs, e.frf, e.hok, e.bare⟩
  have hl := F.len _ _ _ _ h
  have r2 : Vals [V.ref a, y] [Value.ref a, u] := .cons rfl (.cons ry .nil)
  refine wpAny_call (codeAny_mono (F.run A X.stack s H ⟨[.ref a, u], []⟩ [.ref a, u] [.ref a, y] _ _ hr e0 (by
    have := hb s [.ref a, u] I.kIn (by simpa using hl)
    simpa using this) r2 h) fun r s' hq => ?_)
  cases r with
  | error e => exact (pass0 (X := X) pins σ H s e s' I hq)
  | ok fl =>
    cases fl with
    | ret w =>
      obtain ⟨z, H', I', rz, b, ez, q⟩ := I.after hq
      subst ez
      cases rz
      exact ⟨b, rfl, .bl (g b), H', I', rfl, q⟩
    | next => exact False.elim hq
    | brk => exact False.elim hq
    | cont => exact False.elim hq
theorem op_oe {K : PySem.W.Frag} {n : Nat} {C f : Addr} {fd : FuncData} {ps : List Str} {sp : Sp} (F : FnOk X.prog X.w X.K X.mg X.base CX0 n f fd ps sp) (m : Meth K C "__eq__" f) (hb : Binds X.K fd ps []) (hr : Room n X.A) (h : X.K = K := by rfl) : OpR X (compareOp .Eq) (rOE K C sp) := by
  subst h
  intro pins s σ H x y v u Q I rx ry ⟨a, dx, fs, hx, ha, ht, q⟩
  subst hx
  cases rx
  show wpAny (model X.prog X.w) X.A (richCompare .Eq (.ref a) u) (EP X pins σ Q) X.xe s
  obtain ⟨tb, l, nf⟩ := tyf_looks I ry ht
  obtain ⟨mA, J, _⟩ := ins_get I.hok ha
  obtain ⟨od, J, _⟩ := J.look
  obtain ⟨_, hF⟩ := I.fr
  refine PySem.W.cmp_K (op := .Eq) hr.units0 hF I.ok.mod.kin J l nf m.at_ m.fn ?_
  refine wpAny_mono (run_oe (g := id) F hb rfl hr I ry q) (fun r s' z => ?_) fun _ _ x => x
  obtain ⟨b, rfl, z⟩ := z
  exact z
theorem op_one {K : PySem.W.Frag} {n : Nat} {C f : Addr} {fd : FuncData} {ps : List Str} {sp : Sp} (F : FnOk X.prog X.w X.K X.mg X.base CX0 n f fd ps sp) (m : Meth K C "__eq__" f) (ec : EqC K C) (hb : Binds X.K fd ps []) (hr : Room (n + 1) X.A) (h : X.K = K := by rfl) : OpR X (compareOp .NotEq) (rON K C sp) := by
  subst h
  intro pins s σ H x y v u Q I rx ry ⟨a, dx, fs, hx, ha, ht, q⟩
  subst hx
  cases rx
  show wpAny (model X.prog X.w) X.A (richCompare .NotEq (.ref a) u) (EP X pins σ Q) X.xe s
  obtain ⟨tb, l, nf⟩ := tyf_looks I ry ht
  obtain ⟨mA, J, _⟩ := ins_get I.hok ha
  obtain ⟨od, J, _⟩ := J.look
  obtain ⟨_, hF⟩ := I.fr
  refine HNE.ne_K hr.in1.units0 hF I.ok.mod.kin J l nf ec.ne ec.ob m.at_ m.fn ?_
  refine wpAny_mono (run_oe (g := Bool.not) (A := X.A.in1) F hb rfl hr.in1 I ry q) (fun r s' z => ?_) fun _ _ x => x
  obtain ⟨b, rfl, z⟩ := z
  exact ⟨b, rfl, z⟩
end
end L2
namespace Wp
open PySem L2 Evl StX
section
variable {K : PySem.W.Frag} {x y : D} {Q : E → Prop} {C : Addr}
/-- data that an instance of the class at C may be compared with -/
def D.tyf (C : Addr) : D → Prop
  | .obj B _ _ => B = C
  | .int _ => True
  | .tup _ => True
  | _ => False
theorem tyf_of {G H : Hp} {v : V} (e : Ex G H) (h : Rp K G v y) (t : y.tyf C) : TyF K H C v := by
  cases h with
  | int i => exact .inr (.inl ⟨i, rfl⟩)
  | tup a b => exact .inr (.inr ⟨_, _, rfl, ex_t e a⟩)
  | @obj a B dx fvs ks ds g k r =>
    cases (show B = C from t)
    exact .inl ⟨_, _, _, rfl, e _ _ g⟩
  | _ => exact t.elim
theorem dr_oe {sp : Sp} {ks : List Str} {ds : List D} (hx : x = .obj C ks ds) (t : y.tyf C) (h : DC K sp [x, y] fun e => ∃ b, e = .d (.bl b) ∧ Q (.d (.bl b))) : DR K (rOE K C sp) (.d x) (.d y) Q := fun U L G v w lo sx sy H j QH q => by
  subst hx
  have sx' : Rp K G v (.obj C ks ds) := sx
  have sy' : Rp K G w y := sy
  cases id sx' with
  | @obj a _ dx fvs _ _ g k r =>
    refine ⟨a, dx, fvs, rfl, j.up _ _ g, tyf_of j.up sy' t, ?_⟩
    refine h U L G _ lo (.cons sx' (.cons sy' .nil)) H j _ (fun v' H' G' j' ⟨e, e2, se, b, ed, k2⟩ => ?_) _
    subst ed
    cases (show Rp K G' v' (.bl b) from se)
    exact ⟨b, rfl, q _ _ _ j' ⟨e, .d (.bl b), Rp.bl b, k2⟩⟩
theorem dr_one {sp : Sp} {ks : List Str} {ds : List D} (hx : x = .obj C ks ds) (t : y.tyf C) (h : DC K sp [x, y] fun e => ∃ b, e = .d (.bl b) ∧ Q (.d (.bl (!b)))) : DR K (rON K C sp) (.d x) (.d y) Q := fun U L G v w lo sx sy H j QH q => by
  subst hx
  have sx' : Rp K G v (.obj C ks ds) := sx
  have sy' : Rp K G w y := sy
  cases id sx' with
  | @obj a _ dx fvs _ _ g k r =>
    refine ⟨a, dx, fvs, rfl, j.up _ _ g, tyf_of j.up sy' t, ?_⟩
    refine h U L G _ lo (.cons sx' (.cons sy' .nil)) H j _ (fun v' H' G' j' ⟨e, e2, se, b, ed, k2⟩ => ?_) _
    subst ed
    cases (show Rp K G' v' (.bl b) from se)
    exact ⟨b, rfl, q _ _ _ j' ⟨e, .d (.bl (!b)), Rp.bl (!b), k2⟩⟩
def D.isO : D → Bool
  | .obj _ _ _ => true
  | _ => false
/-- isinstance(e, C) -/
theorem de_isOwn {ρ : List E} {te : TE} (ec : EqC K C) (cl : Cls K C) (h : DE K te ρ fun e => DD e fun d => d.tyf C ∧ Q (.d (.bl d.isO))) : DE K (tCB (rIsi K) (tCons te (tCons (tC (.ref C)) tNil))) ρ Q := fun U σ L G o =>
  em_cb (am_cons ((h U σ L G o).w fun v G1 ⟨e1, e, se, k⟩ => am_cons (em_c (am_nil (by
    obtain ⟨d, ed, t, k⟩ := k
    subst ed
    have sd : Rp K G1 v d := se
    cases sd with
    | int i => exact fun H j _ q => ⟨_, .ref C, .type "int", .ref C, false, rfl, .own C, .base (.int i), ec.kit "int" mro_int, q _ _ _ j ⟨e1, .d (.bl false), Rp.bl _, k⟩⟩
    | @tup a vs ds ta tb =>
      refine fun H j _ q => ⟨_, .ref C, .type "tuple", .ref C, false, rfl, .own C, ?_, ec.kit "tuple" mro_tup, q _ _ _ j ⟨e1, .d (.bl false), Rp.bl _, k⟩⟩
      rcases ex_t j.up ta with (ta | ⟨o, ta⟩) | ⟨o, its, n, hk, hc, _⟩
      · exact .base (.tup ta)
      · exact .fTuple ta
      · exact .kTuple hk hc
    | @obj a B dx fvs ks ds g kk r =>
      cases (show B = C from t)
      exact fun H j _ q => ⟨_, .ref C, .ref C, .ref C, true, rfl, .own C, .base (.ins (j.up _ _ g) cl ec.cl ec.gn ec.tk ec.ob), kit_same, q _ _ _ j ⟨e1, .d (.bl true), Rp.bl _, k⟩⟩
    | _ => exact t.elim)))))
end
end Wp
/-! ### the head's look at one thing more of the table -/
namespace Pf
open PySem
abbrev AlE : Type := He.AlD × Bool
def obsE (n : Nat) (fa : List He.Fa) (fn : List He.DefD) (ex : PySem.W.Frag → Bool) (g : Addr → Option Obj) : AlE := (He.obsDG n fa fn g, ex (He.frG g (He.asD g n)))
structure SaysE (fa : List He.Fa) (fn : List He.DefD) (ex : PySem.W.Frag → Bool) (K : PySem.W.Frag) : Prop where
  d : He.SaysD fa fn K
  x : ex K = true
def hookE (n : Nat) (fa : List He.Fa) (fn : List He.DefD) (ex : PySem.W.Frag → Bool) : PySem.W.Hook where
  α := AlE
  obs := fun s => obsE n fa fn ex s.heap.get?
  val := fun _ => (He.valD fn, true)
  says := fun _ h => ∃ K : PySem.W.Frag, K.In h ∧ SaysE fa fn ex K
  of := fun _ _ e => ⟨_, He.frG_in, congrArg (fun z : AlE => z.1) e, congrArg (fun z : AlE => z.2) e⟩
  keeps := fun _ _ _ ⟨K, hK, c⟩ k => ⟨K, PySem.W.Frag.In.keeps hK k, c⟩
theorem obsE_eq {n : Nat} {fa : List He.Fa} {fn : List He.DefD} {ex : PySem.W.Frag → Bool} {g : Addr → Option Obj} {s : Shared} (h : ∀ a, g a = s.heap.get? a) : obsE n fa fn ex g = (hookE n fa fn ex).obs s := by
  have e : g = s.heap.get? := funext h
  rw [e] <;> rfl
end Pf

set_option Elab.async false
set_option linter.all false
set_option maxRecDepth 100000
set_option maxHeartbeats 4000000
/-! sorted of a list of pairs (int, anything) whose ints differ. -/
namespace SrtO
open PySem PyProof.Rows Srt
def IsFst (h : Heap) (v : Value) (x : Int) : Prop := ∃ a o t u n, v = .ref a ∧ h.get? a = some o ∧ o.cls = .type "tuple" ∧ o.data = .seq #[.int x t, u] n
theorem IsFst.keeps {h h' : Heap} {v : Value} {x : Int} (p : IsFst h v x) (k : ∀ b o, h.get? b = some o → o.cls = .type "tuple" → h'.get? b = some o) : IsFst h' v x := by
  obtain ⟨a, o, t, u, n, e, ho, hc, hd⟩ := p
  exact ⟨a, o, t, u, n, e, k _ _ ho hc, hc, hd⟩
theorem fsts_of {h : Heap} : ∀ {vs : List Value}, (∀ v ∈ vs, ∃ x, IsFst h v x) → ∃ fs : List Value, PySem.W.KatTups h vs fs ∧ fs.length = vs.length ∧ ∀ f ∈ fs, ∃ x t, f = Value.int x t
  | [], _ => ⟨[], PySem.W.KatTups.nil, rfl, fun _ hm => by simp at hm⟩
  | v :: vs, hp => by
    obtain ⟨fs, h1, h2, h3⟩ := fsts_of (vs := vs) fun v' hm => hp v' (List.mem_cons_of_mem _ hm)
    obtain ⟨x, a, o, t, u, n, e, ho, hc, hd⟩ := hp v (List.mem_cons_self ..)
    subst e
    refine ⟨.int x t :: fs, PySem.W.KatTups.cons ho hc hd rfl h1, by rw [List.length_cons, List.length_cons, h2], fun f hm => ?_⟩
    rcases List.mem_cons.mp hm with rfl | hm
    · exact ⟨x, t, rfl⟩
    · exact h3 f hm
section
variable {prog : Program} {w : World} {A : Around} {E : Value → Shared → Prop} {s : Shared}
abbrev ltF (k : Value → Int) : Value → Value → Bool := fun v u => decide (k v < k u)
theorem swo_fst (k : Value → Int) : Swo (ltF k) := ⟨fun x y h => decide_eq_false (by have := of_decide_eq_true h; omega), fun x y z h1 h2 => decide_eq_false (by have a := of_decide_eq_false h1; have b := of_decide_eq_false h2; omega)⟩
theorem fst_cmp {vs : List Value} {k : Value → Int} (hp : ∀ v ∈ vs, IsFst s.heap v (k v)) (hi : ∀ v ∈ vs, ∀ u ∈ vs, k v = k u → v = u) : Cmp prog w A s (tuples' true) (fun p => p.1 ∈ vs) (lt2 (ltF k)) := by
  intro p q hm hm'
  have h1 := hp _ hm
  have h2 := hp _ hm'
  have h3 := hi _ hm _ hm'
  show wpAny (model prog w) A (keyLt' (tuples' true) p.1 q.1) (fun r s' => s' = s ∧ r = decide (k p.1 < k q.1)) (fun _ _ => False) s
  generalize k p.1 = x at h1 h3 ⊢
  generalize k q.1 = x' at h2 h3 ⊢
  by_cases e : x = x'
  · have e2 := h3 e
    subst e
    rw [← e2]
    obtain ⟨a, o, t, u, n, e, ho, hc, hd⟩ := h1
    rw [e]
    refine PySem.W.kat_lt ho hd ho hd ?_
    show PySem.W.KatLex prog w A true (decide (2 < 2)) _ [(.int x t, .int x t), (u, u)] 0 s
    exact PySem.W.kat_cons (SeqAt.EqAt.same _ prog w _ _ (PySem.W.kat_yes (PySem.W.kat_cons (SeqAt.EqAt.same u prog w _ _ (PySem.W.kat_yes (PySem.W.kat_nil ⟨rfl, (decide_eq_false (Int.lt_irrefl _)).symm⟩))))))
  · obtain ⟨a, o, t, u, n, e1, ho, hc, hd⟩ := h1
    obtain ⟨a', o', t', u', n', e', ho', hc', hd'⟩ := h2
    rw [e1, e']
    refine PySem.W.kat_lt ho hd ho' hd' ?_
    show PySem.W.KatLex prog w A true (decide (2 < 2)) _ [(.int x t, .int x' t'), (u, u')] 0 s
    refine PySem.W.kat_cons (SeqAt.EqAt.int_int x t x' t' prog w _ _ ?_)
    refine PySem.W.kat_go (fun e1 => ?_) (fun e1 => ?_)
    · exact absurd (show x = x' by simpa using e1) e
    · exact PySem.W.kat_no (oneLt_int ⟨rfl, rfl⟩)
theorem fst_sortableO {a : Addr} {vs : List Value} {k : Value → Int} (h0 : 0 < vs.length) (hp : ∀ v ∈ vs, IsFst s.heap v (k v)) (hi : ∀ v ∈ vs, ∀ u ∈ vs, k v = k u → v = u) (ha : ∀ o, s.heap.get? a = some o → o.cls ≠ .type "tuple") : SortableO prog w A s a vs (ltF k) := by
  intro h' keep
  have hp' : ∀ v ∈ vs, IsFst h' v (k v) := fun v hm => (hp v hm).keeps fun b o e c => keep b o (fun z => by subst z; exact ha o e c) e
  obtain ⟨fs, h1, h2, h3⟩ := fsts_of fun v hm => ⟨_, hp' v hm⟩
  refine ⟨tuples' true, fun Q E hq => ?_, fst_cmp hp' hi⟩
  refine PySem.W.kat_kind (T := .type "int") h1 (by omega) (fun f hm => ?_) (by rfl) ?_
  · obtain ⟨x, t, rfl⟩ := h3 f hm
    exact PySem.W.Looks.now
  · have e : (Value.type "int" != Value.type "tuple") = true := by first | decide +kernel | rfl | decide
    rw [e]
    exact hq
theorem sorted_fst {l : Addr} {vs : List Value} {k : Value → Int} {Q : Value → Shared → Prop} (hl : s.heap.IsList l vs.toArray) (hz : vs.length ≤ sizeLine) (hp : ∀ v ∈ vs, IsFst s.heap v (k v)) (hi : ∀ v ∈ vs, ∀ u ∈ vs, k v = k u → v = u)
    (h : ∀ (h' : Heap) (d : Addr) (out : List Value), Srtd (ltF k) out → Stb (ltF k) out vs → (∀ b o, s.heap.get? b = some o → h'.get? b = some o) → s.heap.objs.size ≤ d → (∃ n, h'.get? d = some (seqObj "list" out.toArray n)) → Q (.ref d) { s with heap := h' }) :
    wpAny (model prog w) A (call (.builtin "sorted") [.ref l]) Q E s := by
  refine sorted_ord (swo_fst k) hl hz (fun h2 h₁ a ha kk => ?_) fun out hs hb => ?_
  · refine fst_sortableO (s := { s with heap := h₁ }) (by omega) (fun v hm => (hp v hm).keeps fun b o e _ => (kk b o e).2) hi fun o e => ?_
    have e' : some o = some (seqObj "list" vs.toArray 0) := e.symm.trans ha
    cases e'
    intro c
    exact absurd (Value.type.inj c) (by decide)
  · exact h _ _ out hs hb (fun b o e => sortedAll_old e) (Nat.le_succ _) (sortedAll_at s.heap vs out.toArray)
end
end SrtO
namespace L2
open PySem PySem.Spec PyProof.Rows
def Fst (K : PySem.W.Frag) (H : Hp) (x : V) (n : Int) : Prop := ∃ t w, x = .ref t ∧ SqT K H t [.int n, w]
def rSortF (K : PySem.W.Frag) : List V → Hp → VK → Prop := fun vs H Q => ∃ (a : Addr) (xs : List V) (is : List Int), vs = [V.ref a] ∧ SqL K H a xs ∧ is.length = xs.length ∧ (∀ (i : Nat) (x : V) (n : Int), xs[i]? = some x → is[i]? = some n → Fst K H x n) ∧ is.Nodup ∧
  ∀ ys p, ys.Perm xs → ys.Pairwise (fun x y => ∀ n m, Fst K H x n → Fst K H y m → n ≤ m) → H p = none → Q (.ref p) (upd H p (.lst ys))
section
variable {X : Cx}
open Classical in
theorem cr_sortF {K : PySem.W.Frag} (h : X.K = K := by rfl) : CallR X (.builtin "sorted") (rSortF K) := by
  subst h
  intro pins s σ H vs us Q I r h
  obtain ⟨a, xs, is, rfl, hs, hlen, hx, hnd, q⟩ := h
  obtain ⟨its, rv, hl, hz⟩ := I.list hs
  obtain ⟨u, rfl, ru⟩ := vals1 r
  obtain rfl : u = Value.ref a := ru
  have fun1 : ∀ x n m, Fst X.K H x n → Fst X.K H x m → n = m := fun x n m ⟨t, w, e, h1⟩ ⟨t', w', e', h2⟩ => by
    subst e
    cases e'
    have := I.tuple_inj h1 h2
    injection this with z
    injection z
  have hx' : ∀ x ∈ xs, ∃ n, Fst X.K H x n := fun x m => by
    obtain ⟨i, hi, rfl⟩ := List.mem_iff_getElem.mp m
    exact ⟨_, hx i _ is[i] (List.getElem?_eq_getElem hi) (List.getElem?_eq_getElem (by omega))⟩
  obtain ⟨e1, e2⟩ := refs_back rv fun x m => by
    obtain ⟨n, t, w, e, _⟩ := hx' x m
    exact ⟨t, e⟩
  obtain ⟨k, hk⟩ : ∃ k : V → Int, ∀ x ∈ xs, Fst X.K H x (k x) := ⟨fun x => if h : ∃ n, Fst X.K H x n then h.choose else 0, fun x m => by
    have := hx' x m
    simp only [dif_pos this]
    exact this.choose_spec⟩
  have hinj : ∀ x ∈ xs, ∀ y ∈ xs, k x = k y → x = y := fun x mx y my e => by
    obtain ⟨i, hi, rfl⟩ := List.mem_iff_getElem.mp mx
    obtain ⟨j, hj, rfl⟩ := List.mem_iff_getElem.mp my
    have h1 := fun1 _ _ _ (hk _ mx) (hx i _ is[i] (List.getElem?_eq_getElem hi) (List.getElem?_eq_getElem (by omega)))
    have h2 := fun1 _ _ _ (hk _ my) (hx j _ is[j] (List.getElem?_eq_getElem hj) (List.getElem?_eq_getElem (by omega)))
    have : is[i]'(by omega) = is[j]'(by omega) := by rw [← h1, ← h2, e]
    have pw := List.pairwise_iff_getElem.mp hnd
    rcases Nat.lt_trichotomy i j with z | z | z
    · exact absurd this (pw i j (by omega) (by omega) z)
    · subst z; rfl
    · exact absurd this.symm (pw j i (by omega) (by omega) z)
  have mem_its : ∀ v ∈ its, backV v ∈ xs := fun v hv => by rw [e1]; exact List.mem_map.mpr ⟨_, hv, rfl⟩
  refine SrtO.sorted_fst (k := fun u => k (backV u)) hl.isList (by rw [← rv.length]; exact hz) (fun v hv => ?_) (fun v hv u hu e => ?_) fun h' d out h1 h2 kp hd hn => ?_
  · have hm := mem_its v hv
    obtain ⟨t, rfl⟩ := e2 v hv
    obtain ⟨t', w, e, ht⟩ := hk _ hm
    cases e
    obtain ⟨its2, r2, ⟨o, ho, hc, n, hd⟩, _⟩ := I.tuple ht
    obtain ⟨u1, u2, rfl, ri, rj⟩ := vals2 r2
    obtain ⟨t1, rfl⟩ := ri
    exact ⟨t, o, t1, u2, n, rfl, ho, hc, hd⟩
  · have e3 := hinj _ (mem_its v hv) _ (mem_its u hu) e
    obtain ⟨t, rfl⟩ := e2 v hv
    obtain ⟨t', rfl⟩ := e2 u hu
    cases e3
    rfl
  · have h3 : ∀ u ∈ out, ∃ a, u = Value.ref a := fun u hu => e2 u (h2.perm.mem_iff.mp hu)
    obtain ⟨n, hn⟩ := hn
    have hb : (out.map backV).Perm xs := by
      rw [e1]
      exact h2.perm.map backV
    refine ⟨.ref d, upd H d (.lst (out.map backV)), I.laid (t' := s.toks) kp hd ⟨?_, out, n, vals_back h3, hn⟩, rfl, q _ d hb ?_ (I.hok.fresh hd)⟩
    · rw [hb.length_eq]
      exact hz
    · rw [List.pairwise_map]
      refine List.Pairwise.imp_of_mem (fun {v u} mv mu h n m fv fu => ?_) h1
      have h1 := fun1 _ _ _ fv (hk _ (mem_its v (h2.perm.mem_iff.mp mv)))
      have h2 := fun1 _ _ _ fu (hk _ (mem_its u (h2.perm.mem_iff.mp mu)))
      rw [h1, h2]
      have : ¬ (k (backV u) < k (backV v)) := of_decide_eq_false h
      omega
end
end L2
namespace Wp
open PySem L2 Evl StX
set_option autoImplicit false
section
variable {K : PySem.W.Frag} {ρ : List E} {te : TE} {QN : List D → Prop} {G : Hp}
abbrev fsD (p : Int × D) : D := .tup [.int p.1, p.2]
theorem fst_at {H : Hp} {v : V} {p : Int × D} (e : Ex G H) (h : Rp K G v (fsD p)) : Fst K H v p.1 := by
  cases h with
  | @tup a vs ds t r =>
    cases r with
    | cons r1 r =>
      cases r1
      cases r with
      | cons r2 r =>
      cases r
      exact ⟨_, _, rfl, ex_t e t⟩
theorem rpa_pwF {H : Hp} (e : Ex G H) : ∀ {ys : List V} {qs : List (Int × D)}, RpA K G ys (qs.map fsD) → ys.Pairwise (fun x y => ∀ n m, Fst K H x n → Fst K H y m → n ≤ m) → qs.Pairwise fun p q => p.1 ≤ q.1
  | ys, [], _, _ => .nil
  | ys, q :: qs, r, h => by
    cases r with
    | @cons v _ vs _ a b =>
      rw [List.pairwise_cons] at h ⊢
      refine ⟨fun q' hq' => ?_, rpa_pwF e b h.2⟩
      obtain ⟨i, hi⟩ := List.getElem?_of_mem hq'
      obtain ⟨v', hv', rv'⟩ := b.get (i := i) (d := fsD q') (by rw [List.getElem?_map, hi]; rfl)
      exact h.1 v' (List.mem_of_getElem? hv') _ _ (fst_at e a) (fst_at e rv')
theorem dn_sortF (h : DE K te ρ fun x => ∃ ps : List (Int × D), (x = .d (.lst (ps.map fsD)) ∨ x = .own (ps.map fsD)) ∧ (ps.map (·.1)).Nodup ∧
    ∀ qs : List (Int × D), qs.Perm ps → (qs.Pairwise fun p q => p.1 ≤ q.1) → QN (qs.map fsD)) : DN K (tCB (rSortF K) (tCons te tNil)) ρ QN := fun U σ L G o H j QH q =>
  h U σ L G o H j _ fun v H1 G1 j1 ⟨e1, x, sx, ps, hx, hnd, k⟩ => by
    obtain ⟨a, vs, rfl, hs, rr⟩ : ∃ a vs, v = .ref a ∧ SqL K H1 a vs ∧ RpA K G1 vs (ps.map fsD) := by
      rcases hx with rfl | rfl
      · cases (sx : Rp K G1 v (.lst (ps.map fsD))) with | lst a b => exact ⟨_, _, rfl, sq_of (j1.up _ _ a), b⟩
      · obtain ⟨a, vs, rfl, hm, b⟩ := sx; exact ⟨a, vs, rfl, sq_of (j1.at hm), b⟩
    refine ⟨a, vs, ps.map (·.1), rfl, hs, by rw [rr.len, List.length_map, List.length_map], fun i x n hx hn => ?_, hnd, fun ys p hp hpw hn => ?_⟩
    · obtain ⟨d, hd, hr⟩ := rr.at hx
      rw [List.getElem?_map] at hn hd
      obtain ⟨p, hp, rfl⟩ := Option.map_eq_some_iff.mp hn
      rw [hp] at hd
      cases hd
      exact fst_at j1.up hr
    · obtain ⟨fs, hfs, rf⟩ := rpa_perm hp rr
      obtain ⟨qs, hq, rfl⟩ := perm_of_map hfs.symm rfl
      exact q _ _ _ (j1.alloc hn) ⟨p, ys, _, G1, rfl, e1, j1.free hn, Ex.new (j1.free hn), upd_same, rf, k qs hq (rpa_pwF j1.up rf hpw)⟩
end
end Wp

set_option Elab.async false
set_option linter.all false
set_option maxRecDepth 100000
set_option maxHeartbeats 4000000
/-! sorted of a tuple of ints. -/
namespace SrtO
open PySem PyProof.Rows Srt
section
variable {prog : Program} {w : World} {A : Around} {E : Value → Shared → Prop} {s : Shared}
theorem collect_tup {l : Addr} {vs : List Value} {o : Obj} {n : Nat} {Q : List Value → Shared → Prop} (ho : s.heap.get? l = some o) (hc : o.cls = .type "tuple") (hd : o.data = .seq vs.toArray n)
    (h : Q vs { s with heap := (s.heap.push (seqObj "list" #[] 0)).update s.heap.objs.size (Obj.mapSeq (· ++ vs.toArray)) }) (hsz : vs.length ≤ sizeLine) :
    wpAny (model prog w) A (collect (.ref l)) Q E s := by
  unfold collect
  refine wpAny_bind (wpAny_runValue (codeAny_builtin entry_proto_collect' ?_))
  show wpAny _ _ (do again (.builtin "list.__iadd__" ⟨[← newList [], .ref l], []⟩)) _ _ s
  refine wpAny_bind (wpAny_newList (wpAny_pure ⟨Code.quiet_builtin _ (by decide +kernel), codeAny_builtin entry_list_iadd' ?_⟩))
  show wpAny _ _ (Builtin.List.listExtendWith (.ref s.heap.objs.size) (.ref l) (.ref s.heap.objs.size)) _ _ { s with heap := s.heap.push (seqObj "list" #[] 0) }
  unfold Builtin.List.listExtendWith
  have ho' : (s.heap.push (seqObj "list" #[] 0)).get? l = some o := Heap.get?_push_of_some _ ho
  refine wpAny_bind (wpAny_typeOf (T := "tuple") ⟨o, ho', hc⟩ ?_)
  have ht : (Value.type "tuple" == Value.type "tuple") = true := by rfl
  rw [if_pos (by rw [ht]; simp)]
  refine wpAny_bind (listItems_at ho' hd ?_)
  refine wpAny_bind (listItems_at (xs := #[]) (n := 0) (Heap.get?_push_size _ rfl) rfl ?_)
  rw [if_neg (by simp)]
  refine wpAny_bind (listUpdate_at (xs := #[]) (n := 0) (Heap.get?_push_size _ rfl) rfl ?_ (Nat.zero_le _) (by show (#[] ++ vs.toArray).size ≤ sizeLine + 1; simp only [Array.size_append, List.size_toArray, List.length_nil]; omega))
  refine wpAny_pure ?_
  show wpAny (model prog w) A (do
      let o ← load s.heap.objs.size
      match o.data with
      | .seq xs _ => pure xs.toList
      | _ => unsupported "internal:collect") Q E { s with heap := (s.heap.push (seqObj "list" #[] 0)).update s.heap.objs.size (Obj.mapSeq (· ++ vs.toArray)) }
  refine wpAny_bind (wpAny_load (get?_update_seq (Heap.get?_push_size _ rfl) _) ?_)
  show wpAny _ _ (pure ((#[] : Array Value) ++ vs.toArray).toList) Q E _
  rw [show ((#[] : Array Value) ++ vs.toArray).toList = vs by simp]
  exact wpAny_pure h
theorem sorted_ordT {l : Addr} {vs : List Value} {o : Obj} {n : Nat} {ltv : Value → Value → Bool} {Q : Value → Shared → Prop} (O : Swo ltv) (ho : s.heap.get? l = some o) (hc : o.cls = .type "tuple") (hd : o.data = .seq vs.toArray n) (hz : vs.length ≤ sizeLine)
    (hS : 2 ≤ vs.length → ∀ (h₁ : Heap) (a : Addr), h₁.get? a = some (seqObj "list" vs.toArray 0) → (∀ b o, s.heap.get? b = some o → b ≠ a ∧ h₁.get? b = some o) → SortableO prog w A.in1.in1 { s with heap := h₁ } a vs ltv)
    (h : ∀ out : List Value, Srtd ltv out → Stb ltv out vs → Q (.ref (s.heap.objs.size + 1)) { s with heap := sortedAll s.heap vs out.toArray }) :
    wpAny (model prog w) A (call (.builtin "sorted") [.ref l]) Q E s := by
  refine Calls.call_function_entry kind_sorted plain_sorted entry_sorted (args_sorted1 _) ?_
  unfold Builtin.«sorted»
  refine wpAny_bind (m := checkCount "sorted" 1 1 _) (wpAny_pure ?_)
  refine wpAny_bind (collect_tup ho hc hd ?_ hz)
  refine wpAny_bind (wpAny_newList ?_ hz)
  have hsz : ((s.heap.push (seqObj "list" #[] 0)).update s.heap.objs.size (Obj.mapSeq (· ++ vs.toArray))).objs.size = s.heap.objs.size + 1 := by
    rw [Heap.size_update, size_push']
  have hoL : (((s.heap.push (seqObj "list" #[] 0)).update s.heap.objs.size (Obj.mapSeq (· ++ vs.toArray))).push (seqObj "list" vs.toArray 0)).get? (s.heap.objs.size + 1) = some (seqObj "list" vs.toArray 0) := by
    rw [← hsz]; exact Heap.get?_push_size _ rfl
  have keep : ∀ b o, s.heap.get? b = some o → b ≠ s.heap.objs.size + 1 ∧ (((s.heap.push (seqObj "list" #[] 0)).update s.heap.objs.size (Obj.mapSeq (· ++ vs.toArray))).push (seqObj "list" vs.toArray 0)).get? b = some o := fun b o q => by
    have hlt : b < s.heap.objs.size := Heap.lt_size q
    refine ⟨Nat.ne_of_lt (Nat.lt_succ_of_lt hlt), Heap.get?_push_of_some _ ?_⟩
    rw [Heap.get?_update_ne _ _ _ _ (Nat.ne_of_lt hlt)]
    exact Heap.get?_push_of_some _ q
  show wpAny _ _ _ _ _ { s with heap := ((s.heap.push (seqObj "list" #[] 0)).update s.heap.objs.size (Obj.mapSeq (· ++ vs.toArray))).push (seqObj "list" vs.toArray 0) }
  rw [hsz]
  refine wpAny_bind (wpAny_holding (wpAny_call_entry slot_list_sort ⟨_, hoL, rfl⟩ entry_list_sort (list_sort_ord O hoL hz (fun h2 => hS h2 _ _ hoL keep) fun out hs hb => ⟨_, rfl, ?_⟩) (args_list_sort _)))
  exact wpAny_pure ⟨_, rfl, h out hs hb⟩
end
end SrtO
namespace L2
open PySem PySem.Spec PyProof.Rows
def rSortTI (K : PySem.W.Frag) : List V → Hp → VK → Prop := fun vs H Q => ∃ (a : Addr) (ns : List Int), vs = [V.ref a] ∧ SqT K H a (ns.map V.int) ∧ ∀ (ns' : List Int) (p : Addr), ns'.Perm ns → ns'.Pairwise (· ≤ ·) → H p = none → Q (.ref p) (upd H p (.lst (ns'.map V.int)))
section
variable {X : Cx}
theorem cr_sortTI {K : PySem.W.Frag} (h : X.K = K := by rfl) : CallR X (.builtin "sorted") (rSortTI K) := by
  subst h
  intro pins s σ H vs us Q I r h
  obtain ⟨a, ns, rfl, hs, q⟩ := h
  obtain ⟨its, rv, ⟨o, ho, hc, n, hd⟩, hz⟩ := I.tuple hs
  obtain ⟨u, rfl, ru⟩ := vals1 r
  obtain rfl : u = Value.ref a := ru
  have hi := rv.ints
  refine SrtO.sorted_ordT SrtO.swo_int ho hc hd (by rw [← rv.length]; exact hz) (fun h2 h₁ a' _ _ => SrtO.ints_sortable hi h2) fun out h1 h2 => ?_
  obtain ⟨k1, k2, k3⟩ := SrtO.ints_out hi h1 h2
  obtain ⟨ep, he'⟩ := PyProof.Rows.sortedAll_at s.heap its out.toArray
  have hlen : ((out.map SrtO.iv).map V.int).length ≤ sizeLine := by
    rw [List.length_map, k2.length_eq]
    rw [List.length_map] at hz
    exact hz
  exact ⟨.ref _, upd H (s.heap.objs.size + 1) (.lst ((out.map SrtO.iv).map V.int)), I.laid (t' := s.toks) (fun _ _ => PyProof.Rows.sortedAll_old) (Nat.le_succ _) ⟨hlen, _, ep, vals_of_ints k1, he'⟩, rfl, q _ _ k2 k3 (I.hok.fresh (Nat.le_succ _))⟩
end
end L2
namespace Wp
open PySem L2 Evl StX
set_option autoImplicit false
section
variable {K : PySem.W.Frag} {ρ : List E} {te : TE} {QN : List D → Prop}
theorem dc_gE {α : Type} {args : α → List D} {pre : α → Prop} {res : α → D} {ds : List D} {Q : E → Prop} (x : α) (h : ds = args x) (p : pre x) {d : D} (hd : res x = d) (k : Q (.d d)) : DC K (spG K args pre res) ds Q := by subst hd; exact dc_g x h p k
theorem dn_sortTI (h : DE K te ρ fun x => ∃ ns : List Int, x = .d (.tup (ns.map D.int)) ∧ ∀ qs : List Int, qs.Perm ns → (qs.Pairwise fun p q => p ≤ q) → QN (qs.map D.int)) : DN K (tCB (rSortTI K) (tCons te tNil)) ρ QN := fun U σ L G o H j QH q =>
  h U σ L G o H j _ fun v H1 G1 j1 ⟨e1, x, sx, ns, hx, k⟩ => by
    subst hx
    cases (sx : Rp K G1 v (.tup (ns.map D.int))) with
    | @tup a vs ds t r =>
      have : vs = ns.map V.int := by
        have aux : ∀ (ns : List Int) (vs : List V), RpA K G1 vs (ns.map D.int) → vs = ns.map V.int := fun ns => by
          induction ns with
          | nil => intro vs r; cases r; rfl
          | cons n ns ih =>
            intro vs r
            cases r with
            | cons a b => cases a; rw [ih _ b]; rfl
        exact aux _ _ r
      subst this
      refine ⟨a, ns, rfl, ex_t j1.up t, fun ys p hp hpw hn => ?_⟩
      have rr : RpA K G1 (ys.map V.int) (ys.map D.int) := by
        clear hp hpw
        induction ys with
        | nil => exact .nil
        | cons y ys ih => exact .cons (.int y) ih
      exact q _ _ _ (j1.alloc hn) ⟨p, _, _, G1, rfl, e1, j1.free hn, Ex.new (j1.free hn), upd_same, rr, k ys hp hpw⟩
end
end Wp

set_option Elab.async false
set_option linter.all false
set_option maxRecDepth 100000
set_option maxHeartbeats 4000000
/-! A datum with own things at addresses that it tells (a Node and its two lists). -/
namespace Wp
open PySem L2 Evl StX
set_option autoImplicit false
section
variable {K : PySem.W.Frag} {ρ : List E} {te tv tx : TE} {ta tas : TA} {ts : TS} {N B C : List E → Prop} {Rr : D → Prop} {Q : E → Prop} {ad : Option Addr}
theorem OwsA.mono {L L' : Ow} {G G' : Hp} {ws : List (Addr × OD)} (h : OwsA K L G ws) (x : Ex G G') (hl : ∀ p ∈ ws, ∀ u, (p.1, u) ∈ L → (p.1, u) ∈ L') : OwsA K L' G' ws := fun p hp => let ⟨o, h1, h2⟩ := h p hp; ⟨o, hl p hp _ h1, h2.mono x⟩
theorem de_ndv {i : Nat} {d : D} {ws : List (Addr × OD)} (hi : ρ[i]? = some (.nd ad d ws)) (k : Q (.d d)) : DE K (tVar i) ρ Q := fun U σ L G o H j QH q => by
  obtain ⟨v, h1, _, h2, _⟩ := o.at hi rfl
  exact ⟨v, h1, q v H G j ⟨Ex.refl G, .d d, h2, k⟩⟩
/-- the first of the own things is a list: an item behind it -/
theorem nd_split {U : Vx} {σ : L2.St} {L : Ow} {G : Hp} (o : EnvOk K U ρ σ L G) {i : Nat} {d : D} {ws : List (Addr × OD)} (hi : ρ[i]? = some (.nd ad d ws)) : ∃ v, σ[i]? = some (some v) ∧ Rp K G v d ∧ OwsA K L G ws ∧ (ws.map (·.1)).Nodup ∧
    ∀ L' G' ws', Ex G G' → CeK L L' → (∀ a u, a ∉ ws.map (·.1) → (a, u) ∈ L → (a, u) ∈ L') → LOk U L' → OwsA K L' G' ws' → ws'.map (·.1) = ws.map (·.1) → EnvOk K U (ρ.set i (.nd ad d ws')) σ L' G' := by
  obtain ⟨v, F, h1, h2, h3, h4⟩ := o.upd hi rfl
  cases h2 with
  | nd ha r q => exact ⟨v, h1, r, q, h3, fun L' G' ws' x hc hl lo hq he => h4 L' G' (.nd ad d ws') (ws'.map (·.1)) x hc hl lo (.nd ha (r.mono x) hq) (by rw [he]; exact h3) fun a ha => .inl (by rw [← he]; exact ha)⟩
def setW (p : Addr) (w : OD) (ws : List (Addr × OD)) : List (Addr × OD) := ws.map fun q => if q.1 = p then (p, w) else q
theorem setW_fst {p : Addr} {w : OD} {ws : List (Addr × OD)} : (setW p w ws).map (·.1) = ws.map (·.1) := by
  unfold setW
  rw [List.map_map]
  refine List.map_congr_left fun q _ => ?_
  show (if q.1 = p then (p, w) else q).1 = q.1
  split
  · rename_i h; exact h.symm
  · rfl
theorem ows_set {L : Ow} {G : Hp} {ws : List (Addr × OD)} {p : Addr} {w : OD} {u u0 : HO} (h : OwsA K L G ws) (hm : (p, HI.ex u0) ∈ L) (hw : ODr K G w u) : OwsA K (setO p (.ex u) L) G (setW p w ws) := fun q hq => by
  obtain ⟨q0, hq0, e⟩ := List.mem_map.mp hq
  by_cases z : q0.1 = p
  · rw [if_pos z] at e; subst e; exact ⟨u, mem_setO_self hm, hw⟩
  · rw [if_neg z] at e; subst e
    obtain ⟨o, h1, h2⟩ := h q0 hq0
    exact ⟨o, mem_setO z h1, h2⟩
theorem ds_appendN {i : Nat} (h : ∃ d ws, ρ[i]? = some (.nd ad d ws) ∧ DE K te ρ fun y => ∃ p, y = .d (.adr p) ∧ ∃ ds, (p, OD.lst ds) ∈ ws ∧ DE K tx ρ fun e => DD e fun x => ds.length < sizeLine ∧ SetTo ρ i (.nd ad d (setW p (.lst (ds ++ [x])) ws)) N) : DS K (tDrop (tBM K "list" rAppend te (tCons tx tNil))) ρ N B C Rr := fun U σ L G Dn o n b c r H j => by
  obtain ⟨d, ws, hi, h⟩ := h
  refine h U σ L G o H j _ fun y H1 G1 j1 ⟨e1, y', sy, p, ey, ds, hp, h⟩ => ?_
  subst ey
  cases (sy : Rp K G1 y (.adr p))
  have o1 := o.mono e1
  obtain ⟨v, h3, _, q, _, _⟩ := nd_split o1 hi
  obtain ⟨u, hm, hu⟩ := q _ hp
  cases hu with
  | @lst vs _ k =>
    obtain ⟨n1, n2, _⟩ := o1.lo.nm _ hm
    refine ⟨.inl ⟨rfl, vs, sq_of (j1.at hm)⟩, h U σ L G1 o1 H1 j1 _ fun x H2 G2 j2 ⟨e2, x', sx, dx, ex, hz, ρ', hr, kn⟩ => ⟨p, vs, x, rfl, rfl, j2.at hm, by rw [k.len]; exact hz, ?_⟩⟩
    subst ex hr
    have o2 := o1.mono e2
    obtain ⟨v2, h32, _, q2, _, hup⟩ := nd_split o2 hi
    exact n _ _ _ _ kn (hup _ _ _ (Ex.refl _) (fun b I hb => mem_setO (o2.lo.nce hb hm) hb) (fun b w nb hb => mem_setO (fun z => nb (by rw [z]; exact List.mem_map.mpr ⟨_, hp, rfl⟩)) hb) (o2.lo.setO _ _) (ows_set q2 hm (.lst ((RpA.one sx).app (k.mono e2)))) setW_fst) (e1.trans e2) _ (j2.chg hm rfl n1 n2)
/-! ### a thing is shown -/
def OD.toD : OD → D
  | .ins C ks ds => .obj C ks ds
  | .dct ks ds => .dct ks ds
  | .lst ds => .lst ds
  | .tab _ => .non
def OD.isTab : OD → Bool
  | .tab _ => true
  | _ => false
theorem odr_rp {F : Hp} {a : Addr} {w : OD} {u : HO} (nt : w.isTab = false) (h : ODr K F w u) (hF : F a = some u) : Rp K F (.ref a) w.toD := by
  cases h with
  | ins e b => exact .obj hF e b
  | dct e n b => exact .dct (.inl hF) e n b
  | lst b => exact .lst hF b
  | tab a b => cases nt
/-- what one step of showing needs -/
def ShowD (K : PySem.W.Frag) (d : D) (p : Addr) (w : OD) (d' : D) : Prop := w.isTab = false ∧ ∀ F v, Rp K F v d → Rp K F (.ref p) w.toD → Rp K F v d'
theorem nd_show1 {U : Vx} {σ : L2.St} {L : Ow} {G H : Hp} (o : EnvOk K U ρ σ L G) (j : J (U.hides L) H G) {i : Nat} {d d' : D} {p : Addr} {w : OD} {ws : List (Addr × OD)} (hi : ρ[i]? = some (.nd ad d ((p, w) :: ws))) (sh : ShowD K d p w d') :
    ∃ u, (p, HI.ex u) ∈ L ∧ G p = none ∧ EnvOk K U (ρ.set i (.nd ad d' ws)) σ (L.filter fun q => decide (q.1 ≠ p)) (upd G p u) ∧ J (U.hides (L.filter fun q => decide (q.1 ≠ p))) H (upd G p u) := by
  obtain ⟨v, F, h1, h2, h3, h4⟩ := o.upd hi rfl
  cases h2 with
  | nd ha r q =>
    obtain ⟨u, hm, hu⟩ := q _ List.mem_cons_self
    have na : G p = none := (j.msk p (.inr ⟨_, hm⟩)).1
    obtain ⟨n1, n2, n3⟩ := o.lo.nm _ hm
    have e := Ex.new (o := u) na
    rw [List.map_cons, List.nodup_cons] at h3
    refine ⟨u, hm, na, h4 _ _ _ (ws.map (·.1)) e (fun b I hb => List.mem_filter.mpr ⟨hb, by simpa using o.lo.nce hb hm⟩) (fun b w' nb hb => List.mem_filter.mpr ⟨hb, by
      have : b ≠ p := fun z => nb (by rw [z]; exact List.mem_cons_self)
      simpa using this⟩) (o.lo.filter _) (.nd ha (sh.2 _ _ (r.mono e) (odr_rp sh.1 (hu.mono e) upd_same)) fun p' hp' => ?_) h3.2 (fun a ha => .inl (List.mem_cons_of_mem _ ha)), j.show hm n1 n2⟩
    obtain ⟨o', h5, h6⟩ := q p' (List.mem_cons_of_mem _ hp')
    refine ⟨o', List.mem_filter.mpr ⟨h5, ?_⟩, h6.mono e⟩
    have : p'.1 ≠ p := fun z => h3.1 (by rw [← z]; exact List.mem_map.mpr ⟨p', hp', rfl⟩)
    simpa using this
theorem ds_ndShow (i : Nat) {d d' : D} {p : Addr} {w : OD} {ws : List (Addr × OD)} {ρ' : List E} (hi : ρ[i]? = some (.nd ad d ((p, w) :: ws))) (sh : ShowD K d p w d') (hr : ρ.set i (.nd ad d' ws) = ρ') (h : DS K ts ρ' N B C Rr) : DS K ts ρ N B C Rr := fun U σ L G Dn o n b c r H j => by
  obtain ⟨u, hm, na, o', j'⟩ := nd_show1 o j hi sh
  subst hr
  have e := Ex.new (o := u) na
  exact h U σ _ _ Dn o' (n.mono e) (b.mono e) (c.mono e) (r.mono e) H j'
theorem nd_done {U : Vx} {σ : L2.St} {L : Ow} {G : Hp} (o : EnvOk K U ρ σ L G) {i : Nat} {d : D} (hi : ρ[i]? = some (.nd ad d [])) : EnvOk K U (ρ.set i (.d d)) σ L G := by
  obtain ⟨v, F, h1, h2, h3, h4⟩ := o.upd hi rfl
  cases h2 with
  | nd ha r q => exact h4 L G (.d d) [] (Ex.refl G) (fun _ _ h => h) (fun _ _ _ h => h) o.lo (.d r) List.nodup_nil (fun a ha => by cases ha)
theorem ds_ndDone (i : Nat) {d : D} {ρ' : List E} (hi : ρ[i]? = some (.nd ad d [])) (hr : ρ.set i (.d d) = ρ') (h : DS K ts ρ' N B C Rr) : DS K ts ρ N B C Rr := fun U σ L G Dn o n b c r H j => by
  subst hr
  exact h U σ L G Dn (nd_done o hi) n b c r H j
/-! ### lists lent for one expression -/
mutual
def noK : D → Bool
  | .non => true
  | .bl _ => true
  | .int _ => true
  | .str _ => true
  | .lst _ => false
  | .tup ds => noKs ds
  | .obj _ _ ds => noKs ds
  | .dct _ ds => noKs ds
  | .adr _ => true
def noKs : List D → Bool
  | [] => true
  | d :: ds => noK d && noKs ds
end
theorem rp_woK {F : Hp} {a : Addr} {ws : List V} (h : F a = some (.lst ws)) : ∀ (d : D) (v : V), noK d = true → Rp K F v d → Rp K (wo a F) v d
  | .non, v, _, r => by cases r; exact .non
  | .bl b, v, _, r => by cases r; exact .bl b
  | .int b, v, _, r => by cases r; exact .int b
  | .str b, v, _, r => by cases r; exact .str b
  | .lst ds, v, n, r => by cases n
  | .tup ds, v, n, r => by
    cases r with
    | tup x b =>
      refine .tup ?_ (all ds _ n b)
      rcases x with (x | ⟨o, x⟩) | x
      · exact .inl (.inl (by rw [wo_ne (fun z => by rw [z, h] at x; cases x)]; exact x))
      · exact .inl (.inr ⟨o, by rw [wo_ne (fun z => by rw [z, h] at x; cases x)]; exact x⟩)
      · exact .inr x
  | .obj C ks ds, v, n, r => by
    cases r with
    | obj x k b => exact .obj (by rw [wo_ne (fun z => by rw [z, h] at x; cases x)]; exact x) k (all ds _ n b)
  | .dct ks ds, v, n, r => by
    cases r with
    | dct x k nd b =>
      refine .dct ?_ k nd (all ds _ n b)
      rcases x with x | ⟨o, x⟩
      · exact .inl (by rw [wo_ne (fun z => by rw [z, h] at x; cases x)]; exact x)
      · exact .inr ⟨o, by rw [wo_ne (fun z => by rw [z, h] at x; cases x)]; exact x⟩
  | .adr a, v, _, r => by cases r; exact .adr a
where
  all : ∀ (ds : List D) (vs : List V), noKs ds = true → RpA K F vs ds → RpA K (wo a F) vs ds
  | [], vs, _, r => by cases r; exact .nil
  | d :: ds, vs, n, r => by
    have n1 : (noK d && noKs ds) = true := n
    rw [Bool.and_eq_true] at n1
    cases r with | cons x b => exact .cons (rp_woK h d _ n1.1 x) (all ds _ n1.2 b)
theorem de_lend1 (i : Nat) {d d' : D} {p : Addr} {ds : List D} {ws : List (Addr × OD)} {ρ' : List E} (hi : ρ[i]? = some (.nd ad d ((p, .lst ds) :: ws))) (sh : ShowD K d p (.lst ds) d') (hr : ρ.set i (.nd ad d' ws) = ρ') (h : DE K te ρ' fun y => ∃ x, y = .d x ∧ noK x = true ∧ Q (.d x)) : DE K te ρ Q := fun U σ L G o H j QH q => by
  obtain ⟨u, hm, na, o', j'⟩ := nd_show1 o j hi sh
  obtain ⟨_, _, _, hq, _⟩ := nd_split o hi
  obtain ⟨u', hm', hu'⟩ := hq _ List.mem_cons_self
  cases (HI.ex.inj (o.lo.fn _ _ _ hm hm'))
  cases hu' with
  | @lst vs _ k =>
    obtain ⟨n1, n2, n3⟩ := o.lo.nm _ hm
    subst hr
    refine h U σ _ _ o' H j' QH fun v H1 G1 j1 ⟨e1, y, sy, x, ey, nd, k2⟩ => ?_
    have g1 : G1 p = some (.lst vs) := e1 _ _ upd_same
    have j2 := (j1.own (I := .ex (.lst vs)) g1 rfl n3).same (own_back o.lo hm)
    subst ey
    exact q _ _ _ j2 ⟨woEx na ((Ex.new na).trans e1), .d x, rp_woK g1 x v nd sy, k2⟩
theorem de_lendDone (i : Nat) {d : D} {ρ' : List E} (hi : ρ[i]? = some (.nd ad d [])) (hr : ρ.set i (.d d) = ρ') (h : DE K te ρ' Q) : DE K te ρ Q := fun U σ L G o H j QH q => by
  subst hr
  exact h U σ L G (nd_done o hi) H j QH q
end
end Wp

set_option Elab.async false
set_option linter.all false
set_option maxRecDepth 100000
set_option maxHeartbeats 4000000
/-! Defs that change two own things of a datum, with cells besides. -/
namespace Wp
open PySem L2 Evl StX
set_option autoImplicit false
section
variable {K : PySem.W.Frag} {ρ : List E} {te tv tx : TE} {ta tas : TA} {ts : TS} {N B C : List E → Prop} {Rr : D → Prop} {Q : E → Prop} {ad : Option Addr}
theorem ds_oaNd (i : Nat) {a : Addr} {w : OD} {ρ' : List E} (hi : ρ[i]? = some (.oa a w)) (hr : ρ.set i (.nd (some a) (.adr a) [(a, w)]) = ρ') (h : DS K ts ρ' N B C Rr) : DS K ts ρ N B C Rr := fun U σ L G Dn o n b c r H j => by
  obtain ⟨v, F, h1, h2, h3, h4⟩ := o.upd hi rfl
  subst hr
  cases h2 with
  | oa m r0 => exact h U σ L G Dn (h4 L G (.nd (some a) (.adr a) [(a, w)]) [a] (Ex.refl G) (fun _ _ h => h) (fun _ _ _ h => h) o.lo (.nd (fun b hb => by cases hb; rfl) (.adr a) fun p hp => by rw [List.mem_singleton.mp hp]; exact ⟨_, m, r0⟩) (by simp) (fun b hb => .inl hb)) n b c r H j
theorem dsx_oaNd {R : D → List E → Prop} (i : Nat) {a : Addr} {w : OD} {ρ' : List E} (hi : ρ[i]? = some (.oa a w)) (hr : ρ.set i (.nd (some a) (.adr a) [(a, w)]) = ρ') (h : DSX K ts ρ' N R) : DSX K ts ρ N R := fun U σ L G Dn o n r H j => by
  obtain ⟨v, F, h1, h2, h3, h4⟩ := o.upd hi rfl
  subst hr
  cases h2 with
  | oa m r0 => exact h U σ L G Dn (h4 L G (.nd (some a) (.adr a) [(a, w)]) [a] (Ex.refl G) (fun _ _ h => h) (fun _ _ _ h => h) o.lo (.nd (fun b hb => by cases hb; rfl) (.adr a) fun p hp => by rw [List.mem_singleton.mp hp]; exact ⟨_, m, r0⟩) (by simp) (fun b hb => .inl hb)) n r H j
theorem dsx_ndShow {R : D → List E → Prop} (i : Nat) {d d' : D} {p : Addr} {w : OD} {ws : List (Addr × OD)} {ρ' : List E} (hi : ρ[i]? = some (.nd ad d ((p, w) :: ws))) (sh : ShowD K d p w d') (hr : ρ.set i (.nd ad d' ws) = ρ') (h : DSX K ts ρ' N R) : DSX K ts ρ N R := fun U σ L G Dn o n r H j => by
  obtain ⟨u, hm, na, o', j'⟩ := nd_show1 o j hi sh
  subst hr
  have e := Ex.new (o := u) na
  exact h U σ _ _ Dn o' (n.mono e) (r.mono e) H j'
/-- self.f = [] -/
theorem ds_fldNew {i : Nat} {f : Str} (h : ∃ a Cc ks ds ws, ρ[i]? = some (.nd ad (.adr a) ((a, .ins Cc ks ds) :: ws)) ∧ Cls K Cc ∧ NoAttr K Cc f ∧ f ∉ ks ∧ ks.length = ds.length ∧ ks.length < 999 ∧ ∀ p, SetTo ρ i (.nd ad (.adr a) ((a, .ins Cc (ks ++ [f]) (ds ++ [.adr p])) :: (ws ++ [(p, .lst [])]))) N) : DS K (sFld K (tVar i) (tLst tNil) f) ρ N B C Rr := fun U σ L G Dn o n b c r H j => by
  obtain ⟨a, Cc, ks, ds, ws, hi, cl, na, hf, hkd, hl, hN⟩ := h
  refine ⟨Nat.zero_le _, fun p hp => ?_⟩
  obtain ⟨ρ', hr, kn⟩ := hN p
  subst hr
  obtain ⟨v, F, h1, h2, h3, h4⟩ := o.upd hi rfl
  cases h2 with
  | nd ha0 r0 q =>
    cases r0
    obtain ⟨u, hm, hu⟩ := q _ List.mem_cons_self
    cases hu with
    | @ins _ dx fvs _ _ e bb =>
      subst e
      have gp : G p = none := j.free hp
      have up : U.Ge p = none := none_of_ex o.ge gp
      have hep : U.He p = none := none_of_ex j.keep hp
      have mp : ¬ U.m p := fun z => (j.msk p (.inl z)).2 hp
      have lp : ∀ u, (p, u) ∉ L := fun u z => (j.msk p (.inr ⟨u, z⟩)).2 hp
      have npa : p ≠ a := fun z => lp _ (z ▸ hm)
      obtain ⟨n1, n2, n3⟩ := o.lo.nm _ hm
      have j2 := (j.alloc (o := .lst []) hp).own (p := p) (I := .ex (.lst [])) upd_same rfl up
      have eg : Ex G (wo p (upd G p (.lst []))) := woEx gp (Ex.new gp)
      have lo2 := (o.lo.cons (o := HI.ex (.lst [])) lp mp hep up)
      have hm2 : (a, HI.ex (.ins Cc dx fvs)) ∈ (p, HI.ex (.lst [])) :: L := List.mem_cons_of_mem _ hm
      have j3 := j2.chg (o := .ins Cc dx (putF f (.ref p) fvs)) (I := .ex (.ins Cc dx (putF f (.ref p) fvs))) hm2 rfl n1 n2
      refine ⟨.ref a, h1, a, Cc, dx, fvs, rfl, by rw [upd_ne (Ne.symm npa)]; exact j.at hm, cl, na, by rw [List.length_map] at hl; omega, ?_⟩
      obtain ⟨p1, p2⟩ := put_of (f := f) (d := .adr p) (v := .ref p) (.adr p) (bb.mono eg)
      have hz : putD f (.adr p) ((fvs.map (·.1)).zip ds) = (fvs.map (·.1) ++ [f]).zip (ds ++ [.adr p]) := putD_new hf hkd
      rw [hz, List.map_fst_zip (by rw [List.length_append, List.length_append, hkd]; exact Nat.le_refl _)] at p1
      rw [hz, List.map_snd_zip (by rw [List.length_append, List.length_append, hkd]; exact Nat.le_refl _)] at p2
      rw [List.map_cons, List.nodup_cons] at h3
      refine n _ _ _ _ kn (h4 _ _ _ (a :: (ws.map (·.1) ++ [p])) eg (fun b I hb => mem_setO (o.lo.nce hb hm) (List.mem_cons_of_mem _ hb)) (fun b w nb hb => mem_setO (fun z => nb (by rw [z]; exact List.mem_cons_self)) (List.mem_cons_of_mem _ hb)) (lo2.setO _ _) ?_ ?_ ?_) eg _ j3
      · have := Sv.nd (K := K) (U := U) (ad := ad) (L := setO a (.ex (.ins Cc dx (putF f (.ref p) fvs))) ((p, HI.ex (.lst [])) :: L)) (G := wo p (upd G p (.lst []))) (d := .adr a) (v := .ref a) (ws := (a, .ins Cc (fvs.map (·.1) ++ [f]) (ds ++ [.adr p])) :: (ws ++ [(p, .lst [])])) ha0 (.adr a) fun q' hq' => by
          rcases List.mem_cons.mp hq' with rfl | hq'
          · exact ⟨_, mem_setO_self hm2, .ins p1 p2⟩
          rcases List.mem_append.mp hq' with hq' | hq'
          · obtain ⟨o', h5, h6⟩ := q q' (List.mem_cons_of_mem _ hq')
            exact ⟨o', mem_setO (fun z => h3.1 (by rw [← z]; exact List.mem_map.mpr ⟨q', hq', rfl⟩)) (List.mem_cons_of_mem _ h5), h6.mono eg⟩
          · rw [List.mem_singleton.mp hq']
            exact ⟨_, mem_setO npa List.mem_cons_self, .lst .nil⟩
        rw [List.map_cons, List.map_append] at this
        exact this
      · rw [List.nodup_cons]
        refine ⟨fun z => ?_, List.nodup_append.mpr ⟨h3.2, by simp, fun x hx y hy z => ?_⟩⟩
        · rcases List.mem_append.mp z with z | z
          · exact h3.1 z
          · exact npa (List.mem_singleton.mp z).symm
        · rw [List.mem_singleton.mp hy] at z
          subst z
          obtain ⟨q', hq', rfl⟩ := List.mem_map.mp hx
          obtain ⟨o', h5, _⟩ := q q' (List.mem_cons_of_mem _ hq')
          exact lp _ h5
      · intro b hb
        rcases List.mem_cons.mp hb with rfl | hb
        · exact .inl List.mem_cons_self
        rcases List.mem_append.mp hb with hb | hb
        · exact .inl (List.mem_cons_of_mem _ hb)
        · rw [List.mem_singleton.mp hb]; exact .inr lp
end
end Wp

set_option Elab.async false
set_option linter.all false
set_option maxRecDepth 100000
set_option maxHeartbeats 4000000
/-! Defs that change own things that are handed to them, with cells besides. -/
namespace Wp
open PySem L2 Evl StX
set_option autoImplicit false
section
variable {K : PySem.W.Frag} {ρ : List E} {te tv tx : TE} {ta tas : TA} {ts t1 t2 : TS} {N B C : List E → Prop} {Rr : D → Prop} {Q : E → Prop} {ad : Option Addr}
/-! ### many at once -/
def chgL (A : List Addr) (f : Addr → HO) (L : Ow) : Ow := L.map fun e => if e.1 ∈ A then (e.1, HI.ex (f e.1)) else e
def chgH (A : List Addr) (f : Addr → HO) (H : Hp) : Hp := fun a => if a ∈ A then some (f a) else H a
section
variable {A : List Addr} {f : Addr → HO} {L : Ow} {H G : Hp} {U : Vx}
theorem chgL_in {a : Addr} {u : HI} (h : a ∈ A) (hm : (a, u) ∈ L) : (a, HI.ex (f a)) ∈ chgL A f L := List.mem_map.mpr ⟨_, hm, if_pos h⟩
theorem chgL_out {a : Addr} {u : HI} (h : a ∉ A) (hm : (a, u) ∈ L) : (a, u) ∈ chgL A f L := List.mem_map.mpr ⟨_, hm, if_neg h⟩
theorem chgL_mem {a : Addr} {u : HI} (h : (a, u) ∈ chgL A f L) : (a ∈ A ∧ u = .ex (f a) ∧ ∃ u0, (a, u0) ∈ L) ∨ (a ∉ A ∧ (a, u) ∈ L) := by
  obtain ⟨p, hp, e⟩ := List.mem_map.mp h
  by_cases z : p.1 ∈ A
  · rw [if_pos z] at e; cases e; exact .inl ⟨z, rfl, p.2, hp⟩
  · rw [if_neg z] at e; subst e; exact .inr ⟨z, hp⟩
theorem LOk.chgs (lo : LOk U L) : LOk U (chgL A f L) := ⟨fun p hp => by
  rcases chgL_mem (a := p.1) (u := p.2) hp with ⟨_, _, u0, h⟩ | ⟨_, h⟩
  · exact lo.nm (p.1, u0) h
  · exact lo.nm _ h, fun a x y h1 h2 => by
  rcases chgL_mem h1 with ⟨a1, e1, _⟩ | ⟨n1, h1⟩ <;> rcases chgL_mem h2 with ⟨a2, e2, _⟩ | ⟨n2, h2⟩
  · rw [e1, e2]
  · exact absurd a1 n2
  · exact absurd a2 n1
  · exact lo.fn a x y h1 h2⟩
theorem chgH_in {a : Addr} (h : a ∈ A) : chgH A f H a = some (f a) := if_pos h
theorem chgH_out {a : Addr} (h : a ∉ A) : chgH A f H a = H a := if_neg h
theorem J.chgs (lo : LOk U L) (hA : ∀ a ∈ A, ∃ u, (a, HI.ex u) ∈ L) (j : J (U.hides L) H G) : J (U.hides (chgL A f L)) (chgH A f H) G where
  up := fun b u e => by
    have : b ∉ A := fun z => by obtain ⟨u', hu⟩ := hA b z; rw [(j.msk b (.inr ⟨_, hu⟩)).1] at e; cases e
    rw [chgH_out this]; exact j.up b u e
  keep := fun b u e => by
    have : b ∉ A := fun z => by obtain ⟨u', hu⟩ := hA b z; rw [show (U.hides (chgL A f L)).He b = none from (lo.nm _ hu).2.1] at e; cases e
    rw [chgH_out this]; exact j.keep b u e
  new := j.new
  hid := ⟨U.st H _ j.hid.1 fun b mb => chgH_out fun z => by obtain ⟨u', hu⟩ := hA b z; exact (lo.nm _ hu).1 mb, fun p hp => by
    rcases chgL_mem (a := p.1) (u := p.2) hp with ⟨h1, h2, _⟩ | ⟨h1, h2⟩
    · rw [h2, chgH_in h1]; exact ⟨_, rfl, rfl⟩
    · rw [chgH_out h1]; exact j.hid.2 _ h2⟩
  msk := fun b mb => by
    have k : (U.hides L).m b → G b = none ∧ chgH A f H b ≠ none := fun m => by
      obtain ⟨q1, q2⟩ := j.msk b m
      refine ⟨q1, ?_⟩
      by_cases z : b ∈ A
      · rw [chgH_in z]; exact fun q => by cases q
      · rw [chgH_out z]; exact q2
    rcases mb with mb | ⟨us, hu⟩
    · exact k (.inl mb)
    · rcases chgL_mem hu with ⟨_, _, u0, h⟩ | ⟨_, h⟩
      · exact k (.inr ⟨_, h⟩)
      · exact k (.inr ⟨_, h⟩)
end
/-! ### the promise -/
def spW {α : Type} (K : PySem.W.Frag) (args : α → List D) (own : α → List (Addr × OD)) (cells : α → Ce) (pre : α → Prop) (R : α → D → List (Addr × OD) → Prop) : Sp := fun vs H Q _ => ∃ (x : α) (G : Hp), ((own x).map (·.1)).Nodup ∧ (∀ p ∈ own x, G p.1 = none ∧ ∃ u, H p.1 = some u ∧ ODr K G p.2 u) ∧
  CellsAt H (cells x) ∧ (∀ c ∈ cells x, G c.1 = none ∧ c.1 ∉ (own x).map (·.1)) ∧ CFn (cells x) ∧ Ex G H ∧ RpA K G vs (args x) ∧ pre x ∧
  ∀ v d ws' H' G', (∀ y u, y ∉ (own x).map (·.1) → (∀ c ∈ cells x, y ≠ c.1) → H y = some u → H' y = some u) → ws'.map (·.1) = (own x).map (·.1) → (∀ p ∈ ws', ∃ u, H' p.1 = some u ∧ ODr K G' p.2 u) → CellsAt H' (cells x) → Ex G G' → Ex G' H' → (∀ b, G' b ≠ none → G b = none → H b = none) → (∀ p ∈ own x, G' p.1 = none) → (∀ c ∈ cells x, G' c.1 = none) → R x d ws' → Rp K G' v d → Q v H'
def DEX (K : PySem.W.Frag) (te : TE) (ρ : List E) (Q : E → List E → Prop) : Prop := ∀ U σ L G, EnvOk K U ρ σ L G → ∀ H, J (U.hides L) H G → ∀ QH : VK, (∀ v e ρ' L' H' G', Q e ρ' → EnvOk K U ρ' σ L' G' → Ex G G' → SlotV K U L' G' e v → J (U.hides L') H' G' → QH v H') → te σ H QH
def DAX (K : PySem.W.Frag) (ta : TA) (ρ : List E) (Q : List D → List E → Prop) : Prop := ∀ U σ L G, EnvOk K U ρ σ L G → ∀ H, J (U.hides L) H G → ∀ QH : List V → Hp → Prop, (∀ vs ds ρ' L' H' G', Q ds ρ' → EnvOk K U ρ' σ L' G' → Ex G G' → RpA K G' vs ds → J (U.hides L') H' G' → QH vs H') → ta σ H QH
theorem dex_de {Q : E → List E → Prop} (h : DE K te ρ fun e => Q e ρ) : DEX K te ρ Q := fun U σ L G o H j QH q => h U σ L G o H j _ fun v H' G' j' ⟨e, x, sx, k⟩ => q v x ρ L H' G' k (o.mono e) e sx j'
theorem dax_nil {Q : List D → List E → Prop} (k : Q [] ρ) : DAX K tNil ρ Q := fun U σ L G o H j QH q => q [] [] ρ L H G k o (Ex.refl G) .nil j
theorem dax_da {Q : List D → List E → Prop} (h : DA K ta ρ fun ds => Q ds ρ) : DAX K ta ρ Q := fun U σ L G o H j QH q => h U σ L G o H j _ fun vs H' G' j' ⟨e, ds, sd, k⟩ => q vs ds ρ L H' G' k (o.mono e) e sd j'
theorem dax_cons {Q : List D → List E → Prop} (h : DEX K te ρ fun e ρ1 => DD e fun d => DAX K ta ρ1 fun ds ρ2 => Q (d :: ds) ρ2) : DAX K (tCons te ta) ρ Q := fun U σ L G o H j QH q =>
  h U σ L G o H j _ fun v e ρ1 L1 H1 G1 ⟨d, ed, h2⟩ o1 e1 sv j1 => by
    subst ed
    exact h2 U σ L1 G1 o1 H1 j1 _ fun vs ds ρ2 L2 H2 G2 k o2 e2 sd j2 => q (v :: vs) (d :: ds) ρ2 L2 H2 G2 k o2 (e1.trans e2) (.cons ((show Rp K G1 v d from sv).mono e2) sd) j2
section
variable {α : Type} {args : α → List D} {own : α → List (Addr × OD)} {cells : α → Ce} {pre : α → Prop} {R : α → D → List (Addr × OD) → Prop}
theorem spW_run {U : Vx} {σ : L2.St} {L : Ow} {G H : Hp} (o : EnvOk K U ρ σ L G) (j : J (U.hides L) H G) {i : Nat} {d0 : D} {l1 l2 : List (Addr × OD)} (x : α) (hi : ρ[i]? = some (.nd ad d0 (l1 ++ (own x ++ l2)))) {vs : List V} (s : RpA K G vs (args x)) (hp : pre x) (hc : ∀ c ∈ cells x, InEnv ρ c) (fn : CFn (cells x)) {QH : VK} {E' : XK}
    (k : ∀ v d ws' L' H' G', R x d ws' → ws'.map (·.1) = (own x).map (·.1) → EnvOk K U (ρ.set i (.nd ad d0 (l1 ++ (ws' ++ l2)))) σ L' G' → Ex G G' → Rp K G' v d → J (U.hides L') H' G' → QH v H') : spW K args own cells pre R vs H QH E' := by
  obtain ⟨v0, _, _, hq, hnd, _⟩ := nd_split o hi
  rw [List.map_append, List.map_append] at hnd
  have nd1 := List.nodup_append.mp hnd
  have nd2 := List.nodup_append.mp nd1.2.1
  obtain ⟨A, hA⟩ : ∃ A, A = (own x).map (·.1) := ⟨_, rfl⟩
  have hin : ∀ p ∈ own x, ∃ u, (p.1, HI.ex u) ∈ L ∧ ODr K G p.2 u := fun p hp => hq p (List.mem_append_right _ (List.mem_append_left _ hp))
  have hAL : ∀ a ∈ A, ∃ u, (a, HI.ex u) ∈ L := fun a ha => by
    rw [hA] at ha
    obtain ⟨p, hp, rfl⟩ := List.mem_map.mp ha
    obtain ⟨u, h1, _⟩ := hin p hp
    exact ⟨u, h1⟩
  have cne : ∀ c ∈ cells x, c.1 ∉ A := fun c hcm z => by
    obtain ⟨u, hu⟩ := hAL _ z
    rcases (hc c hcm).ok o with h | h
    · exact (o.lo.nm _ hu).1 h.m
    · exact o.lo.nce h hu rfl
  have hid : ∀ c ∈ cells x, HidOk (U.hides L) c.1 c.2 := fun c hcm => cell_hid o.lo ((hc c hcm).ok o)
  refine ⟨x, G, nd2.1, fun p hp => ?_, fun c hcm => (hid c hcm).at_ H j.hid, fun c hcm => ⟨(j.msk _ (hid c hcm).m).1, by rw [← hA]; exact cne c hcm⟩, fn, j.up, s, hp, fun v d ws' H' G' hk hws hwo hcl e1 e2 hn g1 gc hR rv => ?_⟩
  · obtain ⟨u, h1, h2⟩ := hin p hp
    exact ⟨(j.msk _ (.inr ⟨_, h1⟩)).1, u, j.at h1, h2⟩
  rw [← hA] at hk hws
  obtain ⟨f, hf⟩ : ∃ f : Addr → HO, f = fun a => (H' a).getD (.rng 0 0) := ⟨_, rfl⟩
  have hfa : ∀ a ∈ A, H' a = some (f a) := fun a ha => by
    rw [← hws] at ha
    obtain ⟨p, hp, rfl⟩ := List.mem_map.mp ha
    obtain ⟨u, h1, _⟩ := hwo p hp
    have hfu : f p.1 = u := by rw [hf]; show (H' p.1).getD _ = u; rw [h1]; rfl
    rw [h1, hfu]
  have gA : ∀ a ∈ A, G' a = none := fun a ha => by
    rw [hA] at ha
    obtain ⟨p, hp, rfl⟩ := List.mem_map.mp ha
    exact g1 p hp
  have j1 := j.chgs (f := f) o.lo hAL
  have lo2 : LOk U (chgL A f L) := o.lo.chgs
  have ok2 : ∀ c ∈ cells x, CellOk U c.1 c.2 ∨ (c.1, HI.ce c.2) ∈ chgL A f L := fun c hcm => ((hc c hcm).ok o).imp id fun h => chgL_out (cne c hcm) h
  have j2 := J.cells_call (H' := H') (G' := G') (fun c hcm => cell_hid lo2 (ok2 c hcm)) j1 (fun y u hy e => by
    by_cases z : y ∈ A
    · rw [chgH_in z] at e; rw [hfa y z]; exact e
    · rw [chgH_out z] at e; exact hk y u z hy e) hcl e2 (fun b hb hg => by
    have nb : b ∉ A := fun z => hb (gA b z)
    rw [chgH_out nb]; exact hn b hb hg)
  obtain ⟨v2, _, _, hq2, _, hup⟩ := nd_split (o.mono e1) hi
  have oA : ∀ q : Addr × OD, q ∈ l1 ∨ q ∈ l2 → q.1 ∉ A := fun q hq z => by
    rw [hA] at z
    rcases hq with hq | hq
    · exact nd1.2.2 q.1 (List.mem_map.mpr ⟨q, hq, rfl⟩) q.1 (List.mem_append_left _ z) rfl
    · exact nd2.2.2 q.1 z q.1 (List.mem_map.mpr ⟨q, hq, rfl⟩) rfl
  refine k v d ws' _ H' G' hR (by rw [hws, hA]) (hup (chgL A f L) _ (l1 ++ (ws' ++ l2)) (Ex.refl _) (fun b I hb => ?_) (fun b u nb hb => chgL_out (fun z => nb ?_) hb) lo2 (fun q hq => ?_) ?_) e1 rv j2
  · refine chgL_out (fun z => ?_) hb
    obtain ⟨u, hu⟩ := hAL _ z
    exact o.lo.nce hb hu rfl
  · rw [List.map_append, List.map_append, ← hA]
    exact List.mem_append_right _ (List.mem_append_left _ z)
  · have rest : q ∈ l1 ∨ q ∈ l2 → ∃ o, (q.1, HI.ex o) ∈ chgL A f L ∧ ODr K G' q.2 o := fun hq => by
      obtain ⟨u, h1, h2⟩ := hq2 q (hq.elim (fun h => List.mem_append_left _ h) fun h => List.mem_append_right _ (List.mem_append_right _ h))
      exact ⟨u, chgL_out (oA q hq) h1, h2⟩
    rcases List.mem_append.mp hq with hq | hq
    · exact rest (.inl hq)
    rcases List.mem_append.mp hq with hq | hq
    · have ha : q.1 ∈ A := by rw [← hws]; exact List.mem_map.mpr ⟨q, hq, rfl⟩
      obtain ⟨u, hu⟩ := hAL _ ha
      obtain ⟨u', h1, h2⟩ := hwo q hq
      rw [hfa _ ha] at h1
      cases h1
      exact ⟨_, chgL_in ha hu, h2⟩
    · exact rest (.inr hq)
  · rw [List.map_append, List.map_append, List.map_append, List.map_append, hws, hA]
/-- a call as an expression -/
theorem dex_callW {E' : XK} {sp : Sp} {Q : E → List E → Prop} (hsp : sp = spW K args own cells pre R) (h : DAX K tas ρ fun as ρ1 => ∃ x i ad d0 l1 l2, as = args x ∧ ρ1[i]? = some (.nd ad d0 (l1 ++ (own x ++ l2))) ∧ pre x ∧ (∀ c ∈ cells x, InEnv ρ1 c) ∧ CFn (cells x) ∧ ∀ d ws', R x d ws' → ws'.map (·.1) = (own x).map (·.1) → Q (.d d) (ρ1.set i (.nd ad d0 (l1 ++ (ws' ++ l2))))) : DEX K (tCall sp [] E' tas) ρ Q := fun U σ L G o H j QH q => by
  subst hsp
  refine h U σ L G o H j _ fun vs as ρ1 L1 H1 G1 ⟨x, i, ad, d0, l1, l2, ea, hi, hp, hc, fn, k⟩ o1 e1 sa j1 => ?_
  subst ea
  show spW K args own cells pre R (vs ++ []) H1 _ _
  rw [List.append_nil]
  exact spW_run o1 j1 x hi sa hp hc fn fun v d ws' L' H' G' hR hw o' e' rv j' => q v (.d d) _ L' H' G' (k d ws' hR hw) o' (e1.trans e') rv j'
/-- x.m(..), a statement -/
theorem ds_methW {Cc : Addr} {m : Str} {E' : XK} {i0 : Nat} {sp : Sp} (hsp : sp = spW K args own cells pre R) (h : ∃ ad0 ks ds ws, ρ[i0]? = some (.nd ad0 (.obj Cc ks ds) ws) ∧ m ∉ ks ∧ DAX K tas ρ fun as ρ1 => ∃ x i ad d0 l1 l2, .obj Cc ks ds :: as = args x ∧ ρ1[i]? = some (.nd ad d0 (l1 ++ (own x ++ l2))) ∧ pre x ∧ (∀ c ∈ cells x, InEnv ρ1 c) ∧ CFn (cells x) ∧ ∀ d ws', R x d ws' → ws'.map (·.1) = (own x).map (·.1) → N (ρ1.set i (.nd ad d0 (l1 ++ (ws' ++ l2))))) : DS K (tDrop (tMeth Cc m sp [] E' (tVar i0) tas)) ρ N B C Rr := fun U σ L G Dn o n b c r H j => by
  subst hsp
  obtain ⟨ad0, ks, ds, ws, hi0, hm, h⟩ := h
  obtain ⟨v, h1, hv, _⟩ := nd_split o hi0
  cases hv with
  | @obj a _ dx fvs _ _ g ek bb =>
    subst ek
    refine ⟨_, h1, a, dx, fvs, rfl, j.up _ _ g, lk_none hm, h U σ L G o H j _ fun vs as ρ1 L1 H1 G1 ⟨x, i, ad, d0, l1, l2, ea, hi, hp, hc, fn, k⟩ o1 e1 sa j1 => ?_⟩
    have s : RpA K G1 (.ref a :: vs) (args x) := by rw [← ea]; exact .cons (.obj (e1 _ _ g) rfl (bb.mono e1)) sa
    show spW K args own cells pre R (.ref a :: (vs ++ [])) H1 _ _
    rw [List.append_nil]
    exact spW_run o1 j1 x hi s hp hc fn fun v d ws' L' H' G' hR hw o' e' rv j' => n _ σ L' G' (k d ws' hR hw) o' (e1.trans e') H' j'
theorem len_w {vs : List V} {H : Hp} {QV : VK} {E' : XK} {n : Nat} (h : spW K args own cells pre R vs H QV E') (hn : ∀ x, (args x).length = n) : vs.length = n := by
  obtain ⟨x, G, _, _, _, _, _, _, s, _⟩ := h
  rw [s.len, hn]
def envW (args : List D) (ws : List (Addr × OD)) (cs : Ce) (jc n : Nat) : List E := ((args.map E.d ++ List.replicate (n - args.length) E.any).set jc (.cd (args.getD jc .non) cs)).set 0 (.nd none (args.getD 0 .non) ws)
theorem fn_w (jc : Nat) {Nm : List Str} {vs : List V} {H : Hp} {QV : VK} {E' : XK} (h : spW K args own cells pre R vs H QV E') (hj : ∀ x, 1 ≤ jc ∧ jc < (args x).length)
    (hb : ∀ x, pre x ∧ CFn (cells x) ∧ ((own x).map (·.1)).Nodup → DSX K ts (envW (args x) (own x) (cells x) jc Nm.length) (fun ρ' => ∃ ws', ρ'[0]? = some (.nd none ((args x).getD 0 .non) ws') ∧ ws'.map (·.1) = (own x).map (·.1) ∧ R x .non ws') (fun d ρ' => ∃ ws', ρ'[0]? = some (.nd none ((args x).getD 0 .non) ws') ∧ ws'.map (·.1) = (own x).map (·.1) ∧ R x d ws')) : ts { nx := fun _ H' => QV .non H', rt := QV } (L2.start Nm vs) H := by
  obtain ⟨x, G, hnd, hwo, hcl, gc, fn, e0, s, hp, q⟩ := h
  have hbx := hb x ⟨hp, fn, hnd⟩
  obtain ⟨A, hA⟩ : ∃ A, A = (own x).map (·.1) := ⟨_, rfl⟩
  rw [← hA] at gc q
  have mA : ∀ p ∈ own x, p.1 ∈ A := fun p hp => by rw [hA]; exact List.mem_map.mpr ⟨p, hp, rfl⟩
  obtain ⟨f, hf⟩ : ∃ f : Addr → HO, f = fun a => (H a).getD (.rng 0 0) := ⟨_, rfl⟩
  have hfa : ∀ a ∈ A, H a = some (f a) ∧ G a = none := fun a ha => by
    rw [hA] at ha
    obtain ⟨p, hp, rfl⟩ := List.mem_map.mp ha
    obtain ⟨g, u, h1, _⟩ := hwo p hp
    have hfu : f p.1 = u := by rw [hf]; show (H p.1).getD _ = u; rw [h1]; rfl
    exact ⟨by rw [h1, hfu], g⟩
  obtain ⟨H0, hH0⟩ : ∃ H0 : Hp, H0 = fun a => if a ∈ A then none else H a := ⟨_, rfl⟩
  have w0 : ∀ y, y ∉ A → H0 y = H y := fun y n1 => by rw [hH0]; exact if_neg n1
  have w1 : ∀ y, y ∈ A → H0 y = none := fun y n1 => by rw [hH0]; exact if_pos n1
  have he : ∀ y u, H0 y = some u → H y = some u := fun y u e => by
    have n1 : y ∉ A := fun z => by rw [w1 y z] at e; cases e
    rw [w0 y n1] at e; exact e
  have wcp : ∀ a, H0 a = none → wos (cells x) H0 a = none := fun a e => by
    cases z : wos (cells x) H0 a with
    | none => rfl
    | some u => rw [(wos_some z).2] at e; cases e
  obtain ⟨L0, hL0⟩ : ∃ L0 : Ow, L0 = A.map fun a => (a, HI.ex (f a)) := ⟨_, rfl⟩
  have mL : ∀ b u, (b, u) ∈ L0 ↔ b ∈ A ∧ u = HI.ex (f b) := fun b u => by
    rw [hL0, List.mem_map]
    constructor
    · rintro ⟨a, ha, e⟩; cases e; exact ⟨ha, rfl⟩
    · rintro ⟨ha, rfl⟩; exact ⟨b, ha, rfl⟩
  have lo : LOk (VC (cells x) H0 G) L0 := ⟨fun b hb => by
    obtain ⟨ha, _⟩ := (mL b.1 b.2).mp hb
    exact ⟨fun ⟨c, hc, e⟩ => (gc c hc).2 (e ▸ ha), wcp _ (w1 _ ha), (hfa _ ha).2⟩, fun b y z hy hz => by rw [((mL b y).mp hy).2, ((mL b z).mp hz).2]⟩
  have j0 : J ((VC (cells x) H0 G).hides L0) H G := ⟨e0, fun a u e => he a u (wos_some e).2, fun a y z => absurd z y, ⟨hcl, fun b hb => by
    obtain ⟨ha, e⟩ := (mL b.1 b.2).mp hb
    rw [e]
    exact ⟨f b.1, (hfa _ ha).1, rfl⟩⟩, fun b mb => by
    rcases mb with ⟨c, hc, e⟩ | ⟨u, hb⟩
    · subst e
      obtain ⟨u, hu, _⟩ := hcl c hc
      exact ⟨(gc c hc).1, by rw [hu]; exact fun z => by cases z⟩
    · obtain ⟨ha, _⟩ := (mL b u).mp hb
      exact ⟨(hfa _ ha).2, by rw [(hfa _ ha).1]; exact fun z => by cases z⟩⟩
  have hjx := hj x
  have o0 := start_env (K := K) (N := Nm) (U := VC (cells x) H0 G) (Ex.refl G) s
  have at_ : ∀ k, k < (args x).length → ∃ v d, vs[k]? = some v ∧ (args x)[k]? = some d ∧ Rp K G v d := fun k hk => by
    obtain ⟨d, hd⟩ : ∃ d, (args x)[k]? = some d := ⟨_, List.getElem?_eq_getElem hk⟩
    obtain ⟨v, hv, hr⟩ := s.get hd
    exact ⟨v, d, hv, hd, hr⟩
  have st_ : ∀ k v, vs[k]? = some v → (L2.start Nm vs)[k]? = some (some v) := fun k v hv => by
    have hk : k < vs.length := (List.getElem?_eq_some_iff.mp hv).1
    unfold L2.start
    rw [List.getElem?_append_left (by rw [List.length_map]; exact hk), List.getElem?_map, hv]; rfl
  obtain ⟨vj, dj, hvj, hdj, rj⟩ := at_ jc hjx.2
  have o1 := o0.set (i := jc) (e := .cd dj (cells x)) (v := vj) rfl ⟨rj, fun c hc => .inl (VC.cell fn hc)⟩
  rw [set_self (st_ jc vj hvj)] at o1
  obtain ⟨vz, dz, hvz, hdz, rz⟩ := at_ 0 (by omega)
  have o2 := o1.put (i := 0) (L' := L0) (v := vz) (e := .nd none dz (own x)) (F := (own x).map (·.1)) (Ex.refl G) (fun _ h => by simp at h) lo (.nd (fun _ z => by cases z) rz fun p hp => by
    obtain ⟨_, u, h1, h2⟩ := hwo p hp
    have := (hfa _ (mA p hp)).1
    rw [h1] at this
    cases this
    exact ⟨_, (mL _ _).mpr ⟨mA p hp, rfl⟩, h2⟩) hnd (fun _ _ _ h => by simp at h)
  rw [set_self (st_ 0 vz hvz)] at o2
  have ej : (args x).getD jc .non = dj := by rw [List.getD_eq_getElem?_getD, hdj]; rfl
  have ez : (args x).getD 0 .non = dz := by rw [List.getD_eq_getElem?_getD, hdz]; rfl
  unfold envW at hbx
  rw [ej, ez] at hbx
  have fin : ∀ d v ρ' σ' L' G' ws', ρ'[0]? = some (.nd none dz ws') → ws'.map (·.1) = (own x).map (·.1) → R x d ws' → Rp K G' v d → EnvOk K (VC (cells x) H0 G) ρ' σ' L' G' → Ex G G' → ∀ H', J ((VC (cells x) H0 G).hides L') H' G' → QV v H' := fun d v ρ' σ' L' G' ws' k1 kw k2 rv o' e H' j' => by
    obtain ⟨_, _, _, hq, _⟩ := nd_split o' k1
    have gA : ∀ a ∈ A, G' a = none := fun a ha => by
      rw [hA, ← kw] at ha
      obtain ⟨p, hp, rfl⟩ := List.mem_map.mp ha
      obtain ⟨u, m1, _⟩ := hq p hp
      exact (j'.msk _ (.inr ⟨_, m1⟩)).1
    exact q v d ws' H' G' (fun y u n1 nc hy => j'.keep y u (by show wos (cells x) H0 y = some u; rw [wos_ne nc, w0 y n1]; exact hy)) (by rw [kw, hA]) (fun p hp => by
      obtain ⟨u, m1, m2⟩ := hq p hp
      exact ⟨u, j'.at m1, m2⟩) j'.hid.1 e j'.up (fun b hb hg => by
      have hh : wos (cells x) H0 b = none := j'.new b hb hg
      have nc : ∀ c ∈ cells x, b ≠ c.1 := fun c hc ea => hb (j'.msk b (.inl ⟨c, hc, ea⟩)).1
      rw [wos_ne nc, w0 b (fun z => hb (gA b z))] at hh; exact hh) (fun p hp => gA _ (mA p hp)) (fun c hc => (j'.msk _ (.inl ⟨c, hc, rfl⟩)).1) k2 rv
  exact hbx (VC (cells x) H0 G) _ _ G ⟨fun _ H' => QV .non H', QV, fun _ _ => False, fun _ _ => False⟩ o2
    (fun ρ' σ' L' G' ⟨ws', k1, kw, k2⟩ o' e H' j' => fin .non .non ρ' σ' L' G' ws' k1 kw k2 .non o' e H' j')
    (fun d v ρ' σ' L' G' ⟨ws', k1, kw, k2⟩ rv o' e H' j' => fin d v ρ' σ' L' G' ws' k1 kw k2 rv o' e H' j') H j0
end
end
end Wp

set_option Elab.async false
set_option linter.all false
set_option maxRecDepth 100000
set_option maxHeartbeats 4000000
/-! An __init__ that makes two lists of its own, and changes own things that are handed to it. -/
namespace Wp
open PySem L2 Evl StX
set_option autoImplicit false
section
variable {K : PySem.W.Frag} {ρ : List E} {te tv tx : TE} {ta tas : TA} {ts : TS} {N B C : List E → Prop} {Rr : D → Prop} {Q : E → Prop}
/-! ### things moved between slots -/
theorem ows_app {L : Ow} {G : Hp} {w1 w2 : List (Addr × OD)} (h1 : OwsA K L G w1) (h2 : OwsA K L G w2) : OwsA K L G (w1 ++ w2) := fun p hp => (List.mem_append.mp hp).elim (h1 p) (h2 p)
theorem nd_move {U : Vx} {σ : L2.St} {L : Ow} {G : Hp} (o : EnvOk K U ρ σ L G) {i j : Nat} (ne : i ≠ j) {a1 a2 : Option Addr} {d1 d2 : D} {w1 w2 w3 : List (Addr × OD)} (hi : ρ[i]? = some (.nd a1 d1 w1)) (hj : ρ[j]? = some (.nd a2 d2 (w2 ++ w3))) :
    EnvOk K U ((ρ.set j (.nd a2 d2 w2)).set i (.nd a1 d1 (w1 ++ w3))) σ L G := by
  obtain ⟨fp, of⟩ := o.fs
  obtain ⟨vi, si, hsi⟩ := of.at hi rfl
  obtain ⟨vj, sj, hsj⟩ := of.at hj rfl
  obtain ⟨Fi, hFi⟩ : ∃ F, F = fp i := ⟨_, rfl⟩
  obtain ⟨Fj, hFj⟩ : ∃ F, F = fp j := ⟨_, rfl⟩
  have di := of.nd i
  have dj := of.nd j
  have dd := of.ds i j
  rw [← hFi] at hsi di dd
  rw [← hFj] at hsj dj dd
  cases hsi with
  | nd ha1 r1 q1 =>
    cases hsj with
    | nd ha2 r2 q2 =>
      rw [List.map_append] at dj dd hFj
      have dj' := List.nodup_append.mp dj
      refine ⟨by rw [List.length_set, List.length_set, o.len], ⟨fun k => if k = i then (w1 ++ w3).map (·.1) else if k = j then w2.map (·.1) else fp k, ?_, ?_, ?_, ?_⟩, o.lo, o.ge⟩
      · intro k e hk
        by_cases zi : k = i
        · subst zi
          rw [List.getElem?_set_self (by rw [List.length_set]; exact (List.getElem?_eq_some_iff.mp hi).1)] at hk
          cases hk
          refine ⟨_, si, .inr ⟨vi, rfl, ?_⟩⟩
          rw [if_pos rfl]
          exact .nd ha1 r1 (ows_app q1 fun p hp => q2 p (List.mem_append_right _ hp))
        rw [List.getElem?_set_ne (Ne.symm zi)] at hk
        by_cases zj : k = j
        · subst zj
          rw [List.getElem?_set_self (List.getElem?_eq_some_iff.mp hj).1] at hk
          cases hk
          refine ⟨_, sj, .inr ⟨vj, rfl, ?_⟩⟩
          rw [if_neg zi, if_pos rfl]
          exact .nd ha2 r2 fun p hp => q2 p (List.mem_append_left _ hp)
        · rw [List.getElem?_set_ne (Ne.symm zj)] at hk
          rw [if_neg zi, if_neg zj]
          exact of.sl k e hk
      · intro k
        try dsimp only
        split
        · rw [List.map_append]
          refine List.nodup_append.mpr ⟨di, dj'.2.1, fun x hx y hy z => ?_⟩
          subst z
          exact dd x ne hx (List.mem_append_right _ hy)
        split
        · exact dj'.1
        · exact of.nd k
      · intro k l x nkl hk hl
        have sp : ∀ m, x ∈ (if m = i then (w1 ++ w3).map (·.1) else if m = j then w2.map (·.1) else fp m) → (m = i ∧ (x ∈ w1.map (·.1) ∨ x ∈ w3.map (·.1))) ∨ (m = j ∧ m ≠ i ∧ x ∈ w2.map (·.1)) ∨ (m ≠ i ∧ m ≠ j ∧ x ∈ fp m) := fun m hm => by
          split at hm
          · rename_i z; rw [List.map_append] at hm; exact .inl ⟨z, List.mem_append.mp hm⟩
          · rename_i z; split at hm
            · rename_i z2; exact .inr (.inl ⟨z2, z, hm⟩)
            · rename_i z2; exact .inr (.inr ⟨z, z2, hm⟩)
        have inI : x ∈ w1.map (·.1) → x ∈ fp i := fun h => by rw [← hFi]; exact h
        have inJ2 : x ∈ w2.map (·.1) → x ∈ fp j := fun h => by rw [← hFj]; exact List.mem_append_left _ h
        have inJ3 : x ∈ w3.map (·.1) → x ∈ fp j := fun h => by rw [← hFj]; exact List.mem_append_right _ h
        rcases sp k hk with ⟨rfl, h1⟩ | ⟨rfl, n1, h1⟩ | ⟨n1, n2, h1⟩ <;> rcases sp l hl with ⟨rfl, h2⟩ | ⟨rfl, m1, h2⟩ | ⟨m1, m2, h2⟩
        · exact nkl rfl
        · rcases h1 with h1 | h1
          · exact of.ds _ _ x nkl (inI h1) (inJ2 h2)
          · exact dj'.2.2 x h2 x h1 rfl
        · rcases h1 with h1 | h1
          · exact of.ds _ _ x nkl (inI h1) h2
          · exact of.ds _ _ x (Ne.symm m2) (inJ3 h1) h2
        · rcases h2 with h2 | h2
          · exact of.ds _ _ x nkl (inJ2 h1) (inI h2)
          · exact dj'.2.2 x h1 x h2 rfl
        · exact nkl rfl
        · exact of.ds _ _ x nkl (inJ2 h1) h2
        · rcases h2 with h2 | h2
          · exact of.ds _ _ x nkl h1 (inI h2)
          · exact of.ds _ _ x n2 h1 (inJ3 h2)
        · exact of.ds _ _ x nkl h1 (inJ2 h2)
        · exact of.ds _ _ x nkl h1 h2
      · intro k x hx
        try dsimp only at hx
        split at hx
        · obtain ⟨p, hp, rfl⟩ := List.mem_map.mp hx
          rcases List.mem_append.mp hp with hp | hp
          · obtain ⟨u, h1, _⟩ := q1 p hp; exact ⟨_, h1⟩
          · obtain ⟨u, h1, _⟩ := q2 p (List.mem_append_right _ hp); exact ⟨_, h1⟩
        split at hx
        · obtain ⟨p, hp, rfl⟩ := List.mem_map.mp hx
          obtain ⟨u, h1, _⟩ := q2 p (List.mem_append_left _ hp); exact ⟨_, h1⟩
        · exact of.il k x hx
theorem ds_ndMove (i j : Nat) (ne : i ≠ j) {a1 a2 : Option Addr} {d1 d2 : D} {w1 w2 w3 : List (Addr × OD)} {ρ' : List E} (hi : ρ[i]? = some (.nd a1 d1 w1)) (hj : ρ[j]? = some (.nd a2 d2 (w2 ++ w3))) (hr : (ρ.set j (.nd a2 d2 w2)).set i (.nd a1 d1 (w1 ++ w3)) = ρ') (h : DS K ts ρ' N B C Rr) : DS K ts ρ N B C Rr := fun U σ L G Dn o n b c r H j => by
  subst hr
  exact h U σ L G Dn (nd_move o ne hi hj) n b c r H j
theorem dsx_ndMove {R : D → List E → Prop} (i j : Nat) (ne : i ≠ j) {a1 a2 : Option Addr} {d1 d2 : D} {w1 w2 w3 : List (Addr × OD)} {ρ' : List E} (hi : ρ[i]? = some (.nd a1 d1 w1)) (hj : ρ[j]? = some (.nd a2 d2 (w2 ++ w3))) (hr : (ρ.set j (.nd a2 d2 w2)).set i (.nd a1 d1 (w1 ++ w3)) = ρ') (h : DSX K ts ρ' N R) : DSX K ts ρ N R := fun U σ L G Dn o n r H j => by
  subst hr
  exact h U σ L G Dn (nd_move o ne hi hj) n r H j
/-- at a def's end too -/
theorem ks_move {ρ' : List E} (i j : Nat) (ne : i ≠ j) {a1 a2 : Option Addr} {d1 d2 : D} {w1 w2 w3 : List (Addr × OD)} (hi : ρ[i]? = some (.nd a1 d1 w1)) (hj : ρ[j]? = some (.nd a2 d2 (w2 ++ w3))) (hr : (ρ.set j (.nd a2 d2 w2)).set i (.nd a1 d1 (w1 ++ w3)) = ρ') (R : D → List E → Prop) (h : DSX K tNext ρ' N R) : DSX K tNext ρ N R := dsx_ndMove i j ne hi hj hr h
section
variable {α : Type} {Cc : Addr} {args : α → List D} {own : α → List (Addr × OD)} {pre : α → Prop} {obj : α → Addr → Addr → D} {w1 w2 : α → OD}
def spI {α : Type} (K : PySem.W.Frag) (Cc : Addr) (args : α → List D) (own : α → List (Addr × OD)) (pre : α → Prop) (obj : α → Addr → Addr → D) (w1 w2 : α → OD) : Sp := fun vs H Q _ => ∃ (x : α) (a dx : Addr) (G : Hp) (vs' : List V), vs = .ref a :: vs' ∧ H a = some (.ins Cc dx []) ∧ G a = none ∧ ((own x).map (·.1)).Nodup ∧ (∀ p ∈ own x, G p.1 = none ∧ p.1 ≠ a ∧ ∃ u, H p.1 = some u ∧ ODr K G p.2 u) ∧ Ex G H ∧ RpA K G vs' (args x) ∧ pre x ∧
  ∀ p q u1 u2 H' G', (∀ y u, y ≠ a → y ∉ (own x).map (·.1) → H y = some u → H' y = some u) → (∀ r ∈ own x, G' r.1 = none ∧ ∃ u, H' r.1 = some u ∧ ODr K G' r.2 u) → p ≠ q → p ≠ a → q ≠ a → p ∉ (own x).map (·.1) → q ∉ (own x).map (·.1) → H p = none → H q = none → G' p = none → G' q = none → H' p = some u1 → ODr K G' (w1 x) u1 → H' q = some u2 → ODr K G' (w2 x) u2 → Rp K G' (.ref a) (obj x p q) → G' a ≠ none → Ex G G' → Ex G' H' → (∀ b, G' b ≠ none → G b = none → b = a ∨ H b = none) → Q .non H'
theorem len_i {vs : List V} {H : Hp} {QV : VK} {E' : XK} {n : Nat} (h : spI K Cc args own pre obj w1 w2 vs H QV E') (hn : ∀ x, (args x).length + 1 = n) : vs.length = n := by
  obtain ⟨x, a, dx, G, vs', rfl, _, _, _, _, _, s, _⟩ := h
  rw [List.length_cons, s.len, hn]
theorem fn_i {Nm : List Str} {vs : List V} {H : Hp} {QV : VK} {E' : XK} (h : spI K Cc args own pre obj w1 w2 vs H QV E') (ho : ∀ x p q F a, Rp K F (.ref a) (obj x p q) → F a ≠ none) (hj : ∀ x, 1 ≤ (args x).length)
    (hb : ∀ x a, pre x → DSX K ts ((((D.adr a :: args x).map E.d ++ List.replicate (Nm.length - (D.adr a :: args x).length) E.any).set 1 (.nd none ((args x).getD 0 .non) (own x))).set 0 (.oa a (.ins Cc [] []))) (fun ρ' => ∃ p q, ρ'[0]? = some (.nd (some a) (obj x p q) [(p, w1 x), (q, w2 x)]) ∧ ρ'[1]? = some (.nd none ((args x).getD 0 .non) (own x))) (fun _ _ => False)) : ts { nx := fun _ H' => QV .non H', rt := QV } (L2.start Nm vs) H := by
  obtain ⟨x, a, dx, G, vs', rfl, ha, ga, hnd, hwo, e0, s, hp, q⟩ := h
  obtain ⟨A, hA⟩ : ∃ A, A = (own x).map (·.1) := ⟨_, rfl⟩
  rw [← hA] at q
  have mA : ∀ p ∈ own x, p.1 ∈ A := fun p hp => by rw [hA]; exact List.mem_map.mpr ⟨p, hp, rfl⟩
  obtain ⟨f, hf⟩ : ∃ f : Addr → HO, f = fun a => (H a).getD (.rng 0 0) := ⟨_, rfl⟩
  have hfa : ∀ b ∈ A, H b = some (f b) ∧ G b = none ∧ b ≠ a := fun b hb => by
    rw [hA] at hb
    obtain ⟨p, hp, rfl⟩ := List.mem_map.mp hb
    obtain ⟨g, n, u, h1, _⟩ := hwo p hp
    have hfu : f p.1 = u := by rw [hf]; show (H p.1).getD _ = u; rw [h1]; rfl
    exact ⟨by rw [h1, hfu], g, n⟩
  obtain ⟨H0, hH0⟩ : ∃ H0 : Hp, H0 = fun b => if b = a ∨ b ∈ A then none else H b := ⟨_, rfl⟩
  have w0 : ∀ y, y ≠ a → y ∉ A → H0 y = H y := fun y n1 n2 => by rw [hH0]; exact if_neg (fun z => z.elim n1 n2)
  have w1' : ∀ y, y = a ∨ y ∈ A → H0 y = none := fun y n1 => by rw [hH0]; exact if_pos n1
  have he : Ex H0 H := fun y u e => by
    have n1 : ¬ (y = a ∨ y ∈ A) := fun z => by rw [w1' y z] at e; cases e
    rw [w0 y (fun z => n1 (.inl z)) (fun z => n1 (.inr z))] at e; exact e
  obtain ⟨L0, hL0⟩ : ∃ L0 : Ow, L0 = (a, HI.ex (.ins Cc dx [])) :: A.map fun b => (b, HI.ex (f b)) := ⟨_, rfl⟩
  have mL : ∀ b u, (b, u) ∈ L0 ↔ (b = a ∧ u = HI.ex (.ins Cc dx [])) ∨ (b ∈ A ∧ u = HI.ex (f b)) := fun b u => by
    rw [hL0, List.mem_cons, List.mem_map]
    constructor
    · rintro (e | ⟨c, hc, e⟩)
      · cases e; exact .inl ⟨rfl, rfl⟩
      · cases e; exact .inr ⟨hc, rfl⟩
    · rintro (⟨rfl, rfl⟩ | ⟨hb, rfl⟩)
      · exact .inl rfl
      · exact .inr ⟨b, hb, rfl⟩
  have lo : LOk (V0 H0 G) L0 := ⟨fun b hb => by
    rcases (mL b.1 b.2).mp hb with ⟨e, _⟩ | ⟨e, _⟩
    · exact ⟨fun z => z, w1' _ (.inl e), by rw [e]; exact ga⟩
    · exact ⟨fun z => z, w1' _ (.inr e), (hfa _ e).2.1⟩, fun b y z hy hz => by
    rcases (mL b y).mp hy with ⟨e1, e2⟩ | ⟨e1, e2⟩ <;> rcases (mL b z).mp hz with ⟨e3, e4⟩ | ⟨e3, e4⟩
    · rw [e2, e4]
    · exact absurd e1 (hfa _ e3).2.2
    · exact absurd e3 (hfa _ e1).2.2
    · rw [e2, e4]⟩
  have j0 : J ((V0 H0 G).hides L0) H G := ⟨e0, he, fun b q g => absurd g q, ⟨trivial, fun b hb => by
    rcases (mL b.1 b.2).mp hb with ⟨e1, e2⟩ | ⟨e1, e2⟩
    · rw [e1, e2]; exact ⟨_, ha, rfl⟩
    · rw [e2]; exact ⟨_, (hfa _ e1).1, rfl⟩⟩, fun b mb => by
    rcases mb with mb | ⟨o, mb⟩
    · exact mb.elim
    · rcases (mL b o).mp mb with ⟨e1, e2⟩ | ⟨e1, e2⟩
      · rw [e1]; exact ⟨ga, by rw [ha]; exact fun q => by cases q⟩
      · exact ⟨(hfa _ e1).2.1, by rw [(hfa _ e1).1]; exact fun q => by cases q⟩⟩
  have hlen := hj x
  obtain ⟨d1, hd1⟩ : ∃ d, (args x)[0]? = some d := ⟨_, List.getElem?_eq_getElem (by omega)⟩
  obtain ⟨v1, hv1, r1⟩ := s.get hd1
  have e1 : (args x).getD 0 .non = d1 := by rw [List.getD_eq_getElem?_getD, hd1]; rfl
  have hbx := hb x a hp
  rw [e1] at hbx
  have o0 := start_env (K := K) (N := Nm) (U := V0 H0 G) (Ex.refl G) (RpA.cons (Rp.adr a) s)
  have o1 := o0.put (i := 1) (L' := L0) (v := v1) (e := .nd none d1 (own x)) (F := A) (Ex.refl G) (fun _ h => by simp at h) lo (by
    rw [hA]
    exact .nd (fun _ z => by cases z) r1 fun p hp => by
      obtain ⟨_, _, u, h1, h2⟩ := hwo p hp
      have := (hfa _ (mA p hp)).1
      rw [h1] at this
      cases this
      exact ⟨_, (mL _ _).mpr (.inr ⟨mA p hp, rfl⟩), h2⟩) (by rw [hA]; exact hnd) (fun _ _ _ h => by simp at h)
  rw [set_self (xs := L2.start Nm (.ref a :: vs')) (i := 1) (x := some v1) (by
    unfold L2.start
    rw [List.map_cons, List.cons_append, List.getElem?_cons_succ, List.getElem?_append_left (by rw [List.length_map]; exact (List.getElem?_eq_some_iff.mp hv1).1), List.getElem?_map, hv1]; rfl)] at o1
  obtain ⟨fp1, of1⟩ := o1.fs
  have o2 : EnvOk K (V0 H0 G) _ _ L0 G := ⟨by rw [List.length_set (i := 0) (a := Wp.E.oa a (.ins Cc [] []))]; exact o1.len, ⟨fun k => if k = 0 then [a] else if k = 1 then A else [], fun k e hk => ?_, fun k => ?_, fun k l z nkl h1 h2 => ?_, fun k z hz => ?_⟩, lo, o1.ge⟩
  · refine hbx (V0 H0 G) _ _ G ⟨fun _ H' => QV .non H', QV, fun _ _ => False, fun _ _ => False⟩ o2
      (fun ρ' σ' L' G' ⟨p, q', h1, h1'⟩ o' e H' j' => ?_) (fun d v ρ' σ' L' G' z => z.elim) H j0
    obtain ⟨v, F, k1, k2, _⟩ := o'.upd h1 rfl
    obtain ⟨fp', of'⟩ := o'.fs
    obtain ⟨va, sa, hva⟩ := of'.at h1 rfl
    obtain ⟨vb, sb, hvb⟩ := of'.at h1' rfl
    obtain ⟨Fa, hFa⟩ : ∃ F, F = fp' 0 := ⟨_, rfl⟩
    obtain ⟨Fb, hFb⟩ : ∃ F, F = fp' 1 := ⟨_, rfl⟩
    have nda := of'.nd 0
    have dab := of'.ds 0 1
    rw [← hFa] at hva nda dab
    rw [← hFb] at hvb dab
    cases hva with
    | nd had r hq =>
      cases hvb with
      | nd had2 r2' hq2 =>
        have hv := had a rfl
        subst hv
        obtain ⟨u1, m1, rr1⟩ := hq (p, w1 x) (by simp)
        obtain ⟨u2, m2, rr2⟩ := hq (q', w2 x) (by simp)
        dsimp only at m1 m2 rr1 rr2
        have npq : p ≠ q' := by simp at nda; exact nda
        have g1 := (j'.msk p (.inr ⟨_, m1⟩)).1
        have g2 := (j'.msk q' (.inr ⟨_, m2⟩)).1
        have ga' : G' a ≠ none := ho x p q' G' a r
        have npa : p ≠ a := fun z => ga' (z ▸ g1)
        have nqa : q' ≠ a := fun z => ga' (z ▸ g2)
        have npA : p ∉ A := fun z => dab p (by decide) (by simp) (by rw [← hA]; exact z)
        have nqA : q' ∉ A := fun z => dab q' (by decide) (by simp) (by rw [← hA]; exact z)
        have hp0 : H p = none := by have hh : H0 p = none := (o'.lo.nm _ m1).2.1; rw [w0 p npa npA] at hh; exact hh
        have hq0 : H q' = none := by have hh : H0 q' = none := (o'.lo.nm _ m2).2.1; rw [w0 q' nqa nqA] at hh; exact hh
        have gA : ∀ r ∈ own x, G' r.1 = none ∧ ∃ u, H' r.1 = some u ∧ ODr K G' r.2 u := fun r hr => by
          obtain ⟨u, k1, k2⟩ := hq2 r hr
          exact ⟨(j'.msk _ (.inr ⟨_, k1⟩)).1, u, j'.at k1, k2⟩
        refine q p q' u1 u2 H' G' (fun y u ny nA hy => j'.keep y u (by show H0 y = some u; rw [w0 y ny nA]; exact hy)) gA npq npa nqa npA nqA hp0 hq0 g1 g2 (j'.at m1) rr1 (j'.at m2) rr2 r ga' e j'.up (fun b hb hg => ?_)
        by_cases z : b = a
        · exact .inl z
        · have nb : b ∉ A := fun y => by
            rw [hA] at y
            obtain ⟨r0, hr0, er⟩ := List.mem_map.mp y
            exact hb (er ▸ (gA r0 hr0).1)
          have hh : H0 b = none := j'.new b hb hg
          rw [w0 b z nb] at hh
          exact .inr hh
  · by_cases z0 : k = 0
    · subst z0
      rw [List.getElem?_set_self (by rw [List.length_set]; simp)] at hk
      cases hk
      refine ⟨some (.ref a), by unfold L2.start; rw [List.map_cons]; rfl, .inr ⟨_, rfl, ?_⟩⟩
      rw [if_pos rfl]
      exact .oa ((mL _ _).mpr (.inl ⟨rfl, rfl⟩)) (.ins (fvs := []) rfl .nil)
    · rw [List.getElem?_set_ne (Ne.symm z0)] at hk
      obtain ⟨u, h1, h2⟩ := of1.sl k e hk
      refine ⟨u, h1, ?_⟩
      rw [if_neg z0]
      by_cases z1 : k = 1
      · subst z1
        rw [if_pos rfl]
        rw [List.getElem?_set_self (by rw [List.length_append, List.length_map]; show 1 < (args x).length + 1 + _; omega)] at hk
        cases hk
        rcases h2 with ⟨h2, _⟩ | ⟨v, h2, h3⟩
        · cases h2
        · refine .inr ⟨v, h2, ?_⟩
          generalize fp1 1 = F1 at h3
          cases h3 with
          | nd a1 a2 a3 => rw [hA]; exact .nd a1 a2 a3
      · rw [if_neg z1]
        rw [List.getElem?_set_ne (Ne.symm z1)] at hk
        rcases h2 with ⟨h2, _⟩ | ⟨v, h2, h3⟩
        · exact .inl ⟨h2, rfl⟩
        · refine .inr ⟨v, h2, ?_⟩
          have hm := List.mem_of_getElem? hk
          rcases List.mem_append.mp hm with hm | hm
          · obtain ⟨d, _, rfl⟩ := List.mem_map.mp hm
            rw [sv_free rfl h3] at h3
            exact h3
          · obtain ⟨_, rfl⟩ := List.mem_replicate.mp hm
            exact .any v
  · try dsimp only
    split
    · simp
    split
    · rw [hA]; exact hnd
    · simp
  · try dsimp only at h1 h2
    have na : ∀ b ∈ A, b ≠ a := fun b hb => (hfa b hb).2.2
    split at h1
    · rename_i k0
      rw [List.mem_singleton] at h1
      split at h2
      · rename_i l0; exact nkl (k0.trans l0.symm)
      split at h2
      · exact na z h2 h1
      · simp at h2
    split at h1
    · rename_i k0 k1
      split at h2
      · rw [List.mem_singleton] at h2; exact na z h1 h2
      split at h2
      · rename_i l0 l1; exact nkl (k1.trans l1.symm)
      · simp at h2
    · simp at h1
  · try dsimp only at hz
    split at hz
    · rw [List.mem_singleton] at hz; exact ⟨_, (mL _ _).mpr (.inl ⟨hz, rfl⟩)⟩
    split at hz
    · exact ⟨_, (mL _ _).mpr (.inr ⟨hz, rfl⟩)⟩
    · simp at hz
theorem ds_makeN {E' : XK} {i : Nat} {sp : Sp} (hsp : sp = spI K Cc args own pre obj w1 w2) (h : DA K tas ρ fun as => ∃ (x : α) (i0 : Nat) (ad : Option Addr) (d0 : D) (l1 l2 : List (Addr × OD)), as = args x ∧ ρ[i0]? = some (E.nd ad d0 (l1 ++ (own x ++ l2))) ∧ pre x ∧ ∀ p q, SetTo ρ i (.nd none (obj x p q) [(p, w1 x), (q, w2 x)]) N) : DS K (tAsg (tMake Cc sp [] E' tas) (gName i)) ρ N B C Rr := fun U σ L G Dn o n b c r H j => by
  subst hsp
  refine h U σ L G o H j _ fun vs H1 G1 j1 ⟨e1, as, sa, x, i0, ad, d0, l1, l2, ea, hi, hp, kn⟩ => ?_
  subst ea
  intro a dx na ndx ne
  show spI K Cc args own pre obj w1 w2 (.ref a :: (vs ++ [])) _ _ _
  rw [List.append_nil]
  have o1 := o.mono e1
  obtain ⟨v0, _, _, hq, hnd, _⟩ := nd_split o1 hi
  rw [List.map_append, List.map_append] at hnd
  have nd1 := List.nodup_append.mp hnd
  have nd2 := List.nodup_append.mp nd1.2.1
  obtain ⟨A, hA⟩ : ∃ A, A = (own x).map (·.1) := ⟨_, rfl⟩
  have hin : ∀ p ∈ own x, ∃ u, (p.1, HI.ex u) ∈ L ∧ ODr K G1 p.2 u := fun p hp => hq p (List.mem_append_right _ (List.mem_append_left _ hp))
  have hAL : ∀ a ∈ A, ∃ u, (a, HI.ex u) ∈ L := fun a ha => by
    rw [hA] at ha
    obtain ⟨p, hp, rfl⟩ := List.mem_map.mp ha
    obtain ⟨u, h1, _⟩ := hin p hp
    exact ⟨u, h1⟩
  have hAH : ∀ b ∈ A, H1 b ≠ none := fun b hb => by
    obtain ⟨u, hu⟩ := hAL b hb
    rw [j1.at hu]; exact fun z => by cases z
  have nil : ∀ b, H1 b = none → G1 b = none ∧ U.He b = none ∧ U.Ge b = none ∧ ¬ U.m b ∧ (∀ u, (b, u) ∉ L) ∧ b ∉ A := fun b nb => by
    have g1 : G1 b = none := none_of_ex j1.up nb
    exact ⟨g1, none_of_ex j1.keep nb, none_of_ex o.ge (none_of_ex e1 g1), fun z => (j1.msk b (.inl z)).2 nb, fun u z => (j1.msk b (.inr ⟨u, z⟩)).2 nb, fun z => hAH b z nb⟩
  obtain ⟨ga, hea, gea, ma, la, naA⟩ := nil a na
  obtain ⟨gdx, hedx, gedx, mdx, ldx, ndA⟩ := nil dx ndx
  have e10 : Ex G1 (upd (upd H1 dx (.own a)) a (.ins Cc dx [])) := fun b u e => by
    rw [upd_ne (ne_of_none e ga), upd_ne (ne_of_none e gdx)]; exact j1.up b u e
  refine ⟨x, a, dx, G1, vs, rfl, upd_same, ga, nd2.1, fun p hp => ?_, e10, sa, hp, fun p q u1 u2 H' G' hk hwo npq npa nqa npA nqA hp0 hq0 g1 g2 h1 r1 h2 r2 rv ga' e2 e3 hn => ⟨rfl, ?_⟩⟩
  · obtain ⟨u, k1, k2⟩ := hin p hp
    have n1 : p.1 ≠ a := fun z => la _ (z ▸ k1)
    have n2 : p.1 ≠ dx := fun z => ldx _ (z ▸ k1)
    exact ⟨(j1.msk _ (.inr ⟨_, k1⟩)).1, n1, u, by rw [upd_ne n1, upd_ne n2]; exact j1.at k1, k2⟩
  rw [← hA] at hk npA nqA
  obtain ⟨ρ', hr, kn⟩ := kn p q
  subst hr
  have old : ∀ b, upd (upd H1 dx (.own a)) a (.ins Cc dx []) b = none → H1 b = none := fun b hb => by
    have n1 : b ≠ a := fun z => by rw [z, upd_same] at hb; cases hb
    have n2 : b ≠ dx := fun z => by rw [z, upd_ne ne, upd_same] at hb; cases hb
    rw [upd_ne n1, upd_ne n2] at hb; exact hb
  obtain ⟨gp, hep, gep, mp, lp, _⟩ := nil p (old p hp0)
  obtain ⟨gq, heq, geq, mq, lq, _⟩ := nil q (old q hq0)
  have hk1 : ∀ b u, b ∉ A → H1 b = some u → H' b = some u := fun b u nb e => by
    have n1 : b ≠ a := fun z => by rw [z, na] at e; cases e
    have n2 : b ≠ dx := fun z => by rw [z, ndx] at e; cases e
    exact hk b u n1 nb (by rw [upd_ne n1, upd_ne n2]; exact e)
  obtain ⟨f, hf⟩ : ∃ f : Addr → HO, f = fun a => (H' a).getD (.rng 0 0) := ⟨_, rfl⟩
  have hfa : ∀ a ∈ A, H' a = some (f a) ∧ G' a = none := fun a ha => by
    rw [hA] at ha
    obtain ⟨p, hp, rfl⟩ := List.mem_map.mp ha
    obtain ⟨g, u, h1, _⟩ := hwo p hp
    have hfu : f p.1 = u := by rw [hf]; show (H' p.1).getD _ = u; rw [h1]; rfl
    exact ⟨by rw [h1, hfu], g⟩
  have loc : LOk U (chgL A f L) := o.lo.chgs
  have lc : ∀ b u, (b, u) ∈ chgL A f L → ∃ u0, (b, u0) ∈ L := fun b u hb => by
    rcases chgL_mem hb with ⟨_, _, h⟩ | ⟨_, h⟩
    · exact h
    · exact ⟨_, h⟩
  have lo2 : LOk U ((p, HI.ex u1) :: (q, HI.ex u2) :: chgL A f L) := (loc.cons (o := .ex u2) (fun u z => by obtain ⟨u0, z⟩ := lc _ _ z; exact lq _ z) mq heq geq).cons (o := .ex u1) (fun u z => by
    rcases List.mem_cons.mp z with z | z
    · cases z; exact npq rfl
    · obtain ⟨u0, z⟩ := lc _ _ z; exact lp _ z) mp hep gep
  have jn : J (U.hides ((p, HI.ex u1) :: (q, HI.ex u2) :: chgL A f L)) H' G' := {
    up := e3
    keep := fun b u e => hk1 b u (fun z => by obtain ⟨u', hu⟩ := hAL b z; have e9 : U.He b = some u := e; rw [show U.He b = none from (o.lo.nm _ hu).2.1] at e9; cases e9) (j1.keep b u e)
    new := fun b hb hg => by
      cases z : G1 b with
      | some u => exact j1.new b (by rw [z]; exact fun y => by cases y) hg
      | none =>
        rcases hn b hb z with rfl | hh
        · exact hea
        · exact none_of_ex j1.keep (old b hh)
    hid := ⟨U.st H1 H' j1.hid.1 fun b mb => by
      cases e : H1 b with
      | none => exact absurd e (j1.msk b (.inl mb)).2
      | some u => exact hk1 b u (fun z => by obtain ⟨u', hu⟩ := hAL b z; exact (o.lo.nm _ hu).1 mb) e, fun y hy => by
      rcases List.mem_cons.mp hy with rfl | hy
      · exact ⟨u1, h1, rfl⟩
      rcases List.mem_cons.mp hy with rfl | hy
      · exact ⟨u2, h2, rfl⟩
      · rcases chgL_mem (a := y.1) (u := y.2) hy with ⟨k1, k2, _⟩ | ⟨k1, k2⟩
        · rw [k2]; exact ⟨_, (hfa _ k1).1, rfl⟩
        · obtain ⟨u, k3, k4⟩ := j1.hid.2 _ k2
          exact ⟨u, hk1 _ _ k1 k3, k4⟩⟩
    msk := fun b mb => by
      have ol : (U.hides L).m b → G' b = none ∧ H' b ≠ none := fun mb => by
        by_cases bA : b ∈ A
        · exact ⟨(hfa b bA).2, by rw [(hfa b bA).1]; exact fun z => by cases z⟩
        obtain ⟨g, hne⟩ := j1.msk b mb
        refine ⟨?_, fun z => ?_⟩
        · cases y : G' b with
          | none => rfl
          | some u =>
            rcases hn b (by rw [y]; exact fun w => by cases w) g with rfl | hh
            · exact absurd na hne
            · exact absurd (old b hh) hne
        · cases e : H1 b with
          | none => exact hne e
          | some u => rw [hk1 b u bA e] at z; cases z
      rcases mb with mb | ⟨u, mb⟩
      · exact ol (.inl mb)
      rcases List.mem_cons.mp mb with e | mb
      · cases e; exact ⟨g1, by rw [h1]; exact fun z => by cases z⟩
      rcases List.mem_cons.mp mb with e | mb
      · cases e; exact ⟨g2, by rw [h2]; exact fun z => by cases z⟩
      · obtain ⟨u0, h0⟩ := lc _ _ mb
        exact ol (.inr ⟨u0, h0⟩) }
  have ee := e1.trans e2
  obtain ⟨v2, _, _, hq2, _, hup⟩ := nd_split (o1.mono e2) hi
  have oA : ∀ r : Addr × OD, r ∈ l1 ∨ r ∈ l2 → r.1 ∉ A := fun r hr z => by
    rw [hA] at z
    rcases hr with hr | hr
    · exact nd1.2.2 r.1 (List.mem_map.mpr ⟨r, hr, rfl⟩) r.1 (List.mem_append_left _ z) rfl
    · exact nd2.2.2 r.1 z r.1 (List.mem_map.mpr ⟨r, hr, rfl⟩) rfl
  have oc := hup (chgL A f L) _ (l1 ++ (own x ++ l2)) (Ex.refl _) (fun b I hb => chgL_out (fun z => by obtain ⟨u, hu⟩ := hAL _ z; exact o.lo.nce hb hu rfl) hb) (fun b u nb hb => chgL_out (fun z => nb (by rw [List.map_append, List.map_append, ← hA]; exact List.mem_append_right _ (List.mem_append_left _ z))) hb) loc (fun r hr => by
    have rest : r ∈ l1 ∨ r ∈ l2 → ∃ o, (r.1, HI.ex o) ∈ chgL A f L ∧ ODr K G' r.2 o := fun hr => by
      obtain ⟨u, h1, h2⟩ := hq2 r (hr.elim (fun h => List.mem_append_left _ h) fun h => List.mem_append_right _ (List.mem_append_right _ h))
      exact ⟨u, chgL_out (oA r hr) h1, h2⟩
    rcases List.mem_append.mp hr with hr | hr
    · exact rest (.inl hr)
    rcases List.mem_append.mp hr with hr | hr
    · have ha : r.1 ∈ A := by rw [hA]; exact List.mem_map.mpr ⟨r, hr, rfl⟩
      obtain ⟨u, hu⟩ := hAL _ ha
      obtain ⟨_, u', h1, h2⟩ := hwo r hr
      rw [(hfa _ ha).1] at h1
      cases h1
      exact ⟨_, chgL_in ha hu, h2⟩
    · exact rest (.inr hr)) rfl
  rw [set_self hi] at oc
  have sn : Sv K U ((p, HI.ex u1) :: (q, HI.ex u2) :: chgL A f L) G' (.nd none (obj x p q) [(p, w1 x), (q, w2 x)]) (.ref a) [p, q] := by
    refine .nd (fun _ z => by cases z) rv fun y hy => ?_
    rcases List.mem_cons.mp hy with rfl | hy
    · exact ⟨u1, by simp, r1⟩
    · rw [List.mem_singleton.mp hy]; exact ⟨u2, by simp, r2⟩
  refine n _ _ _ _ kn (oc.put (Ex.refl _) (fun y hy => List.mem_cons_of_mem _ (List.mem_cons_of_mem _ hy)) lo2 sn (by simpa using npq) (fun b hb u hu => ?_)) ee H' jn
  · obtain ⟨u0, hu⟩ := lc _ _ hu
    rcases List.mem_cons.mp hb with rfl | hb
    · exact lp _ hu
    · rw [List.mem_singleton.mp hb] at hu; exact lq _ hu
end
end
end Wp

set_option Elab.async false
set_option linter.all false
set_option maxRecDepth 100000
set_option maxHeartbeats 4000000
/-! sorted(xs, key=lambda x: x[0]) -/
namespace LK
open PySem PySem.Spec PyProof.Rows L2 LamX
abbrev firstOf (y : Str) (p1 p2 p3 : Pos) (kd : Nat) : Expr := .Subscript (.Name y p1) (.Constant (.int 0) kd p2) p3
section
variable {prog : Program} {w : World} {A : Around} {s : Shared} {f c' : Addr} {q : Str} {params : Arguments} {scope : Scope} {pm ctv : Value} {y : Str} {p1 p2 p3 : Pos} {kd : Nat}
theorem call_first {v : Value} {n : Int} (of : s.heap.get? f = some (PySem.W.kla_obj "<lambda>" q params (firstOf y p1 p2 p3 kd) scope [] pm c' ctv))
    (hc : ∃ (oc : Obj) (vs : Array Value) (t : Tok), s.heap.get? c' = some oc ∧ oc.data = .fields vs ∧ vs[1]? = some (.str q t)) (hd : A.depth < recursionLimit) (lim : s.heap.NoLimit)
    (hbind : ∀ pm c' ctv v, bindArgs (PySem.W.kla_fn "<lambda>" q params (firstOf y p1 p2 p3 kd) scope [] pm (.ref c') ctv) ⟨[v], []⟩ = pure [(y, v)])
    (hk : scope.kind = .function) (hco : scope.isCoroutine = false) (hgen : scope.isGenerator = false) (hloc : scope.names.lookup y = some .local) (hcell : ∀ x ∈ scope.names, x.2 ≠ .cell) (hdb : (y == ("__debug__" : Str)) = false)
    (hv : SrtO.IsFst s.heap v n) : wpAny (model prog w) A (call (.ref f) [v]) (PySem.W.KeyPure (.int n) s) (fun _ _ => False) s := by
  obtain ⟨oc, vs, t0, hoc, hdc, hvc⟩ := hc
  refine wpAny_call ?_
  refine PySem.W.kla_callFunE hd of rfl hco hgen rfl ⟨c', oc, vs, t0, rfl, hoc, hdc, hvc⟩ ?_
  rw [hbind]
  refine wpAny_pure (wpAny_newFunctionEnv hcell (fun x hx => by rw [List.mem_singleton.mp hx]; exact hloc) (fun h₁ hns hsb => ⟨lim.fresh _ hsb, ?_⟩) hk)
  have kp : ∀ b o, s.heap.get? b = some o → h₁.get? b = some o := fun b o e => hsb.extBut b o (Nat.ne_of_lt (Heap.lt_size e)) (Heap.get?_push_of_some _ e)
  refine PySem.W.kla_codeExpr ?_
  refine Subscript_ (wpAny_Name (wpAny_loadName_local (v := v) hk hloc hns (by simp) ?_) hdb)
  refine wpAny_Constant_int ?_
  obtain ⟨a, o, t, u, m, rfl, ho, hcls, hdt⟩ := hv
  refine subscriptTail_builtin (T := "tuple") ⟨o, kp _ _ ho, hcls⟩ slot_tuple_getitem.lookup (PyProof.Rows.getItem_tuple (j := 0) (x := .int n t) ⟨o, kp _ _ ho, hcls, m, hdt⟩ (by decide) (by decide) rfl rfl ?_)
  exact ⟨h₁, _, rfl, kp, .int n t⟩
end
end LK

set_option Elab.async false
set_option linter.all false
set_option maxRecDepth 100000
set_option maxHeartbeats 4000000
/-! sorted(xs, key=lambda x: x[0]): the rule -/
namespace LK
open PySem PySem.Spec PyProof.Rows L2 LamX
section
variable {X : Cx} {pins : List (Addr × Obj)} {σ : L2.St} {H : Hp} {s : Shared}
/-- what the making of a lambda does to the heap: nothing, or a new code object and the table longer by it -/
def Made (P : Addr) (q : Str) (ps : Array Value) (H H2 : Hp) : Prop := H2 = H ∨ ∃ (ps' : Array Value) (c' : Addr), H2 = upd (upd H P (.tbl ps')) c' (CodeO c' q) ∧ H c' = none ∧ TriplesOk ps'.toList ∧ ∀ (pos : Pos) (cv : Value), codeAmong pos ps'.toList = some cv → codeAmong pos ps.toList = some cv ∨ cv = .ref c'
theorem made_keep {P : Addr} {q : Str} {ps : Array Value} {H H2 : Hp} (m : Made P q ps H H2) {b : Addr} {o : HO} (n : b ≠ P) (e : H b = some o) : H2 b = some o := by
  rcases m with rfl | ⟨ps', c', rfl, nc, _, _⟩
  · exact e
  · rw [upd_ne (ne_of_none e nc), upd_ne n]; exact e
theorem make_lam {c P : Addr} {params : Arguments} {body : Expr} {scope : Scope} {pos : Pos} {E : Value → Shared → Prop} {Q : Value → Shared → Prop} {ps : Array Value} (I : Inv X pins σ H s) (TB : TabB X.base X.mg c P) (hcode : X.env.code = .ref c)
    (hP : H P = some (.tbl ps)) (ht : TriplesOk ps.toList) (ha : ∀ (pos : Pos) (cv : Value), codeAmong pos ps.toList = some cv → ∃ c, cv = .ref c ∧ H c = some (CodeO c (X.env.qual ++ "<lambda>"))) (hdef : defaultsOf params X.env = ([], [])) (hfree : ∀ y ∈ scope.names, y.2 = .free → ∃ c, X.env.cells.lookup y.1 = some c)
    (h : ∀ (f c' : Addr) (pm ctv : Value) (H1 : Hp) (s' : Shared), Inv X pins σ H1 s' → Made P (X.env.qual ++ "<lambda>") ps H H1 → H1 c' = some (CodeO c' (X.env.qual ++ "<lambda>")) →
      s'.heap.get? f = some (PySem.W.kla_obj "<lambda>" (X.env.qual ++ "<lambda>") params body scope (cloFrom X.env.cells scope.names []) pm c' ctv) → Q (.ref f) s') :
    wpAny (model X.prog X.w) X.A (eval (.Lambda params body scope pos) X.env) Q E s := by
  refine PySem.W.kla_eval hdef ?_
  have bP : s.heap.BuiltinsAt X.mg P := TB.bm.keeps I.bk
  have hP' : s.heap.get? P = some { cls := .none, data := .fields ps } := I.hok P _ hP
  cases hc : codeAmong pos ps.toList with
  | some cv =>
    obtain ⟨c', e, hco⟩ := ha pos cv hc
    subst e
    refine PySem.W.kla_makeFunctionHit (mg := X.mg) (c := c) (P := P) (ps := ps) (closure_ok hfree) I.ok.glob (I.mod.glob.keeps I.bk) hcode (TB.code.keeps I.bk) hP' ht hc bP fun ctv h' tk hx hsz => ?_
    exact h h'.objs.size c' ((X.mg "__name__").getD .none) ctv H _ (I.kept fun b o e => Heap.get?_push_of_some _ (hx b o e)) (.inl rfl) hco (Heap.get?_push_size _ rfl)
  | none =>
    refine PySem.W.kla_makeFunction (mg := X.mg) (c := c) (P := P) (ps := ps) (closure_ok hfree) I.ok.glob (I.mod.glob.keeps I.bk) hcode (TB.code.keeps I.bk) hP' ht hc TB.gP bP fun c' ctv h' tk hx hge hlt hrec htb => ?_
    obtain ⟨c2, oc, vs, t, e2, hoc, hd, hv⟩ := hrec
    cases e2
    have eL : (ps ++ #[rawInt pos.line, rawInt pos.col, .ref c']).toList = ps.toList ++ [rawInt pos.line, rawInt pos.col, .ref c'] := by simp
    refine h h'.objs.size c' ((X.mg "__name__").getD .none) ctv _ _ (inv_table (t' := tk) (more := #[rawInt pos.line, rawInt pos.col, .ref c']) I hP
      (fun b o hb e => Heap.get?_push_of_some _ (hx b o hb e)) (Heap.get?_push_of_some _ htb) hge ⟨oc, vs, t, Heap.get?_push_of_some _ hoc, hd, hv⟩) (.inr ⟨_, c', rfl, I.hok.fresh hge, by rw [eL]; exact PySem.TriplesOk_snoc _ _ _ _ ht, fun p' cv hcv => ?_⟩) upd_same (Heap.get?_push_size _ rfl)
    rw [eL] at hcv
    exact among_app _ ht hcv
abbrev leI : V × Int → V × Int → Bool := fun a b => decide (a.2 ≤ b.2)
def SLk (K : PySem.W.Frag) (P : Addr) (q : Str) (Q : VK) (v : V) (H1 : Hp) : Prop := ∃ (a : Addr) (xs : List V) (is : List Int) (ps : Array Value), v = .ref a ∧ SqL K H1 a xs ∧ is.length = xs.length ∧ (∀ (i : Nat) (x : V) (n : Int), xs[i]? = some x → is[i]? = some n → Fst K H1 x n) ∧
  H1 P = some (.tbl ps) ∧ TriplesOk ps.toList ∧ (∀ (pos : Pos) (cv : Value), codeAmong pos ps.toList = some cv → ∃ c, cv = .ref c ∧ H1 c = some (CodeO c q)) ∧
  ∀ (H2 : Hp) (p : Addr), Made P q ps H1 H2 → H2 p = none → Q (.ref p) (upd H2 p (.lst (((xs.zip is).mergeSort leI).map (·.1))))
/-- sorted(xs, key=lambda x: x[0]) -/
def tSL (K : PySem.W.Frag) (P : Addr) (q : Str) (te : TE) : TE := fun σ H Q => te σ H fun v H1 => SLk K P q Q v H1
theorem sql_made {K : PySem.W.Frag} {P : Addr} {q : Str} {ps : Array Value} {H H2 : Hp} {a : Addr} {xs : List V} (hP : H P = some (.tbl ps)) (m : Made P q ps H H2) (h : SqL K H a xs) : SqL K H2 a xs := by
  rcases h with (h | ⟨o, h⟩) | h
  · exact .inl (.inl (made_keep m (fun z => by rw [z, hP] at h; cases h) h))
  · exact .inl (.inr ⟨o, made_keep m (fun z => by rw [z, hP] at h; cases h) h⟩)
  · exact .inr h
theorem sqt_made {K : PySem.W.Frag} {P : Addr} {q : Str} {ps : Array Value} {H H2 : Hp} {a : Addr} {xs : List V} (hP : H P = some (.tbl ps)) (m : Made P q ps H H2) (h : SqT K H a xs) : SqT K H2 a xs := by
  rcases h with (h | ⟨o, h⟩) | h
  · exact .inl (.inl (made_keep m (fun z => by rw [z, hP] at h; cases h) h))
  · exact .inl (.inr ⟨o, made_keep m (fun z => by rw [z, hP] at h; cases h) h⟩)
  · exact .inr h
theorem vals_each {R : Value → V × Int → Prop} : ∀ {vs : List Value} {bs : List (V × Int)}, PySem.W.EachIs R vs bs → (∀ v b, R v b → RelV b.1 v) → Vals (bs.map (·.1)) vs
  | _, _, .nil, _ => .nil
  | _, _, .cons h t, k => .cons (k _ _ h) (vals_each t k)
theorem clo_nil {cells : List (Str × Addr)} : ∀ (l : List (Str × NameKind)) (acc : List (Str × Addr)), (∀ y ∈ l, y.2 ≠ .free) → cloFrom cells l acc = acc
  | [], _, _ => rfl
  | (n, k) :: r, acc, h => by
    have h1 : (k == NameKind.free) = false := by
      have := h (n, k) (List.mem_cons_self ..)
      simpa using this
    unfold cloFrom
    rw [h1]
    exact clo_nil r acc fun y hy => h y (List.mem_cons_of_mem _ hy)
theorem pe_sortL {x : Str} {c P : Addr} {k : Nat} {e : Expr} {te : TE} {params : Arguments} {y : Str} {p1 p2 p3 p pos lpos kpos : Pos} {kd : Nat} {scope : Scope} (he : PA X [e] (tCons te tNil)) (hg : Gl X x) (hm : X.mg x = none) (hv : bootBuiltins x = some (.builtin "sorted"))
    (TB : TabB X.base X.mg c P) (hcode : X.env.code = .ref c) (hr : Room (k + 1) X.A) (hdef : defaultsOf params X.env = ([], [])) (hfree : ∀ y ∈ scope.names, y.2 ≠ .free)
    (hbind : ∀ (q : Str) (cl : List (Str × Addr)) (pm c' ctv v : Value), bindArgs (PySem.W.kla_fn "<lambda>" q params (firstOf y p1 p2 p3 kd) scope cl pm c' ctv) ⟨[v], []⟩ = pure [(y, v)])
    (hk : scope.kind = .function) (hco : scope.isCoroutine = false) (hgen : scope.isGenerator = false) (hloc : scope.names.lookup y = some .local) (hcell : ∀ x ∈ scope.names, x.2 ≠ .cell) (hdb : (y == ("__debug__" : Str)) = false)
    (hst : backTo pos (starEach [e] X.env) = (false, eval e X.env) :: backTo pos (starEach [] X.env) := by rfl) (hpl : (backTo pos (starEach [e] X.env)).any (·.1) = false := by rfl)
    (hn : x ≠ "__name__" := by decide) (hdx : (x == ("__debug__" : Str)) = false := by decide) :
    PE X (.Call (.Name x p) [e] [⟨some "key", .Lambda params (firstOf y p1 p2 p3 kd) scope lpos, kpos⟩] pos) (tSL X.K P (X.env.qual ++ "<lambda>") te) := by
  refine ⟨fun pins s σ H Q I h => ?_⟩
  refine wpAny_Call_Name_kw (ld_blt I hg hm hv ?_ hn hdx)
  refine PyProof.Rows.callWith_kw (thn (he.run pos pins s σ H (fun vs H1 => match vs with | [v] => SLk X.K P (X.env.qual ++ "<lambda>") Q v H1 | _ => False) I h) fun us s1 ⟨vs, H1, I1, r1, q1⟩ => ?_) hst hpl rfl rfl
  obtain ⟨v, rfl, a, xs, is, ps, rfl, hs, hl, hf, hP, ht, ha, q⟩ : ∃ v, vs = [v] ∧ SLk X.K P (X.env.qual ++ "<lambda>") Q v H1 := by
    match vs, q1 with
    | [v], q1 => exact ⟨v, rfl, q1⟩
  obtain ⟨u, rfl, ru⟩ := vals1 r1
  obtain rfl : u = Value.ref a := ru
  show wpAny _ _ (evalAll [(do let v ← eval (.Lambda params (firstOf y p1 p2 p3 kd) scope lpos) X.env; standAt pos; pure v)]) _ _ s1
  refine wpAny_evalAll_cons (wpAny_bind (make_lam I1 TB hcode hP ht ha hdef (fun y hy z => absurd z (hfree y hy)) fun f c' pm ctv H2 s2 I2 mk hc2 of => wpAny_bind (wpAny_standAt (wpAny_pure (wpAny_evalAll_nil ?_)))))
  show wpAny _ _ (call (.builtin "sorted") [.ref a] [(Str.ofString "key", .ref f)]) _ _ s2
  obtain ⟨its, rv, hl2, hz⟩ := I2.list (sql_made hP mk hs)
  obtain ⟨oc, vc, t, hoc, hdc, hvc⟩ := (I2.hok c' _ hc2).1
  have hcl : cloFrom X.env.cells scope.names [] = [] := clo_nil scope.names [] hfree
  rw [hcl] at of
  have hxs : xs.length = (xs.zip is).length := by rw [List.length_zip]; omega
  have hm1 : (xs.zip is).map (·.1) = xs := by rw [List.map_fst_zip (by omega)]
  have ei : PySem.W.EachIs (fun v (b : V × Int) => RelV b.1 v ∧ SrtO.IsFst s2.heap v b.2) its (xs.zip is) := by
    refine PySem.W.EachIs.of_zip (by rw [← rv.length, hxs]) fun p hp => ?_
    obtain ⟨i, hi⟩ := List.getElem?_of_mem hp
    obtain ⟨h1, h2⟩ := List.getElem?_zip_eq_some.mp hi
    obtain ⟨h3, h4⟩ := List.getElem?_zip_eq_some.mp (show (xs.zip is)[i]? = some (p.2.1, p.2.2) from h2)
    have hr1 : RelV p.2.1 p.1 := by
      obtain ⟨u, hu, r⟩ := rv.get h3
      rw [h1] at hu
      cases hu
      exact r
    refine ⟨hr1, ?_⟩
    obtain ⟨tt, w, ex, hT⟩ := hf i _ _ h3 h4
    rw [ex] at hr1
    have hr2 : p.1 = Value.ref tt := hr1
    obtain ⟨its2, r2, ⟨o, ho, hc, n, hd⟩, _⟩ := I2.tuple (sqt_made hP mk hT)
    obtain ⟨u1, u2, rfl, ri, rj⟩ := vals2 r2
    obtain ⟨t1, rfl⟩ := ri
    rw [hr2]
    exact ⟨tt, o, t1, u2, n, rfl, ho, hc, hd⟩
  have hun := hr.un
  refine PySem.W.sorted_key_data (bs := xs.zip is) (b := false) (fun b => .int b.2) hl2.isList ei (PySem.W.AllAlike.of (enc := fun b : V × Int => .int b.2) fun _ _ => by simp [PySem.W.alike]) (PySem.W.Sortable.others (enc := fun b : V × Int => .int b.2) fun _ => ⟨fun z => PyData.noConfusion z, fun _ z => PyData.noConfusion z⟩) (by rw [← hxs]; exact hz) (fun b _ => ?_) (PyProof.Rows.ksk_s1 _ _) (fun _ => PyProof.Rows.ksk_l1 _ _) (fun _ => PyProof.Rows.ksk_t1 _ _) (fun v b hR _ h tk kp => ?_) fun out c2 h' tk kp _ hL hlen he => ?_
  · simp only [PyData.depth]; omega
  · exact call_first (kp _ _ of) ⟨oc, vc, t, kp _ _ hoc, hdc, hvc⟩ (show X.A.depth < recursionLimit from hr.depth) (I2.nolimit.keeps kp) (fun pm c' ctv v => hbind _ _ _ _ _ _) hk hco hgen hloc hcell hdb (hR.2.keeps fun b o e _ => kp b o e)
  · rw [PySem.W.dataLe_int] at he
    have rr := vals_each he fun _ _ z => z.1
    have hd : s2.heap.objs.size ≤ s2.heap.objs.size + 1 := Nat.le_succ _
    refine ⟨.ref (s2.heap.objs.size + 1), upd H2 (s2.heap.objs.size + 1) (.lst (((xs.zip is).mergeSort leI).map (·.1))), I2.laid (t' := tk) kp hd ⟨?_, out, c2, rr, hL⟩, rfl, q H2 _ mk (I2.hok.fresh hd)⟩
    rw [List.length_map, List.length_mergeSort, ← hxs]
    exact hz
end
end LK
namespace Wp
open PySem L2 Evl StX
set_option autoImplicit false
section
variable {K : PySem.W.Frag} {ρ : List E} {te : TE} {ts : TS} {N : List E → Prop} {P : Addr} {q : Str}
theorem rpa_pairs {β : Type} {G : Hp} {f : β → D} : ∀ zs : List (V × β), (∀ p ∈ zs, Rp K G p.1 (f p.2)) → RpA K G (zs.map (·.1)) ((zs.map (·.2)).map f)
  | [], _ => .nil
  | z :: zs, h => .cons (h z (List.mem_cons_self ..)) (rpa_pairs zs fun p hp => h p (List.mem_cons_of_mem _ hp))
abbrev leF (β : Type) : Int × β → Int × β → Bool := fun a b => decide (a.1 ≤ b.1)
theorem rpa_sortL {G : Hp} {vs : List V} {ps : List (Int × D)} (h : RpA K G vs (ps.map fsD)) : RpA K G (((vs.zip (ps.map (·.1))).mergeSort LK.leI).map (·.1)) ((ps.mergeSort (leF D)).map fsD) := by
  have hl : vs.length = ps.length := by rw [h.len, List.length_map]
  obtain ⟨zz, hz⟩ : ∃ zz, zz = vs.zip ps := ⟨_, rfl⟩
  have h1 : zz.map (·.1) = vs := by rw [hz, List.map_fst_zip (by omega)]
  have h2 : zz.map (·.2) = ps := by rw [hz, List.map_snd_zip (by omega)]
  have h3 : vs.zip (ps.map (·.1)) = zz.map fun p => (p.1, p.2.1) := by
    rw [hz, List.zip_map_right]
    rfl
  have e1 : (vs.zip (ps.map (·.1))).mergeSort LK.leI = (zz.mergeSort fun a b => decide (a.2.1 ≤ b.2.1)).map fun p => (p.1, p.2.1) := by
    rw [h3]
    exact (List.map_mergeSort (r := fun a b : V × (Int × D) => decide (a.2.1 ≤ b.2.1)) (s := LK.leI) (f := fun p : V × (Int × D) => (p.1, p.2.1)) (l := zz) fun _ _ _ _ => rfl).symm
  have e2 : ps.mergeSort (leF D) = (zz.mergeSort fun a b => decide (a.2.1 ≤ b.2.1)).map (·.2) := by
    rw [← h2]
    exact (List.map_mergeSort (r := fun a b : V × (Int × D) => decide (a.2.1 ≤ b.2.1)) (s := leF D) (f := fun p : V × (Int × D) => p.2) (l := zz) fun _ _ _ _ => rfl).symm
  rw [e1, e2, List.map_map]
  refine rpa_pairs _ fun p hp => ?_
  have hp := List.mem_mergeSort.mp hp
  rw [hz] at hp
  obtain ⟨i, hi⟩ := List.getElem?_of_mem hp
  obtain ⟨a1, a2⟩ := List.getElem?_zip_eq_some.mp (show (vs.zip ps)[i]? = some (p.1, p.2) from hi)
  obtain ⟨d, hd, r⟩ := h.at a1
  rw [List.getElem?_map, a2] at hd
  cases hd
  exact r
theorem nodup_fst {l : List (Addr × OD)} (h : (l.map (·.1)).Nodup) {a b : Addr × OD} (ha : a ∈ l) (hb : b ∈ l) (e : a.1 = b.1) : a = b := by
  induction l with
  | nil => cases ha
  | cons c l ih =>
    rw [List.map_cons, List.nodup_cons] at h
    rcases List.mem_cons.mp ha with rfl | ha2 <;> rcases List.mem_cons.mp hb with rfl | hb2
    · rfl
    · exact absurd (List.mem_map.mpr ⟨b, hb2, e.symm⟩) h.1
    · exact absurd (List.mem_map.mpr ⟨a, ha2, e⟩ : b.1 ∈ l.map (·.1)) h.1
    · exact ih h.2 ha2 hb2
theorem dex_sortL {Q : E → List E → Prop} (h : DE K te ρ fun e => ∃ (ps : List (Int × D)) (i : Nat) (ad : Option Addr) (d0 : D) (l1 l2 : List (Addr × OD)), (e = .d (.lst (ps.map fsD)) ∨ e = .own (ps.map fsD)) ∧ ρ[i]? = some (E.nd ad d0 (l1 ++ ((P, OD.tab q) :: l2))) ∧
    Q (.d (.lst ((ps.mergeSort (leF D)).map fsD))) ρ) : DEX K (LK.tSL K P q te) ρ Q := fun U σ L G o H j QH qf =>
  h U σ L G o H j _ fun v H1 G1 j1 ⟨e1, x, sx, ps, i, ad, d0, l1, l2, hx, hi, k⟩ => by
    obtain ⟨a, vs, rfl, hs, rr⟩ : ∃ a vs, v = .ref a ∧ SqL K H1 a vs ∧ RpA K G1 vs (ps.map fsD) := by
      rcases hx with rfl | rfl
      · cases (sx : Rp K G1 v (.lst (ps.map fsD))) with | lst a b => exact ⟨_, _, rfl, sq_of (j1.up _ _ a), b⟩
      · obtain ⟨a, vs, rfl, hm, b⟩ := sx; exact ⟨a, vs, rfl, sq_of (j1.at hm), b⟩
    have o1 := o.mono e1
    obtain ⟨v0, _, _, hq, hnd, hup⟩ := nd_split o1 hi
    obtain ⟨u, hu, hod⟩ := hq (P, .tab q) (List.mem_append_right _ (List.mem_cons_self ..))
    cases hod with
    | @tab _ pt ht ha =>
      refine ⟨a, vs, ps.map (·.1), pt, rfl, hs, by rw [rr.len, List.length_map, List.length_map], fun i x n hx hn => ?_, j1.at hu, ht, fun pos cv hc => ?_, fun H2 p mk np => ?_⟩
      · obtain ⟨d, hd, hr⟩ := rr.at hx
        rw [List.getElem?_map] at hn hd
        obtain ⟨p, hp, rfl⟩ := Option.map_eq_some_iff.mp hn
        rw [hp] at hd
        cases hd
        exact fst_at j1.up hr
      · obtain ⟨c, h1, h2⟩ := ha pos cv hc
        exact ⟨c, h1, j1.up _ _ h2⟩
      rcases mk with rfl | ⟨ps', c', rfl, nc, ht', ha'⟩
      · exact qf _ _ ρ L _ _ k (o1.mono (Ex.new (j1.free np))) (e1.trans (Ex.new (j1.free np))) (.lst upd_same ((rpa_sortL rr).mono (Ex.new (j1.free np)))) (j1.alloc np)
      · have ncP : c' ≠ P := fun z => by rw [z, j1.at hu] at nc; cases nc
        have eH : chgH [P] (fun _ => HO.tbl ps') H1 = upd H1 P (.tbl ps') := by
          funext b
          by_cases z : b = P
          · rw [z, chgH_in (by simp), upd_same]
          · rw [chgH_out (by simpa using z), upd_ne z]
        have j2 : J (U.hides (chgL [P] (fun _ => HO.tbl ps') L)) (upd H1 P (.tbl ps')) G1 := by
          rw [← eH]
          exact J.chgs o.lo (fun b hb => by rw [List.mem_singleton.mp hb]; exact ⟨_, hu⟩) j1
        have nc2 : upd H1 P (.tbl ps') c' = none := by rw [upd_ne ncP]; exact nc
        have j3 := j2.alloc (o := LamX.CodeO c' q) nc2
        have gc : G1 c' = none := j1.free nc
        have x1 : Ex G1 (upd G1 c' (LamX.CodeO c' q)) := Ex.new gc
        have lo2 : LOk U (chgL [P] (fun _ => HO.tbl ps') L) := o.lo.chgs
        have oc := hup (chgL [P] (fun _ => HO.tbl ps') L) (upd G1 c' (LamX.CodeO c' q)) (l1 ++ ((P, OD.tab q) :: l2)) x1 (fun b I hb => chgL_out (fun z => by rw [List.mem_singleton.mp z] at hb; exact o.lo.nce hb hu rfl) hb) (fun b u nb hb => chgL_out (fun z => nb (by rw [List.mem_singleton.mp z]; simp)) hb) lo2 (fun r hr => ?_) rfl
        · rw [set_self hi] at oc
          have x2 : Ex (upd G1 c' (LamX.CodeO c' q)) (upd (upd G1 c' (LamX.CodeO c' q)) p (.lst (((vs.zip (ps.map (·.1))).mergeSort LK.leI).map (·.1)))) := Ex.new (j3.free np)
          exact qf _ _ ρ _ _ _ k (oc.mono x2) (e1.trans (x1.trans x2)) (.lst upd_same ((rpa_sortL rr).mono (x1.trans x2))) (j3.alloc np)
        · by_cases z : r.1 = P
          · have hr2 : r = (P, OD.tab q) := nodup_fst hnd hr (List.mem_append_right _ (List.mem_cons_self ..)) z
            subst hr2
            refine ⟨.tbl ps', chgL_in (by simp) hu, .tab ht' fun pos cv hc => ?_⟩
            rcases ha' pos cv hc with h1 | rfl
            · obtain ⟨c, h1, h2⟩ := ha pos cv h1
              exact ⟨c, h1, x1 _ _ h2⟩
            · exact ⟨c', rfl, upd_same⟩
          · obtain ⟨u1, h1, h2⟩ := hq r hr
            exact ⟨u1, chgL_out (by simpa using z) h1, h2.mono x1⟩
/-- return e, where e changes the environment -/
theorem dsx_retX {R : D → List E → Prop} (h : DEX K te ρ fun e ρ' => DD e fun d => R d ρ') : DSX K (tRet te) ρ N R := fun U σ L G Dn o n r H j => h U σ L G o H j _ fun v e ρ' L' H' G' k o' x sx j' => by
  obtain ⟨d, rfl, hd⟩ := k
  exact r d v ρ' σ L' G' hd sx o' x H' j'
end
end Wp
namespace L2
open PySem PySem.Spec PyProof.Rows
/-- a def whose code object is told -/
theorem FunD.okC {P : Program} {w : World} {K : PySem.W.Frag} {mg : Str → Option Value} {base : Heap} {x qual : Str} {params : Arguments} {body : List Stmt} {scope : Scope} {dvs : List V} {kws : List (Str × V)} {fd : FuncData} {dn : He.Defn}
    {CX : CXT} {N ps : List Str} {k : Nat} {sp : Sp} (F : FunD K x qual params body scope dvs kws (He.fAd K dn) fd) (S : FnScope N ps scope) (len : ∀ vs H Q E, sp vs H Q E → vs.length = ps.length)
    (hbody : ∀ (A : Around) (outer : List Env) (s : Shared) (H : Hp) (vs : List V) (Q : VK) (E : XK), Room k (A.deeper (envOfC qual scope s.heap.objs.size (He.fAd K dn) (.ref (He.cT K dn).1))) → sp vs H Q E →
      ∃ t, PSs (cxOf CX P w K mg base N qual scope (He.fAd K dn) (.ref (He.cT K dn).1) A outer s H E) body t ∧ t { nx := fun _ H' => Q .non H', rt := Q } (start N vs) H) : FnOk P w K mg base CX (k + 1) (He.fAd K dn) fd ps sp := by
  obtain ⟨oc, od, dV, kV, doc, pm, an, cdv, ct, osl, rfl, lk, hcd, _, _⟩ := F.ex
  obtain ⟨c, rfl⟩ := He.codeIn_ref hcd
  have e : (He.cT K dn).1 = c := He.codeOf_eq lk rfl
  rw [e] at hbody
  exact fn_of lk hcd S len fun A outer s H vs Q E hr hsp => hbody A outer s H vs Q E hr hsp
end L2
namespace Wp
open PySem L2 Evl StX
theorem ri_ho {K : PySem.W.Frag} {F : Hp} {a C : Addr} {ks : List Str} {ds : List D} (r : Rp K F (.ref a) (.obj C ks ds)) : F a ≠ none := by
  cases r with
  | obj g _ _ => rw [g]; exact fun z => by cases z
end Wp
/-! ### the head's look, with tables of code objects -/
namespace Pf
open PySem
structure SaysL (fa : List He.Fa) (fn : List He.DefD) (tf : List He.Defn) (ex : PySem.W.Frag → Bool) (h : Heap) (K : PySem.W.Frag) : Prop where
  d : He.SaysD fa fn K
  x : ex K = true
  hd : ∀ p ∈ tf, PySem.W.codeHdIn K (He.cT K p).1 (He.cT K p).2 = true
  out : ∀ p ∈ tf, K.lookup (He.cT K p).2 = none
  empty : ∀ p ∈ tf, h.get? (He.cT K p).2 = some { cls := .none, data := .fields #[] }
def obsL (n : Nat) (fa : List He.Fa) (fn : List He.DefD) (tf : List He.Defn) (ex : PySem.W.Frag → Bool) (g : Addr → Option Obj) : AlE := (He.obsD fa fn (He.frT g (He.asD g n)), ex (He.frT g (He.asD g n)) && He.tabsB g tf (He.frT g (He.asD g n)))
theorem saysL_of {n : Nat} {fa : List He.Fa} {fn : List He.DefD} {tf : List He.Defn} {ex : PySem.W.Frag → Bool} {h : Heap} (e : obsL n fa fn tf ex h.get? = (He.valD fn, true)) : SaysL fa fn tf ex h (He.frT h.get? (He.asD h.get? n)) := by
  have e1 : He.obsD fa fn (He.frT h.get? (He.asD h.get? n)) = He.valD fn := congrArg (fun z : AlE => z.1) e
  have e2 : (ex (He.frT h.get? (He.asD h.get? n)) && He.tabsB h.get? tf (He.frT h.get? (He.asD h.get? n))) = true := congrArg (fun z : AlE => z.2) e
  obtain ⟨h1, h2⟩ := Bool.and_eq_true_iff.mp e2
  have key : ∀ p ∈ tf, PySem.W.codeHdIn (He.frT h.get? (He.asD h.get? n)) (He.cT (He.frT h.get? (He.asD h.get? n)) p).1 (He.cT (He.frT h.get? (He.asD h.get? n)) p).2 = true ∧ ∃ o, h.get? (He.cT (He.frT h.get? (He.asD h.get? n)) p).2 = some o ∧ He.emptyTab o = true := fun p hp => by
    obtain ⟨h3, h4⟩ := Bool.and_eq_true_iff.mp (List.all_eq_true.mp h2 p hp)
    refine ⟨h3, ?_⟩
    cases q : h.get? (He.cT (He.frT h.get? (He.asD h.get? n)) p).2 with
    | none => rw [q] at h4; cases h4
    | some o => rw [q] at h4; exact ⟨o, rfl, h4⟩
  exact ⟨e1, h1, fun p hp => (key p hp).1, fun p hp => let ⟨_, o, q, z⟩ := key p hp; He.frT_none q z, fun p hp => by
    obtain ⟨_, o, q, z⟩ := key p hp
    rw [q, He.emptyTab_eq z]⟩
def hookL (n : Nat) (fa : List He.Fa) (fn : List He.DefD) (tf : List He.Defn) (ex : PySem.W.Frag → Bool) : PySem.W.Hook where
  α := AlE
  obs := fun s => obsL n fa fn tf ex s.heap.get?
  val := fun _ => (He.valD fn, true)
  says := fun _ h => ∃ K : PySem.W.Frag, K.In h ∧ SaysL fa fn tf ex h K
  of := fun _ _ e => ⟨_, He.frT_in, saysL_of e⟩
  keeps := fun _ _ _ ⟨K, hK, c⟩ k => ⟨K, PySem.W.Frag.In.keeps hK k, ⟨c.d, c.x, c.hd, c.out, fun p hp => k _ _ (c.empty p hp)⟩⟩
theorem obsL_eq {n : Nat} {fa : List He.Fa} {fn : List He.DefD} {tf : List He.Defn} {ex : PySem.W.Frag → Bool} {g : Addr → Option Obj} {s : Shared} (h : ∀ a, g a = s.heap.get? a) : obsL n fa fn tf ex g = (hookL n fa fn tf ex).obs s := by
  have e : g = s.heap.get? := funext h
  rw [e] <;> rfl
end Pf
namespace Wp
open PySem L2 Evl StX
section
variable {K : PySem.W.Frag} {ρ : List E} {ts : TS} {N : List E → Prop} {R : D → List E → Prop}
/-- a statement that returns nothing, within a def that changes what it is handed -/
theorem dsx_ds (h : DS K ts ρ N (fun _ => False) (fun _ => False) (fun _ => False)) : DSX K ts ρ N R := fun U σ L G Dn o n r H j => h U σ L G Dn o n (fun _ _ _ _ z => z.elim) (fun _ _ _ _ z => z.elim) (fun _ _ _ _ z => z.elim) H j
end
end Wp
namespace Wp
open PySem L2 Evl StX
section
variable {K : PySem.W.Frag} {ρ : List E} {tas : TA} {α : Type} {w : α → OD} {as1 as2 : α → List D} {pre : α → Prop} {R : α → D → OD → Prop}
/-- an object made of arguments that change the environment -/
theorem dex_makeO {Cc : Addr} {E' : XK} {Q : E → List E → Prop} (hw : ∀ x, w x = .ins Cc [] []) (ha1 : ∀ x, as1 x = []) (h : DAX K tas ρ fun as ρ1 => ∃ x, as = as2 x ∧ pre x ∧ (∀ d w', R x d w' → d = .non) ∧ ∀ w', R x .non w' → ∃ ks ds, w' = .ins Cc ks ds ∧ Q (.d (.obj Cc ks ds)) ρ1) : DEX K (tMake Cc (spO K w as1 as2 pre R) [] E' tas) ρ Q := fun U σ L G o H j QH q => by
  refine h U σ L G o H j _ fun vs as ρ1 L1 H1 G1 ⟨x, ea, p, hn, k⟩ o1 e1 sa j1 => ?_
  subst ea
  refine make_run o1 j1 x (hw x) (ha1 x) sa p hn fun a w' u' H' G' hR ga ug uh hm hl e' hr j' => ?_
  obtain ⟨ks, ds, rfl, kq⟩ := k w' hR
  cases hr with
  | @ins _ dx fvs _ _ ek bb =>
    exact q _ _ ρ1 L1 _ _ kq ((o1.mono e').mono (Ex.new ga)) ((e1.trans e').trans (Ex.new ga)) (.obj upd_same ek (bb.mono (Ex.new ga))) (j'.showHead hm uh (fun q hq z => hl q.2 (by rw [← z]; exact hq)))
end
end Wp
namespace StX
open PySem PySem.Spec PyProof.Rows L2
section
variable {X : Cx} {CX : CXT} {k : Nat} {f C : Addr} {fd : FuncData} {ps : List Str} {ds : List Value} {dvs : List V} {sp : Sp} {E : XK} {x : Str} {e : Expr} {te : TE} {p sp_ pos : Pos}
/-- C(*y), C a class of the module -/
theorem pe_makeS1 {K : PySem.W.Frag} (M : Mk X.K C f) (F : FnOk X.prog X.w X.K X.mg X.base CX k f fd ps sp) (hr : Room (k + 1) X.A) (hg : Gl X x) (hm : X.mg x = some (.ref C)) (hb : Binds X.K fd ps ds) (hd : Vals dvs ds) (hx : Passes CX X E) (he : PE X e te) (hdb : (x == ("__debug__" : Str)) = false := by decide)
    (hst : starEach [.Starred e sp_] X.env = [(true, eval e X.env)] := by rfl) (hK : X.K = K := by rfl) :
    PE X (.Call (.Name x p) [.Starred e sp_] [] pos) (tMake C sp dvs E (tStar K te tNil)) := by
  subst hK
  refine ⟨fun pins s σ H Q I h => ?_⟩
  refine wpAny_Call_Name_kw (ld_glob I hg hm ?_ hdb)
  refine PySem.W.callWith_S (h₀ := X.base) I.ok.mod.kin M.kp (thn (he.run pins s σ H _ I h) fun v s1 ⟨y, H1, I1, ry, a, xs, ey, hxs, q⟩ => ?_) hst
  subst ey
  obtain rfl : v = Value.ref a := ry
  exact star_any I1 hxs fun us s2 I2 rv => ⟨I2.kIn, run_make M F hr hb hd hx I2 (vs := xs ++ []) (by rw [List.append_nil]; exact rv) q⟩
end
end StX

set_option Elab.async false
set_option linter.all false
set_option maxRecDepth 100000
set_option maxHeartbeats 4000000
/-! A comprehension with two for. -/
namespace Wp
open PySem L2 Evl StX
set_option autoImplicit false
section
variable {K : PySem.W.Frag} {ρ : List E} {tt : TT} {te : TE} {g : TG} {vs : List Nat} {QN : List D → Prop}
def FlatE (ρ : List E) : Prop := ∀ e ∈ ρ, e = .any ∨ ∃ d, e = .d d
theorem flat_env {U : Vx} {σ : L2.St} {L L' : Ow} {G : Hp} (o : EnvOk K U ρ σ L G) (hf : FlatE ρ) (lo : LOk U L') : EnvOk K U ρ σ L' G := by
  obtain ⟨fp, of⟩ := o.fs
  refine ⟨o.len, ⟨fun _ => [], fun i e h => ?_, fun _ => List.nodup_nil, fun _ _ _ _ h => (by cases h), fun _ a h => (by cases h)⟩, lo, o.ge⟩
  obtain ⟨u, h1, h2⟩ := of.sl i e h
  rcases hf e (List.mem_of_getElem? h) with rfl | ⟨d, rfl⟩
  · exact ⟨u, h1, .inl ⟨rfl, rfl⟩⟩
  · rcases h2 with ⟨h2, _⟩ | ⟨v, h3, h4⟩
    · cases h2
    · refine ⟨u, h1, .inr ⟨v, h3, ?_⟩⟩
      generalize fp i = F at h4
      cases h4 with
      | d r => exact .d r
theorem lc2_in {J : It} {n : Nat} {Gd : Hp → Prop} {Y : Nat → Hp → V → Hp → Prop} (w : Walk J n Gd Y) {σ : L2.St} {H0 : Hp} {D : Addr} {Nx : Hp → Prop} (Pv : Nat → Hp → Prop) (h0 : Pv 0 H0) (hG : ∀ i H, i ≤ n → Pv i H → Gd H)
    (hs : ∀ i x H H', i < n → Pv i H → Y i H x H' → g x (L2.wipe σ vs) H' fun σ2 H2 => L2.wipe σ2 vs = L2.wipe σ vs ∧ tt σ2 H2 fun b H3 =>
      if b = true then te σ2 H3 fun y H4 => ∃ acc, H4 D = some (.lst acc) ∧ acc.length < sizeLine ∧ Pv (i + 1) (upd H4 D (.lst (acc ++ [y]))) else Pv (i + 1) H3) (hd : ∀ H, Pv n H → Nx H) :
    ∃ W : Nat → Nat → Hp → Prop, (∃ m, W 0 m H0) ∧ ∀ i m H, W i m H →
      (J.stop i H ∧ Nx H) ∨ (J.go i H ∧ ∃ Nx1 : Hp → Prop, (∀ H', Nx1 H' → ∃ m', m' < m ∧ W (i + 1) m' H') ∧ ∀ x H', J.yld i H x H' → g x (L2.wipe σ vs) H' fun σ2 H2 => L2.wipe σ2 vs = L2.wipe σ vs ∧ tt σ2 H2 fun b H3 =>
        if b = true then te σ2 H3 fun y H4 => ∃ acc, H4 D = some (.lst acc) ∧ acc.length < sizeLine ∧ Nx1 (upd H4 D (.lst (acc ++ [y]))) else Nx1 H3) := by
  refine ⟨fun i m H => m = n - i ∧ i ≤ n ∧ Pv i H, ⟨n, by simp, Nat.zero_le _, h0⟩, ?_⟩
  rintro i m H ⟨rfl, hi, p⟩
  have q := hG i H hi p
  by_cases hlt : i < n
  · refine .inr ⟨w.goes i H hlt q, Pv (i + 1), fun H' p' => ⟨n - (i + 1), by omega, rfl, hlt, p'⟩, fun x H' y => hs i x H H' hlt p (w.yields i H x H' hlt q y)⟩
  · have e : i = n := by omega
    subst e
    exact .inl ⟨w.stops H q, hd H p⟩
theorem lc2_it {J : It} {n : Nat} {Gd : Hp → Prop} {Y : Nat → Hp → V → Hp → Prop} (w : Walk J n Gd Y) {H0 : Hp} {Qd : Hp → Prop} (Pv : Nat → Hp → Prop) (h0 : Pv 0 H0) (hG : ∀ i H, i ≤ n → Pv i H → Gd H) {F : V → Hp → (Hp → Prop) → Prop}
    (hs : ∀ i x H H', i < n → Pv i H → Y i H x H' → F x H' (Pv (i + 1))) (hd : ∀ H, Pv n H → Qd H) :
    ∃ W : Nat → Nat → Hp → Prop, (∃ m, W 0 m H0) ∧ ∀ i m H, W i m H →
      (J.stop i H ∧ Qd H) ∨ (J.go i H ∧ ∃ Nx : Hp → Prop, (∀ H', Nx H' → ∃ m', m' < m ∧ W (i + 1) m' H') ∧ ∀ x H', J.yld i H x H' → F x H' Nx) := by
  refine ⟨fun i m H => m = n - i ∧ i ≤ n ∧ Pv i H, ⟨n, by simp, Nat.zero_le _, h0⟩, ?_⟩
  rintro i m H ⟨rfl, hi, p⟩
  have q := hG i H hi p
  by_cases hlt : i < n
  · refine .inr ⟨w.goes i H hlt q, Pv (i + 1), fun H' p' => ⟨n - (i + 1), by omega, rfl, hlt, p'⟩, fun x H' y => hs i x H H' hlt p (w.yields i H x H' hlt q y)⟩
  · have e : i = n := by omega
    subst e
    exact .inl ⟨w.stops H q, hd H p⟩
theorem dn_lc2 {wi wi1 : TI} {g1 : TG} {tt1 : TT} {vs1 : List Nat} (h : DI K wi ρ fun xs => ∃ P : Nat → List D → Prop, P 0 [] ∧ (∀ (i : Nat) d acc, xs[i]? = some d → P i acc → DGW K g (.d d) vs ρ fun ρ2 => FlatE ρ2 ∧ DT K tt ρ2 fun b => if b = true then DI K wi1 ρ2 fun ys => ∃ P1 : Nat → List D → Prop, P1 0 acc ∧ (∀ j acc, P1 j acc → acc.length < 16000000) ∧ (∀ (j : Nat) e acc, ys[j]? = some e → P1 j acc → DGW K g1 (.d e) vs1 ρ2 fun ρ3 => DT K tt1 ρ3 fun b => if b = true then DE K te ρ3 fun y => DD y fun dy => P1 (j + 1) (acc ++ [dy]) else P1 (j + 1) acc) ∧ ∀ acc, P1 ys.length acc → P (i + 1) acc else P (i + 1) acc) ∧ ∀ acc, P xs.length acc → QN acc) : DN K (tLc2 wi g tt wi1 g1 tt1 te vs vs1) ρ QN := fun U σ L G o H j QH q =>
  h U σ L G o H j _ fun I H1 G1 xs j1 e1 ok ⟨P, h0, hs, hd⟩ => by
    intro Dd hD
    obtain ⟨Gd, Y, wk, hg, hy⟩ := ok
    have c := lc_ok o e1 j1 hD
    refine lc2_it wk (LcP K U L G1 Dd P) (F := fun x H' Nx => g x (L2.wipe σ vs) H' fun σ2 H2 => L2.wipe σ2 vs = L2.wipe σ vs ∧ tt σ2 H2 fun b H3 => if b = true then wi1 σ2 H3 fun J1 H4 => ∃ W1 : Nat → Nat → Hp → Prop, (∃ m, W1 0 m H4) ∧ ∀ j k H, W1 j k H → (J1.stop j H ∧ Nx H) ∨ (J1.go j H ∧ ∃ Nx1 : Hp → Prop, (∀ H', Nx1 H' → ∃ k', k' < k ∧ W1 (j + 1) k' H') ∧ ∀ x H', J1.yld j H x H' → g1 x (L2.wipe σ2 vs1) H' fun σ3 H5 => L2.wipe σ3 vs1 = L2.wipe σ2 vs1 ∧ tt1 σ3 H5 fun b H6 => if b = true then te σ3 H6 fun y H7 => ∃ acc, H7 Dd = some (.lst acc) ∧ acc.length < sizeLine ∧ Nx1 (upd H7 Dd (.lst (acc ++ [y]))) else Nx1 H6) else Nx H3) ?_ (fun i H' _ ⟨acc, ads, G', p, ka, e', j'⟩ => hg _ _ _ j' e') (fun i x H' H'' hi ⟨acc, ads, G', p, ka, e', j'⟩ yy => ?_) (fun H' hp => ?_)
    · obtain ⟨G', e', j'⟩ := lc_start (σ := σ) c j1 hD
      exact ⟨[], [], G', h0, .nil, e', j'⟩
    · obtain ⟨G'', d, e'', j'', hx, r⟩ := hy _ i H' x H'' G' j' e' hi yy
      have hlo := c.lo o.lo (.ex (.lst acc))
      have sx' : SlotV K U ((Dd, HI.ex (.lst acc)) :: L) G'' (.d d) x := (show SlotV K U L G'' (.d d) x from r).more fun _ h => List.mem_cons_of_mem _ h
      refine hs i d ads hx p U σ _ G'' x ((o.mono (e1.trans (e'.trans e''))).more (fun _ h => List.mem_cons_of_mem _ h) hlo) sx' H'' j'' _ fun σ2 H2 G2 j2 ⟨hw, e2, ρ2, o2, hf, k2⟩ => ⟨hw, k2 U σ2 _ G2 o2 H2 j2 _ fun b H3 G3 j3 ⟨e3, k3⟩ => ?_⟩
      have eG : Ex G1 G3 := e'.trans (e''.trans (e2.trans e3))
      cases b with
      | false =>
        rw [if_neg Bool.false_ne_true] at k3 ⊢
        exact ⟨acc, ads, G3, k3, ka.mono (e''.trans (e2.trans e3)), eG, j3⟩
      | true =>
        rw [if_pos rfl] at k3 ⊢
        have o3 := o2.mono e3
        refine k3 U σ2 _ G3 o3 H3 j3 _ fun I1 H4 G4 ys j4 e4 ok1 ⟨P1, p0, hz, hs1, hd1⟩ => ?_
        obtain ⟨Gd1, Y1, wk1, hg1, hy1⟩ := ok1
        refine lc2_in wk1 (LcP K U L G4 Dd P1) ⟨acc, ads, G4, p0, ka.mono (e''.trans (e2.trans (e3.trans e4))), Ex.refl _, j4⟩ (fun i H' _ ⟨acc, ads, G', p, ka, e', j'⟩ => hg1 _ _ _ j' e') (fun i x H' H'' hi ⟨acc, ads, G', p, ka, e', j'⟩ yy => ?_) (fun H' hp => ?_)
        · obtain ⟨G'', d, e'', j'', hx, r⟩ := hy1 _ i H' x H'' G' j' e' hi yy
          have o4 : EnvOk K U ρ2 σ2 L G'' := flat_env (o3.mono (e4.trans (e'.trans e''))) hf o.lo
          exact lc_env (e := .d d) c.nl (c.lo o.lo (.ex (.lst acc))) o4 (e'.trans e'') j'' r (ka.mono e'') (hz i ads p) (hs1 i d ads hx p)
        · obtain ⟨acc', ads', G', p', ka', e', j'⟩ := hp
          exact ⟨acc', ads', G', hd1 _ p', ka', eG.trans (e4.trans e'), j'⟩
    · obtain ⟨G2, j2, r⟩ := lc_done c e1 hp hd
      exact q _ _ _ j2 r
/-- all of the inner items, told by both -/
theorem dn_flat {wi wi1 : TI} {g1 : TG} {vs1 : List Nat} {α β : Type} (inj : α → D) (inj1 : β → D) (zs : α → List β) (f : α → β → D) (h : DI K wi ρ fun ds => ∃ xs : List α, ds = xs.map inj ∧ xs.length ≤ 10000 ∧ (∀ x ∈ xs, (zs x).length ≤ 1000) ∧ (∀ (i : Nat) x, xs[i]? = some x → DGW K g (.d (inj x)) vs ρ fun ρ2 => FlatE ρ2 ∧ DI K wi1 ρ2 fun ys => ys = (zs x).map inj1 ∧ ∀ (j : Nat) y, (zs x)[j]? = some y → DGW K g1 (.d (inj1 y)) vs1 ρ2 fun ρ3 => DE K te ρ3 fun z => z = .d (f x y)) ∧ QN (xs.flatMap fun x => (zs x).map (f x))) : DN K (tLc2 wi g tYes wi1 g1 tYes te vs vs1) ρ QN :=
  dn_lc2 fun U σ L G o H j RR q => h U σ L G o H j RR fun I H1 G1 ds j1 e1 ok ⟨xs, ed, hl, hz, hs, hq⟩ => q I H1 G1 ds j1 e1 ok (by
    subst ed
    have bnd : ∀ i, ((xs.take i).flatMap fun x => (zs x).map (f x)).length ≤ 1000 * i := fun i => by
      have : ∀ l : List α, (∀ x ∈ l, (zs x).length ≤ 1000) → (l.flatMap fun x => (zs x).map (f x)).length ≤ 1000 * l.length := fun l => by
        induction l with
        | nil => exact fun _ => Nat.le_refl _
        | cons a l ih =>
          intro hh
          rw [List.flatMap_cons, List.length_append, List.length_map, List.length_cons]
          have := hh a List.mem_cons_self
          have := ih fun x hx => hh x (List.mem_cons_of_mem _ hx)
          omega
      have h2 := this (xs.take i) fun x hx => hz x (List.mem_of_mem_take hx)
      rw [List.length_take] at h2
      refine Nat.le_trans h2 (Nat.mul_le_mul_left _ (Nat.min_le_left _ _))
    refine ⟨fun i acc => i ≤ xs.length ∧ acc = (xs.take i).flatMap fun x => (zs x).map (f x), ⟨Nat.zero_le _, rfl⟩, fun i d acc hd ⟨p0, p⟩ => ?_, fun acc ⟨_, p⟩ => by rw [List.length_map, List.take_length] at p; rw [p]; exact hq⟩
    rw [List.getElem?_map] at hd
    obtain ⟨x, hx, rfl⟩ := Option.map_eq_some_iff.mp hd
    have hil := (List.getElem?_eq_some_iff.mp hx).1
    exact fun U σ L G v o s => (hs i x hx U σ L G v o s).w fun σ2 G2 ⟨hw, e2, ρ2, o2, hf, k2⟩ => ⟨hw, e2, ρ2, o2, hf, dt_yes (by
      rw [if_pos rfl]
      refine fun U σ L G o H j RR q => k2 U σ L G o H j RR fun I H1 G1 ys j1 e1 ok ⟨ey, k3⟩ => q I H1 G1 ys j1 e1 ok ?_
      subst ey
      refine ⟨fun j acc' => j ≤ (zs x).length ∧ acc' = acc ++ ((zs x).take j).map (f x), ⟨Nat.zero_le _, by simp⟩, fun j acc' ⟨q0, q1⟩ => ?_, fun j e acc' he ⟨q0, q1⟩ => ?_, fun acc' ⟨q0, q1⟩ => ⟨hil, ?_⟩⟩
      · rw [q1, p, List.length_append, List.length_map, List.length_take]
        have := bnd i
        have := hz x (List.mem_of_getElem? hx)
        omega
      · rw [List.getElem?_map] at he
        obtain ⟨y, hy, rfl⟩ := Option.map_eq_some_iff.mp he
        have hjl := (List.getElem?_eq_some_iff.mp hy).1
        exact fun U σ L G v o s => (k3 j y hy U σ L G v o s).w fun σ2 G2 ⟨hw, e2, ρ2, o2, k2⟩ => ⟨hw, e2, ρ2, o2, dt_yes (by
          rw [if_pos rfl]
          exact fun U σ L G o => (k2 U σ L G o).w fun y' G3 ⟨e3, z, sz, ez⟩ => ⟨e3, z, sz, f x y, ez, hjl, by rw [q1, List.take_add_one, hy]; simp⟩)⟩
      · rw [q1, List.length_map, List.take_length, p, List.take_add_one, hx, List.flatMap_append]
        simp)⟩)
end
end Wp
namespace L2
open PySem PySem.Spec PyProof.Rows
def absI : Value → Option Int
  | .int i _ => some i
  | _ => none
/-- a tuple of ints that stands in the module's own table -/
def tupB (K : PySem.W.Frag) (a : Addr) (ns : List Int) : Bool := match K.lookup a with
  | some o => (match o.cls with
    | .type t => decide (t = "tuple")
    | _ => false) && (match o.data with
    | .seq its _ => decide (its.toList.map absI = ns.map some) && decide (its.size ≤ 1000)
    | _ => false)
  | none => false
theorem vals_absI : ∀ {us : List Value} {ns : List Int}, us.map absI = ns.map some → Vals (ns.map V.int) us
  | [], [], _ => .nil
  | [], _ :: _, h => by simp at h
  | _ :: _, [], h => by simp at h
  | u :: us, n :: ns, h => by
    rw [List.map_cons, List.map_cons] at h
    injection h with h1 h2
    refine .cons ?_ (vals_absI h2)
    cases u <;> simp [absI] at h1
    subst h1
    exact ⟨_, rfl⟩
theorem tupB_ok {K : PySem.W.Frag} {a : Addr} {ns : List Int} (h : tupB K a ns = true) : ∀ H : Hp, SqT K H a (ns.map V.int) := by
  intro H
  unfold tupB at h
  cases ho : K.lookup a with
  | none => rw [ho] at h; cases h
  | some o =>
    rw [ho] at h
    obtain ⟨h1, h2⟩ := Bool.and_eq_true_iff.mp h
    obtain ⟨cl, di, da, x⟩ := o
    dsimp only at h1 h2
    refine .inr ?_
    cases cl <;> try (cases h1; done)
    cases da <;> try (cases h2; done)
    obtain ⟨h3, h4⟩ := Bool.and_eq_true_iff.mp h2
    rename_i t its n
    refine ⟨_, its, n, ho, by rw [show t = "tuple" from of_decide_eq_true h1], rfl, Nat.le_trans (of_decide_eq_true h4) (by decide), vals_absI (of_decide_eq_true h3)⟩
end L2
namespace Wp
open PySem L2 Evl StX
theorem de_cT {K : PySem.W.Frag} {ρ : List E} {Q : E → Prop} {a : Addr} {ns : List Int} (t : ∀ H : Hp, SqT K H a (ns.map V.int)) (k : Q (.d (.tup (ns.map D.int)))) : DE K (tC (.ref a)) ρ Q := fun U σ L G o H j QH q =>
  q _ _ _ j ⟨Ex.refl G, .d (.tup (ns.map D.int)), .tup (t G) (rpa_mkI ns), k⟩
end Wp

set_option Elab.async false
set_option linter.all false
set_option maxRecDepth 100000
set_option maxHeartbeats 4000000
/-! Tuples that hold dicts, by !=. -/
namespace PySem.SeqAt
open AutoSeq1 (wpAny_loadPart')
open MeetsSeq MeetsSeq2 MeetsSeq3 SeqRoads2
open PySem.Calls PyProof.Rows PyProof.V PySem.Spec PySem.W
section
variable {prog : Program} {w : World}
theorem neT_meets (p q : Addr) (xs ys : Array Value) (nx ny : Nat) (ax ay : Option Addr) (tx ty : Array (Option Value)) (f : Nat → Bool) :
    MeetsIn prog w (Builtin.«tuple.__ne__» ⟨[.ref p, .ref q], []⟩) (fun A R s => s.heap.get? p = some { cls := .type "tuple", dict := ax, data := .seq xs nx, slots := tx } ∧
      s.heap.get? q = some { cls := .type "tuple", dict := ay, data := .seq ys ny, slots := ty } ∧ (∀ j (j1 : j < xs.size) (j2 : j < ys.size), EqIn prog w A.in1 s xs[j] ys[j] (f j)) ∧
      R (.ok (.ret (.bool (!((List.range (min xs.size ys.size)).all f && xs.size == ys.size))))) s) :=
  .of_wp fun A R s z => by
    obtain ⟨hp, g, d, tk, os⟩ := s; obtain ⟨zp, zq, zf, z⟩ := z
    have sub := AutoSeq1.sub_tuple_tuple
    have len2 : (xs.toList.zip ys.toList).length = min xs.size ys.size := by simp
    wp_walk using wpAny_loadPart' zp, wpAny_loadPart' zq, wpAny_forIn_list _ (fun rest c s' => c.1 = none ∧ s' = ⟨hp, g, d, tk, os⟩ ∧ ∃ i, rest = (xs.toList.zip ys.toList).drop i ∧ R (.ok (.ret (.bool (!(((List.range (min xs.size ys.size)).drop i).all f && xs.size == ys.size))))) ⟨hp, g, d, tk, os⟩) _
    case turn =>
      rintro ⟨u, v⟩ rest c s' ⟨c1, rfl, i, er, k⟩
      have il : i < (xs.toList.zip ys.toList).length := by
        refine Classical.byContradiction fun no => ?_
        rw [List.drop_of_length_le (Nat.le_of_not_lt no)] at er; cases er
      have im : i < min xs.size ys.size := by rw [← len2]; exact il
      have i1 : i < xs.size := by omega
      have i2 : i < ys.size := by omega
      rw [List.drop_eq_getElem_cons il] at er
      injection er with e1 e2
      obtain rfl : u = xs[i] := by have := congrArg Prod.fst e1; simpa using this
      obtain rfl : v = ys[i] := by have := congrArg Prod.snd e1; simpa using this
      have ed : (List.range (min xs.size ys.size)).drop i = i :: (List.range (min xs.size ys.size)).drop (i + 1) := by simp [List.drop_eq_getElem_cons, im]
      rw [ed, List.all_cons] at k
      refine wpAny_bind (zf i i1 i2 _ _ ?_)
      cases hf : f i with
      | true => rw [hf] at k; wp_walk; exact ⟨rfl, rfl, i + 1, e2, by simpa using k⟩
      | false => rw [hf] at k; wp_walk; exact ⟨_, rfl, by simpa using k⟩
    case fin =>
      rintro ⟨c1, c2⟩ s' ⟨c0, rfl, i, er, k⟩
      simp only at c0; subst c0
      have ige : min xs.size ys.size ≤ i := by
        refine Classical.byContradiction fun no => ?_
        rw [List.drop_eq_getElem_cons (show i < (xs.toList.zip ys.toList).length by omega)] at er; cases er
      rw [List.drop_of_length_le (by rw [List.length_range]; exact ige)] at k
      wp_walk; exact ⟨_, rfl, by simpa [Builtin.Tuple.tupleCompareSizes, bne] using k⟩
    case h => exact ⟨rfl, rfl, 0, rfl, by simpa using z⟩
variable {A : Around} {s : Shared}
theorem neT_at {E : Value → Shared → Prop} {p q : Addr} {xs ys : Array Value} {f : Nat → Bool} {Q : Value → Shared → Prop} (zp : s.heap.IsTuple p xs) (zq : s.heap.IsTuple q ys) (zu : A.units < cLine)
    (zf : ∀ j (j1 : j < xs.size) (j2 : j < ys.size), EqIn prog w A.in1 s xs[j] ys[j] (f j)) (k : Q (.bool (!((List.range (min xs.size ys.size)).all f && xs.size == ys.size))) s) :
    wpAny (model prog w) A (compareOp .NotEq (.ref p) (.ref q)) Q E s := by
  obtain ⟨⟨c1, ax, d1, tx⟩, o1, k1, nx, e1⟩ := id zp
  obtain ⟨⟨c2, ay, d2, ty⟩, o2, k2, ny, e2⟩ := id zq
  simp only at k1 e1 k2 e2
  subst k1 e1 k2 e2
  refine wpAny_richCompare_same_room (T := "tuple") (op := .NotEq) ⟨_, o1, rfl⟩ ⟨_, o2, rfl⟩ F.slot_tuple_ne (call_meetsIn F.slot_tuple_ne ⟨_, o1, rfl⟩ F.entry_tuple_ne (F.args_tuple_ne_2 _ _) (neT_meets p q xs ys nx ny ax ay tx ty f) ⟨o1, o2, zf, show Value.bool (!((List.range (min xs.size ys.size)).all f && xs.size == ys.size)) ≠ .notImplemented ∧ Q (.bool (!((List.range (min xs.size ys.size)).all f && xs.size == ys.size))) s from ⟨(fun x => nomatch x), k⟩⟩) zu
end
end PySem.SeqAt
namespace Wp
section
open PySem L2 Evl StX
set_option autoImplicit false
variable {K : PySem.W.Frag} {Q : E → Prop} {x y : E}
def rNeTD (K : PySem.W.Frag) : R2 := fun x y H Q => ∃ (a b : Addr) (xs ys : List V) (es : List Bool), x = .ref a ∧ y = .ref b ∧ SqT K H a xs ∧ SqT K H b ys ∧ xs.length = ys.length ∧ xs.length = es.length ∧ (∀ (j : Nat) (v u : V) (e : Bool), xs[j]? = some v → ys[j]? = some u → es[j]? = some e → CmpV H v u e) ∧ Q (.bl (!es.all id)) H
theorem op_neTD {X : Cx} (hu : X.A.units + 64 < cLine) : OpR X (compareOp .NotEq) (rNeTD X.K) := by
  rintro pins s σ H x y v u Q I rx ry ⟨a, b, xs, ys, es, rfl, rfl, ha, hb, hl, hle, hc, q⟩
  obtain rfl : v = Value.ref a := rx
  obtain rfl : u = Value.ref b := ry
  obtain ⟨us, ru, tu, _⟩ := I.tuple ha
  obtain ⟨ws, rw', tw, _⟩ := I.tuple hb
  have lu : us.length = xs.length := ru.length.symm
  have lw : ws.length = ys.length := rw'.length.symm
  refine SeqAt.neT_at (f := fun j => es.getD j false) tu tw (by omega) (fun j h1 h2 => ?_) ⟨.bl (!es.all id), H, I, ?_, q⟩
  · have h1' : j < xs.length := by simpa [lu] using h1
    obtain ⟨u1, e1, r1⟩ := ru.get (List.getElem?_eq_getElem h1')
    obtain ⟨u2, e2, r2⟩ := rw'.get (List.getElem?_eq_getElem (show j < ys.length by omega))
    have hj : j < es.length := by omega
    have c := hc j _ _ _ (List.getElem?_eq_getElem h1') (List.getElem?_eq_getElem (show j < ys.length by omega)) (List.getElem?_eq_getElem hj)
    have t := tree_of I c r1 r2
    have g1 : us.toArray[j] = u1 := by
      have := (List.getElem?_eq_some_iff.mp e1).2
      simpa using this
    have g2 : ws.toArray[j] = u2 := by
      have := (List.getElem?_eq_some_iff.mp e2).2
      simpa using this
    rw [g1, g2]
    have ee : es.getD j false = es[j] := by rw [List.getD_eq_getElem?_getD, List.getElem?_eq_getElem hj]; rfl
    show SeqAt.EqIn X.prog X.w X.A.in1 s u1 u2 (es.getD j false)
    rw [ee]
    exact t.at _ (by show X.A.units + 1 + _ < cLine; omega)
  · have e3 : ((List.range (min us.toArray.size ws.toArray.size)).all (fun j => es.getD j false) && us.toArray.size == ws.toArray.size) = es.all id := by
      have s1 : us.toArray.size = es.length := by simp [lu, hle]
      have s2 : ws.toArray.size = es.length := by simp [lw, ← hl, hle]
      rw [s1, s2, Nat.min_self, all_getD]
      simp
    show RelV (.bl (!es.all id)) (Value.bool _)
    rw [e3]
    rfl
theorem kp_neTD {X : Cx} (hu : X.A.units + 64 < cLine) (h : X.K = K := by rfl) : OpR X (compareOp .NotEq) (rNeTD K) := by subst h; exact op_neTD hu
theorem dr_neBT {ds es : List D} (bs : List Bool) (c : CmpL ds es bs) (k : Q (.d (.bl (!bs.all id)))) : DR K (rNeTD K) (.d (.tup ds)) (.d (.tup es)) Q := fun U L G v w lo sx sy H j QH q => by
  cases (sx : Rp K G v (.tup ds)) with
  | tup a1 b1 =>
    cases (sy : Rp K G w (.tup es)) with
    | tup a2 b2 =>
      obtain ⟨h1, h2, h3⟩ := cmpL_at j c b1 b2
      exact ⟨_, _, _, _, bs, rfl, rfl, ex_t j.up a1, ex_t j.up a2, h1, h2, h3, q _ _ _ j ⟨Ex.refl G, .d (.bl _), Rp.bl _, k⟩⟩
end
end Wp

set_option Elab.async false
set_option linter.all false
set_option maxRecDepth 100000
set_option maxHeartbeats 4000000
/-! d.pop(k), a statement. -/
namespace Wp
open PySem L2 Evl StX
set_option autoImplicit false
section
variable {K : PySem.W.Frag} {ρ : List E} {ty tx : TE} {N B C : List E → Prop} {R : D → Prop}
theorem ds_dpop1 {i : Nat} (h : ∃ m, ρ[i]? = some (.dm m) ∧ DE K ty ρ fun y => KyE y fun k => (getP m k).isSome = true ∧ SetTo ρ i (.dm (dropP m k)) N) : DS K (tDrop (tDPop1 (tVar i) ty)) ρ N B C R := fun U σ L G Dn o n b c r H j => by
  obtain ⟨m, hi, h⟩ := h
  obtain ⟨v, h3, a, kvs, rfl, hm, hk, hn, k⟩ := o.at hi rfl
  obtain ⟨n1, n2, _⟩ := o.lo.nm _ hm
  refine ⟨_, h3, a, rfl, .inl ⟨kvs, .inl (j.at hm)⟩, h U σ L G o H j _ fun y H1 G1 j1 ⟨e1, x, sx, key, ek, hs, ρ', hr, kn⟩ => ?_⟩
  subst ek hr
  have kr : KvR K G1 kvs m := ⟨hk, k.mono e1⟩
  have kr' := kr.drop (k := key)
  have o2 := o.mono e1
  obtain ⟨v, hv⟩ : ∃ v, valV kvs key = some v := by
    rcases kr.get (k := key) with ⟨_, z⟩ | ⟨v, d, z1, _⟩
    · rw [z] at hs; cases hs
    · exact ⟨v, z1⟩
  exact ⟨kvs, key, v, j1.at hm, kD_of sx, hv, n _ _ _ _ kn (o2.chg hi rfl dic1 h3 hm (.dic (mem_setO_self hm) kr'.1 (dropP_nodup (by rw [← hk] at hn ⊢; exact hn)) kr'.2)) e1 _ (j1.chg hm rfl n1 n2)⟩
end
end Wp

set_option Elab.async false
set_option linter.all false
set_option maxRecDepth 100000
set_option maxHeartbeats 4000000
/-! t[::e] of a tuple, e 1 or -1; xs[a:] = ys; xs.pop(i). -/
namespace Wp
section
open PySem PySem.Spec PyProof.Rows HT L2
variable {prog : Program} {w : World} {A : Around} {E : Value → Shared → Prop} {s : Shared}
theorem adjust_one (n : Nat) : Builtin.Slice.sliceAdjust none none 1 (n : Int) = (0, (n : Int)) := by
  unfold Builtin.Slice.sliceAdjust
  simp
theorem places_one (n : Nat) : Builtin.Slice.slicePlaces 0 (n : Int) 1 = n := by
  unfold Builtin.Slice.slicePlaces
  simp
  split <;> omega
theorem applied_one {sl : Addr} {vl vu vs : Value} {n : Nat} {Q : Int × Int × Nat → Shared → Prop} (hs : s.heap.IsSliceOf sl vl vu vs) (pl : IsPart vl none) (pu : IsPart vu none) (ps : IsPart vs (some 1))
    (h : Q (0, 1, n) s) : wpAny (model prog w) A (Builtin.Slice.sliceApplied (.ref sl) (pure (n : Int))) Q E s := by
  obtain ⟨os, hos, hcs, hds⟩ := id hs
  unfold Builtin.Slice.sliceApplied Builtin.Slice.sliceFields
  refine wpAny_bind (wpAny_bind (wpAny_field hos hds (x := vl) rfl (wpAny_bind (wpAny_field hos hds (x := vu) rfl (wpAny_bind (wpAny_field hos hds (x := vs) rfl (wpAny_pure ?_)))))))
  refine wpAny_bind (slicePart_ ps ?_)
  show wpAny _ _ (if ((1 : Int) == 0) = true then _ else _) _ _ s
  rw [if_neg (by decide)]
  refine wpAny_bind (slicePart_ pl (wpAny_bind (slicePart_ pu (wpAny_bind (wpAny_pure ?_)))))
  show wpAny _ _ (match Builtin.Slice.sliceAdjust none none 1 (n : Int) with | (lo, hi) => pure (lo, (1 : Int), Builtin.Slice.slicePlaces lo hi 1)) _ _ s
  rw [adjust_one n]
  show wpAny _ _ (pure ((0 : Int), (1 : Int), Builtin.Slice.slicePlaces 0 (n : Int) 1)) _ _ s
  rw [places_one]
  exact wpAny_pure h
theorem item_tuple_one {t sl : Addr} {items : Array Value} {vl vu vs : Value} {Q : Value → Shared → Prop} (ht : IsTup s.heap t items) (hs : s.heap.IsSliceOf sl vl vu vs) (pl : IsPart vl none) (pu : IsPart vu none) (ps : IsPart vs (some 1))
    (h : Q (.ref t) s) : wpAny (model prog w) A (getItem (.ref t) (.ref sl)) Q E s := by
  obtain ⟨os, hos, hcs, hds⟩ := id hs
  have hTs : s.TypeIs (.ref sl) "slice" := ⟨os, hos, hcs⟩
  unfold getItem
  try with_reducible refine wpAny_holding ?_
  first | refine wpAny_bind (wpAny_pure ?_) | skip
  refine wpAny_bind (wpAny_sequenceKey ht.typeIs (by decide) ?_)
  refine wpAny_bind (wpAny_callSpecial?_slot (name := Str.ofString "__getitem__") ht.typeIs PyProof.Rows.slot_tuple_getitem (wpAny_call_entry PyProof.Rows.slot_tuple_getitem ht.typeIs entry_tuple_getitem ?_ (args_tuple_getitem _ _)))
  show wpAny _ _ (Builtin.Tuple.tupleItemsOf (.ref t) >>= _) _ _ s
  refine wpAny_bind (tupleItemsOf_ ht ?_)
  refine wpAny_bind (wpAny_typeOf hTs ?_)
  rw [if_pos (by decide)]
  refine wpAny_bind (applied_one hs pl pu ps ?_)
  have yes : ((0 : Int) == 0 && (1 : Int) == 1 && items.size == items.size) = true := by simp
  show wpAny _ _ (if ((0 : Int) == 0 && (1 : Int) == 1 && items.size == items.size) = true then _ else _) _ _ s
  rw [if_pos yes]
  refine wpAny_bind ?_
  show wpAny _ _ (typeOf (.ref t) >>= fun T => pure (T == .type "tuple")) _ _ s
  refine wpAny_bind (wpAny_typeOf ht.typeIs (wpAny_pure ?_))
  first
    | rw [if_pos (by decide)]
    | simp only [beq_self_eq_true, if_true]
  first
    | exact wpAny_bind (wpAny_rule (wpAny_pure ⟨_, rfl, wpAny_pure h⟩))
    | exact wpAny_bind (wpAny_rule (wpAny_bind (wpAny_pure (wpAny_pure ⟨_, rfl, wpAny_pure h⟩))))
/-- t[::e] of a tuple -/
def tStepT (K : PySem.W.Frag) (te ti : TE) : TE := fun σ H Q => te σ H fun x H1 => ∃ a, x = .ref a ∧ ti σ H1 fun y H2 => ∃ i, y = .int i ∧ ∃ xs, SqT K H2 a xs ∧ ((some i = some 1 ∧ Q (.ref a) H2) ∨ (some i = some (-1) ∧ ∀ p, H2 p = none → Q (.ref p) (upd H2 p (.tup xs.reverse))))
theorem pe_stepT {X : Cx} {K : PySem.W.Frag} {e f : Expr} {te ti : TE} {p3 pos : Pos} (he : PE X e te) (hf : PE X f ti) (hK : X.K = K := by rfl) : PE X (.Subscript e (.Slice none none (some f) p3) pos) (tStepT K te ti) := by
  subst hK
  refine ⟨fun pins s σ H Q I h => ?_⟩
  refine Subscript_ (thn (he.run pins s σ H _ I h) fun v s1 ⟨x, H1, I1, r1, q1⟩ => ?_)
  obtain ⟨a, ex, hq⟩ := q1
  subst ex
  cases r1
  have hst : PO X (some f) (tPart ti) := po_some hf
  refine wpAny_Slice (thn (po_none.run pins s1 σ H1 (fun o H2 => o = none ∧ H2 = H1) I1 ⟨rfl, rfl⟩) fun vl s2 ⟨l, H2, I2, pl, el, e2⟩ => ?_)
  subst el e2
  refine thn (po_none.run pins s2 σ H2 (fun o H3 => o = none ∧ H3 = H2) I2 ⟨rfl, rfl⟩) fun vu s3 ⟨u, H3, I3, pu, eu, e3⟩ => ?_
  subst eu e3
  have hq2 : tPart ti σ H3 (fun o H4 => ∃ xs, SqT X.K H4 a xs ∧ ((o = some 1 ∧ Q (.ref a) H4) ∨ (o = some (-1) ∧ ∀ p, H4 p = none → Q (.ref p) (upd H4 p (.tup xs.reverse))))) := hq
  refine thn (hst.run pins s3 σ H3 _ I3 hq2) fun vs s4 ⟨o, H4, I4, ps, xs, hx, eo⟩ => ?_
  have I5 : Inv X pins σ H4 { s4 with heap := s4.heap.push { cls := .type "slice", data := .fields #[vl, vu, vs] } } := I4.kept (t' := s4.toks) fun b ob q => Heap.get?_push_of_some _ q
  show wpAny (model X.prog X.w) X.A (subscriptTail e (.Slice none none (some f) p3) (.ref a) (.ref s4.heap.objs.size)) (EP X pins σ Q) X.xe { s4 with heap := s4.heap.push { cls := .type "slice", data := .fields #[vl, vu, vs] } }
  obtain ⟨its, r, ht, hz⟩ := I5.tuple hx
  have hlen : its.toArray.size = xs.length := by rw [List.size_toArray]; exact r.length.symm
  refine tail_any (ops := [.ref a, .ref s4.heap.objs.size]) ht.typeIs PyProof.Rows.slot_tuple_getitem.lookup ?_ (by with_unfolding_all rfl)
  rcases eo with ⟨rfl, q⟩ | ⟨rfl, q⟩
  · exact item_tuple_one ht (Heap.IsSliceOf.new _ vl vu vs) pl pu ps ⟨.ref a, _, I5, rfl, q⟩
  · refine getItem_tuple_rev ht (Heap.IsSliceOf.new _ vl vu vs) pl pu ps ?_ (by rw [hlen]; exact hz)
    refine ⟨.ref _, _, I5.laid (t' := s4.toks) (o := .tup xs.reverse) (fun b ob q => Heap.get?_push_of_some _ q) (Nat.le_refl _) ?_, rfl, q _ (I5.hok.fresh (Nat.le_refl _))⟩
    exact ⟨by rw [List.length_reverse]; exact hz, _, r.reverse, IsTup.new _ _⟩
end
section
open PySem L2 Evl StX
set_option autoImplicit false
variable {K : PySem.W.Frag} {ρ : List E} {te ti : TE} {Q : E → Prop}
theorem de_stepT (h : DE K te ρ fun x => ∃ ds, x = .d (.tup ds) ∧ DE K ti ρ fun y => ∃ b : Bool, y = .d (.int (if b then 1 else -1)) ∧ Q (.d (.tup (if b then ds else ds.reverse)))) : DE K (tStepT K te ti) ρ Q := fun U σ L G o H j QH q =>
  h U σ L G o H j _ fun v H1 G1 j1 ⟨e1, x, sx, ds, ex, h2⟩ => by
    subst ex
    cases (sx : Rp K G1 v (.tup ds)) with
    | @tup a vs _ a1 b1 =>
      refine ⟨a, rfl, h2 U σ L G1 (o.mono e1) H1 j1 _ fun w H2 G2 j2 ⟨e2, y, sy, b, ey, k⟩ => ?_⟩
      subst ey
      have a2 := ex_t j2.up (ex_t e2 a1)
      cases b with
      | true =>
        cases (sy : Rp K G2 w (.int 1))
        exact ⟨1, rfl, _, a2, .inl ⟨rfl, q _ _ _ j2 ⟨e1.trans e2, .d (.tup ds), .tup (ex_t e2 a1) (b1.mono e2), k⟩⟩⟩
      | false =>
        cases (sy : Rp K G2 w (.int (-1)))
        exact ⟨-1, rfl, _, a2, .inr ⟨rfl, fun p hp => q _ _ _ (j2.alloc hp) ⟨(e1.trans e2).trans (Ex.new (j2.free hp)), .d (.tup ds.reverse), .tup (st_of upd_same) (b1.mono (e2.trans (Ex.new (j2.free hp)))).rev, k⟩⟩⟩
end
end Wp

set_option Elab.async false
set_option linter.all false
set_option maxRecDepth 100000
set_option maxHeartbeats 4000000
/-! xs[a:] = ys; xs.pop(i). -/
namespace L2
open PySem PySem.Spec PyProof.Rows HT
section
variable {prog : Program} {w : World} {A : Around} {E : Value → Shared → Prop} {s : Shared}
theorem bounds_tail {a n : Nat} (h : a ≤ n) : sliceBounds (some (a : Int)) none none n = ((a : Int), (n : Int), 1) := by
  simp only [sliceBounds, Option.getD_none]
  have h1 : ¬ ((a : Int) < 0) := by omega
  simp only [h1, if_false, show (1 : Int) > 0 by decide, if_true]
  congr 1
  omega
set_option maxRecDepth 100000 in
theorem setItem_tail {l b sl : Addr} {xs ys : Array Value} {n n2 : Nat} {vl vu : Value} {a : Nat} {Q : Unit → Shared → Prop}
    (ex : s.heap.get? l = some { cls := .type "list", data := .seq xs n }) (ey : s.heap.get? b = some { cls := .type "list", data := .seq ys n2 }) (nlb : l ≠ b)
    (zs : s.heap.IsSliceOf sl vl vu .none) (pl : IsPart vl (some (a : Int))) (pu : IsPart vu none) (ha : a ≤ xs.size)
    (hz : xs.size + ys.size ≤ sizeLine) (k : Q () { s with heap := s.heap.update l (Obj.mapSeq fun us => us.extract 0 a ++ ys ++ us.extract xs.size us.size) }) :
    wpAny (model prog w) A (setItem (.ref l) (.ref sl) (.ref b)) Q E s := by
  have il : s.heap.IsList l xs := PySem.IsL.isList ex
  have ib : s.heap.IsList b ys := PySem.IsL.isList ey
  obtain ⟨os, zo, zc, zd⟩ := id zs
  have ts : s.TypeIs (.ref sl) "slice" := ⟨os, zo, zc⟩
  have nst : ¬ ((rawPart none == rawInt 0) = true) := Bool.false_ne_true
  have nsame : Builtin.List.listSameRef (.ref l) (.ref b) = false := by unfold Builtin.List.listSameRef; exact beq_eq_false_iff_ne.mpr nlb
  have mx : (max (a : Int) (xs.size : Int)).toNat = xs.size := by omega
  have rz : ((fun us : Array Value => us.extract 0 a ++ ys ++ us.extract xs.size us.size) xs).size ≤ sizeLine + 1 := by simp only [Array.size_append, Array.size_extract]; omega
  unfold setItem
  try with_reducible refine wpAny_holding ?_
  first | refine wpAny_bind (wpAny_pure ?_) | skip
  refine wpAny_bind (wpAny_sequenceKey il.typeIs (by decide) ?_)
  refine wpAny_bind (wpAny_callSpecial?_slot (name := Str.ofString "__setitem__") il.typeIs slot_list_setitem (wpAny_call_entry slot_list_setitem il.typeIs entry_list_setitem ?_ (args_list_setitem _ _ _)))
  show wpAny _ _ (Builtin.List.listSubscript? (.ref sl) >>= _) _ _ s
  refine wpAny_bind ?_
  unfold Builtin.List.listSubscript?
  refine wpAny_bind (wpAny_specialOf ts slice_no_index ?_)
  simp only [Option.isNone_none, if_true]
  refine wpAny_pure ?_
  show wpAny _ _ (typeOf (.ref sl) >>= _) _ _ s
  refine wpAny_bind (wpAny_typeOf ts ?_)
  first | rw [if_neg (by decide)] | refine PySem.W.KFB.if_not (by decide) ?_
  rw [listSliceParts_eq]
  refine wpAny_bind (wpAny_bind (wpAny_field zo zd (x := .none) rfl (wpAny_bind (wpAny_listPart .none ?_))))
  rw [if_neg nst]
  refine wpAny_bind (wpAny_field zo zd (x := vl) rfl (wpAny_bind (wpAny_listPart pl ?_)))
  refine wpAny_bind (wpAny_field zo zd (x := vu) rfl (wpAny_bind (wpAny_listPart pu (wpAny_pure ?_))))
  first | simp only [nsame, Bool.false_eq_true, if_false] | refine PySem.W.KFB.if_not nsame ?_ | (dsimp only; rw [if_neg (by rw [nsame]; exact Bool.false_ne_true)])
  refine wpAny_bind (m := Builtin.List.listAllItems (.ref b) "must assign iterable to extended slice") ?_
  unfold Builtin.List.listAllItems
  refine wpAny_bind (wpAny_typeOf ib.typeIs ?_)
  first | refine PySem.W.KFB.if_so (by decide) ?_ | rw [if_pos (by decide)] | simp only [beq_self_eq_true, Bool.true_or, if_true]
  unfold Builtin.List.listItems
  refine wpAny_bind (wpAny_seqItems ey rfl (wpAny_pure ?_))
  refine wpAny_bind (wpAny_bind (wpAny_seqItems ex rfl (wpAny_pure ?_)))
  refine wpAny_bind (wpAny_of_eq ((sliceIndices_raw (some (a : Int)) none none xs.size (by simp)).trans (congrArg (pure : Int × Int × Int → Sem (Int × Int × Int)) (bounds_tail ha))) ?_)
  show wpAny _ _ (if ((1 : Int) == 1) = true then _ else _) _ _ s
  rw [if_pos (by decide)]
  refine wpAny_bind (wpAny_rule ?_)
  first | simp only [notLongL hz, Bool.false_eq_true, if_false] | refine PySem.W.KFB.if_not (notLongL hz) ?_
  first | refine wpAny_bind (wpAny_pure ?_) | skip
  show wpAny _ _ (updateSeq l (fun us => us.extract 0 ((a : Int)).toNat ++ ys ++ us.extract (max (a : Int) (xs.size : Int)).toNat us.size) >>= _) _ _ s
  rw [mx, Int.toNat_natCast]
  refine wpAny_bind (wpAny_updateSeq (hz := Nat.le_trans (Nat.le_add_right _ _) hz) (_hz' := rz) ex rfl ?_)
  refine wpAny_bind (wpAny_letGo ?_)
  first
    | exact wpAny_bind (wpAny_pure (wpAny_pure ⟨.none, rfl, wpAny_pure k⟩))
    | exact wpAny_pure ⟨.none, rfl, wpAny_pure k⟩
end
section
variable {X : Cx}
/-- xs[a:] = ys, ys a list that stands by itself too -/
def TailP (o v : V) (σ : St) (Q : St → Hp → Prop) (oi : Option Int) (H2 : Hp) : Prop := ∃ (i : Int) (l b : Addr) (xs ys : List V), oi = some i ∧ o = .ref l ∧ v = .ref b ∧ l ≠ b ∧ 0 ≤ i ∧ i ≤ xs.length ∧ xs.length + ys.length ≤ sizeLine ∧ H2 l = some (.lst xs) ∧ H2 b = some (.lst ys) ∧ Q σ (upd H2 l (.lst (xs.take i.toNat ++ ys)))
def gTail (to ti : TE) : TG := fun v σ H Q => to σ H fun o H1 => ti σ H1 fun y H2 => ∃ i, y = .int i ∧ TailP o v σ Q (some i) H2
theorem pg_tail {o f : Expr} {to ti : TE} {p3 pos : Pos} (ho : PE X o to) (hf : PE X f ti)
    (ha : ∀ v, assign (.Subscript o (.Slice (some f) none none p3) pos) X.env v = (do
      let ov ← holding [v] (eval o X.env)
      let iv ← holding [v, ov] (eval (.Slice (some f) none none p3) X.env)
      standAt pos
      holding [v, ov, iv] (setItem ov iv v)
      release [iv, v, ov] []) := by intro _; rfl) : PG X (.Subscript o (.Slice (some f) none none p3) pos) (gTail to ti) := by
  refine ⟨fun pins s σ H v u Q I r h => ?_⟩
  rw [ha]
  refine wpAny_bind (wpAny_holding (thn (ho.run pins s σ H _ I h) fun ov s1 ⟨x, H1, I1, r1, q1⟩ => ?_))
  have hst : PO X (some f) (tPart ti) := po_some hf
  refine wpAny_bind (wpAny_holding ?_)
  refine wpAny_Slice (thn (hst.run pins s1 σ H1 (TailP x v σ Q) I1 q1) fun vl s2 ⟨o2, H2, I2, pl, i, l, b, xs, ys, eo, ex, ev, nlb, i0, i1, hz, hl, hb, q⟩ => ?_)
  subst eo ex ev
  cases r1
  obtain rfl : u = Value.ref b := r
  refine thn (po_none.run pins s2 σ H2 (fun o H3 => o = none ∧ H3 = H2) I2 ⟨rfl, rfl⟩) fun vu s3 ⟨w1, H3, I3, pu, eu, e3⟩ => ?_
  subst eu e3
  refine thn (po_none.run pins s3 σ H3 (fun o H4 => o = none ∧ H4 = H3) I3 ⟨rfl, rfl⟩) fun vs s4 ⟨w2, H4, I4, ps, es, e4⟩ => ?_
  subst es e4
  cases ps
  have I5 : Inv X pins σ H4 { s4 with heap := s4.heap.push { cls := .type "slice", data := .fields #[vl, vu, .none] } } := I4.kept (t' := s4.toks) fun b ob q => Heap.get?_push_of_some _ q
  refine wpAny_bind (wpAny_standAt (wpAny_bind (wpAny_holding ?_)))
  obtain ⟨a, rfl⟩ := Int.eq_ofNat_of_zero_le i0
  obtain ⟨zx, its, n, rx, lx, e1⟩ := I5.lstM hl
  obtain ⟨zy, its2, n2, ry, ly, e2⟩ := I5.lstM hb
  refine setItem_tail (a := a) e1 e2 nlb (Heap.IsSliceOf.new _ vl vu .none) pl pu (by rw [List.size_toArray]; omega) (by rw [List.size_toArray, List.size_toArray]; omega) ?_
  refine wpAny_release ⟨σ, _, ?_, q⟩
  rw [Int.toNat_natCast]
  refine I5.lset (its' := its.take a ++ its2) (t' := s4.toks) hl e1 ?_ (Vals.append (rx.take _) ry) ?_
  · have := splice_eq its its2 a its.length
    rw [List.drop_length, List.append_nil] at this
    rw [← this, List.size_toArray]
  · rw [List.length_append, List.length_take]
    omega
end
end L2
namespace Wp
section
open PySem L2 Evl StX
set_option autoImplicit false
variable {K : PySem.W.Frag} {ρ : List E} {te ti : TE} {N B C : List E → Prop} {R : D → Prop}
theorem RpA.erase {F : Hp} {vs : List V} : ∀ {ds : List D} (n : Nat), RpA K F vs ds → RpA K F (vs.eraseIdx n) (ds.eraseIdx n) := by
  induction vs with
  | nil => intro ds n h; cases h; simp; exact .nil
  | cons v vs ih =>
    intro ds n h
    cases h with
    | cons a b =>
      cases n with
      | zero => exact b
      | succ n => exact .cons a (ih n b)
/-- xs[a:] = [..], xs the def's own -/
theorem ds_tail {i : Nat} (h : DN K te ρ fun es => ∃ ds, ρ[i]? = some (.own ds) ∧ DE K ti ρ fun y => ∃ n : Nat, y = .d (.int (n : Int)) ∧ n ≤ ds.length ∧ ds.length + es.length ≤ sizeLine ∧ SetTo ρ i (.own (ds.take n ++ es)) N) : DS K (tAsg te (gTail (tVar i) ti)) ρ N B C R := fun U σ L G Dn o n b c r H j => by
  refine h U σ L G o H j _ fun v H1 G1 j1 ⟨p, vs, es, G0, ev, e0, np, e1, gp, rr, ds, hi, h2⟩ => ?_
  subst ev
  have o1 := o.mono (e0.trans e1)
  obtain ⟨w, h3, a, us, rfl, hm, k⟩ := o1.at hi rfl
  obtain ⟨n1, n2, _⟩ := o1.lo.nm _ hm
  have na : G1 a = none := (j1.msk a (.inr ⟨_, hm⟩)).1
  have nap : a ≠ p := fun z => by rw [z, gp] at na; cases na
  refine ⟨_, h3, h2 U σ L G1 o1 H1 j1 _ fun y H2 G2 j2 ⟨e2, z, sz, m, ez, hml, hsz, ρ', hr, kn⟩ => ?_⟩
  subst ez hr
  cases (sz : Rp K G2 y (.int (m : Int)))
  have gp2 : G2 p = some (.lst vs) := e2 _ _ gp
  refine ⟨m, rfl, m, a, p, us, vs, rfl, rfl, rfl, nap, Int.natCast_nonneg m, by rw [k.len]; exact_mod_cast hml, by rw [k.len, rr.len]; exact hsz, j2.at hm, j2.up _ _ gp2, ?_⟩
  rw [Int.toNat_natCast]
  exact n _ _ _ _ kn ((o1.mono e2).chg hi rfl own1 h3 hm (.own (mem_setO_self hm) ((rr.mono (e1.trans e2)).app ((k.mono e2).take m)))) ((e0.trans e1).trans e2) _ (j2.chg hm rfl n1 n2)
/-- xs.pop(i) of the def's own list, the item forgotten -/
theorem ds_popAt {i : Nat} (h : ∃ ds, ρ[i]? = some (.own ds) ∧ DE K ti ρ fun y => ∃ m : Nat, y = .d (.int (m : Int)) ∧ m < ds.length ∧ ds.length ≤ 1000000 ∧ SetTo ρ i (.own (ds.eraseIdx m)) N) : DS K (tDrop (tBM K "list" rPopAt (tVar i) (tCons ti tNil))) ρ N B C R := fun U σ L G Dn o n b c r H j => by
  obtain ⟨ds, hi, h⟩ := h
  obtain ⟨v, h3, a, vs, rfl, hm, k⟩ := o.at hi rfl
  obtain ⟨n1, n2, _⟩ := o.lo.nm _ hm
  refine ⟨_, h3, .inl ⟨rfl, vs, sq_of (j.at hm)⟩, h U σ L G o H j _ fun y H1 G1 j1 ⟨e1, x, sx, m, ed, hlt, hb, ρ', hr, kn⟩ => ?_⟩
  subst ed hr
  cases (sx : Rp K G1 y (.int (m : Int)))
  have hl := k.len
  obtain ⟨u, hu⟩ : ∃ u, vs[m]? = some u := ⟨_, List.getElem?_eq_getElem (by omega)⟩
  refine ⟨a, vs, m, m, u, rfl, rfl, j1.at hm, Int.le_trans (show -(2 ^ 63 : Int) ≤ 0 by decide) (Int.natCast_nonneg m), Int.lt_of_lt_of_le (show (m : Int) < 1000001 by omega) (by decide), ?_, hu, ?_⟩
  · unfold seqIndex?
    rw [if_neg (show ¬ ((m : Int) < 0) by omega)]
    dsimp only
    rw [if_pos (by simp; omega), Int.toNat_natCast]
  exact n _ _ _ _ kn ((o.mono e1).chg hi rfl own1 h3 hm (.own (mem_setO_self hm) ((k.mono e1).erase m))) e1 _ (j1.chg hm rfl n1 n2)
end
end Wp

set_option Elab.async false
set_option linter.all false
set_option maxRecDepth 100000
set_option maxHeartbeats 4000000
/-! min of a list or a tuple of ints. -/
namespace Wp
section
open PySem L2 Evl StX PySem.Spec PyProof.Rows
variable {K : PySem.W.Frag}
theorem tup_push {h : Heap} {a : Addr} {items : Array Value} {o : Obj} (t : h.IsTuple a items) : (h.push o).IsTuple a items := by
  obtain ⟨ob, e, c, d⟩ := t
  exact ⟨ob, Heap.get?_push_of_some _ e, c, d⟩
def rMinT (K : PySem.W.Frag) : List V → Hp → VK → Prop := fun xs H Q => ∃ (a : Addr) (ns : List Int), xs = [.ref a] ∧ SqT K H a (ns.map V.int) ∧ 0 < ns.length ∧ ∀ m, m ∈ ns → (∀ y ∈ ns, m ≤ y) → Q (.int m) H
theorem cr_minT {X : Cx} (hc : X.calm = true) : CallR X (.builtin "min") (rMinT X.K) := by
  intro pins s σ H xs us Q I r hq
  obtain ⟨a, ns, rfl, hd, hne, q⟩ := hq
  rw [Vals.ref1 r]
  obtain ⟨its, rv, ht, _⟩ := I.tuple hd
  have hl : its.length = ns.length := by have := rv.length; rw [List.length_map] at this; exact this.symm
  have hval : ∀ (i : Nat) (v : Value), its.toArray[i]? = some v → ∃ t, v = Value.int (ns.getD i 0) t := fun i v hi => by
    have hi2 : its[i]? = some v := by simpa using hi
    have hlt : i < ns.length := by rw [← hl]; exact (List.getElem?_eq_some_iff.mp hi2).1
    obtain ⟨u, e1, r1⟩ := rv.get (show (ns.map V.int)[i]? = some (.int ns[i]) by rw [List.getElem?_map, List.getElem?_eq_getElem hlt]; rfl)
    rw [hi2] at e1
    cases e1
    obtain ⟨t, rfl⟩ := r1
    exact ⟨t, by rw [List.getD_eq_getElem?_getD, List.getElem?_eq_getElem hlt]; rfl⟩
  have hlt : a < s.heap.objs.size := ht.lt
  refine call_min_walk (wpAny_pyIter_tuple ht ⟨_, _, _, _, _, _, _, rfl, Walks.tuple (A := X.A.in1) (I.ok.hd hc) s.heap.objs.size a (Nat.ne_of_lt hlt) its.toArray, ⟨⟨_, Heap.get?_push_size _ rfl, rfl, rfl⟩, tup_push ht⟩, fun b hb => ?_, by rw [List.size_toArray]; omega, CmpOf.ints_lt (fun i => ns.getD i 0) hval, fun v h' tk hP hk => ?_⟩)
  · show b < (s.heap.push _).objs.size
    rw [Heap.size_push]
    rcases List.mem_cons.mp hb with e | hb
    · rw [e]; exact Nat.lt_succ_self _
    · rw [show b = a from List.mem_singleton.mp hb]; exact Nat.lt_succ_of_lt hlt
  · obtain ⟨t, rfl⟩ := hval _ v hP
    obtain ⟨b1, b2⟩ := argBest_lt (fun i => ns.getD i 0) (its.toArray.size - 1)
    rw [List.size_toArray] at b1 b2
    have at' : ∀ i, i < ns.length → ns[i]? = some (ns.getD i 0) := fun i hi => by rw [List.getD_eq_getElem?_getD, List.getElem?_eq_getElem hi]; rfl
    refine ⟨.int _, H, I.kept (t' := tk) fun b u e => hk b u (fun hmem => ?_) (Heap.get?_push_of_some _ e), ⟨t, rfl⟩, q _ (List.mem_of_getElem? (at' _ (by rw [List.size_toArray]; omega))) fun j hj => ?_⟩
    · have e1 : b = s.heap.objs.size := List.mem_singleton.mp hmem
      have e2 := Heap.lt_size e
      rw [e1] at e2
      exact Nat.lt_irrefl _ e2
    · obtain ⟨i, hi, e⟩ := List.mem_iff_getElem.mp hj
      have e2 : ns.getD i 0 = j := by rw [List.getD_eq_getElem?_getD, List.getElem?_eq_getElem hi, ← e]; rfl
      rw [← e2, List.size_toArray]
      exact b2 i (by omega)
def rMinB (K : PySem.W.Frag) : List V → Hp → VK → Prop := fun xs H Q => rMin K xs H Q ∨ rMinT K xs H Q
theorem kr_minB {X : Cx} (h : X.K = K := by rfl) (hc : X.calm = true := by rfl) : CallR X (.builtin "min") (rMinB K) := by subst h; exact CallR.or (cr_min hc) (cr_minT hc)
variable {ρ : List E} {Q : E → Prop} {te : TE}
theorem de_minB (h : DE K te ρ fun x => ∃ ns : List Int, (x = .d (.lst (ns.map D.int)) ∨ x = .own (ns.map D.int) ∨ x = .d (.tup (ns.map D.int))) ∧ 0 < ns.length ∧ ∀ k, k ∈ ns → (∀ y ∈ ns, k ≤ y) → Q (.d (.int k))) : DE K (tCB (rMinB K) (tCons te tNil)) ρ Q := fun U σ L G o H j QH q =>
  h U σ L G o H j _ fun v H1 G1 j1 ⟨e1, x, sx, ns, hx, hl, k⟩ => by
    have fin : ∀ m, m ∈ ns → (∀ y ∈ ns, m ≤ y) → QH (.int m) H1 := fun m hm hy => q _ _ _ j1 ⟨e1, .d (.int m), Rp.int _, k m hm hy⟩
    rcases hx with rfl | rfl | rfl
    · cases (sx : Rp K G1 v (.lst (ns.map D.int))) with
      | lst a b => rw [rpa_ints b] at a; exact .inl ⟨_, ns, rfl, sq_of (j1.up _ _ a), hl, fin⟩
    · obtain ⟨a, vs, rfl, hm, b⟩ := sx
      rw [rpa_ints b] at hm
      exact .inl ⟨_, ns, rfl, sq_of (j1.at hm), hl, fin⟩
    · cases (sx : Rp K G1 v (.tup (ns.map D.int))) with
      | tup a b => rw [rpa_ints b] at a; exact .inr ⟨_, ns, rfl, ex_t j1.up a, hl, fin⟩
end
end Wp

set_option Elab.async false
set_option linter.all false
set_option maxRecDepth 100000
set_option maxHeartbeats 4000000
/-! `for k in d:` as a statement: the whole of it stands under a lock. -/
namespace Wp
section
open PySem L2 Evl StX PySem.Spec PyProof.Rows
variable {K : PySem.W.Frag}
/-- locked, if it is not so yet -/
def tLckS (t : TS) : TS := fun D σ H => tLock t D σ H ∨ t D σ H
theorem ps_lck {X : Cx} {st : Stmt} {t : TS} (h : PS X st t) : PS X st (tLckS t) := ⟨fun pins s D σ H I hh => hh.elim ((ps_lock h).run pins s D σ H I) (h.run pins s D σ H I)⟩
variable {F : Hp} {a : Addr} {od : Obj} {kvs : List (Key × V)}
theorem CellOk.unlk {U : Vx} {b : Addr} {I : HO → Prop} {u : HO} (c : CellOk (U.lk a u) b I) : CellOk U b I := ⟨c.m, lk_back c.ne, c.at_, c.to⟩
theorem DrawOk.unlk {U : Vx} {b : Addr} {u : HO} (c : DrawOk (U.lk a u) b) : DrawOk U b := ⟨c.m, lk_back c.ne, c.at_, c.to⟩
theorem lk_backG {U : Vx} {b : Addr} {u : HO} (h : (U.lk a u).Ge b = none) : U.Ge b = none := by
  have h : (if b = a then (if U.Ge a = none then none else some u) else U.Ge b) = none := h
  by_cases z : b = a
  · subst z; rw [if_pos rfl] at h
    by_cases y : U.Ge b = none
    · exact y
    · rw [if_neg y] at h; cases h
  · rw [if_neg z] at h; exact h
theorem LOk.unlk {U : Vx} {L : Ow} {u : HO} (o : LOk (U.lk a u) L) : LOk U L := ⟨fun p hp => ⟨(o.nm p hp).1, lk_back (o.nm p hp).2.1, lk_backG (o.nm p hp).2.2⟩, o.fn⟩
theorem LOk.lk {U : Vx} {L : Ow} (o : LOk U L) (a : Addr) (u : HO) : LOk (U.lk a u) L := ⟨fun p hp => ⟨(o.nm p hp).1, lkn_none (o.nm p hp).2.1, lk_noneG (o.nm p hp).2.2⟩, o.fn⟩
theorem EnvOk.unlk {U : Vx} {ρ : List E} {σ : L2.St} {L : Ow} (hk : ∀ u, U.Ge a = some u → u = .dK kvs) (o : EnvOk K (U.lk a (.frz od (.dK kvs))) ρ σ L F) (h : F a = some (.frz od (.dK kvs))) : EnvOk K U ρ σ L (L2.upd F a (.dK kvs)) := by
  obtain ⟨fp, of⟩ := o.fs
  refine ⟨o.len, ⟨fp, fun i e hi => ?_, of.nd, of.ds, of.il⟩, o.lo.unlk, fun b u e => ?_⟩
  · obtain ⟨u, h1, h2⟩ := of.sl i e hi
    exact ⟨u, h1, h2.imp id fun ⟨v, h3, h4⟩ => ⟨v, h3, sv_gen (fun v d r => rp_unlock h r) (fun b φ e => by rw [upd_ne (fun z => by rw [z, h] at e; cases e)]; exact e) (fun b xs hs => by
      rcases hs with (hs | ⟨o, hs⟩) | hs
      · exact .inl (.inl (by rw [upd_ne (fun z => by rw [z, h] at hs; cases hs)]; exact hs))
      · exact .inl (.inr ⟨o, by rw [upd_ne (fun z => by rw [z, h] at hs; cases hs)]; exact hs⟩)
      · exact .inr hs) (fun b I c => c.unlk) (fun b c => c.unlk) _ _ _ h4⟩⟩
  · by_cases z : b = a
    · subst z
      rw [upd_same, hk u e]
    · rw [upd_ne z]
      exact o.ge b u (by show (if b = a then _ else U.Ge b) = some u; rw [if_neg z]; exact e)
theorem J.unlk2 {U : Vx} {H2 G2 : Hp} (hk : ∀ u, U.He a = some u → u = .dK kvs) (j : J (U.lk a (.frz od (.dK kvs))) H2 G2) (h : G2 a = some (.frz od (.dK kvs))) : J U (upd H2 a (.dK kvs)) (upd G2 a (.dK kvs)) where
  up := ex_upd2 j.up
  keep := fun b u e => by
    by_cases z : b = a
    · subst z; rw [upd_same, hk u e]
    · rw [upd_ne z]; exact j.keep b u (by show (if b = a then _ else U.He b) = some u; rw [if_neg z]; exact e)
  new := fun b q g => by
    by_cases z : b = a
    · subst z; exact lk_back (j.new b (by rw [h]; exact fun q => by cases q) (lk_noneG g))
    · rw [upd_ne z] at q; exact lk_back (j.new b q (lk_noneG g))
  hid := U.st H2 _ j.hid fun b mb => by
    have : b ≠ a := fun z => by subst z; rw [(j.msk b mb).1] at h; cases h
    rw [upd_ne this]
  msk := fun b mb => by
    have : b ≠ a := fun z => by subst z; rw [(j.msk b mb).1] at h; cases h
    rw [upd_ne this, upd_ne this]; exact j.msk b mb
variable {ρ : List E} {g : TG} {ts : TS} {N B C : List E → Prop} {R : D → Prop}
/-- a walk told at one state -/
theorem sm_forAt {wi : TI} {U : Vx} {σ : L2.St} {L : Ow} {G : Hp} {Dn : Ends} (o : EnvOk K U ρ σ L G) (n : KN K U Dn.nx G N) (r : KR K U Dn.rt G R) (h : DIat K wi U σ L G fun xs => ∃ I : Nat → List E → Prop, Wk (I 0) ρ ∧ (∀ (i : Nat) d ρ', xs[i]? = some d → I i ρ' → DG K g (.d d) ρ' fun ρ2 => DS K ts ρ2 (Wk (I (i + 1))) N (Wk (I (i + 1))) R) ∧ ∀ ρ', I xs.length ρ' → N ρ') : SM (U.hides L) (tFor wi g ts) Dn σ G := fun H j =>
  h H j _ fun I H1 G1 xs j1 e1 ok ⟨Iv, ⟨ρ0, le0, h0⟩, hs, hd⟩ => by
    obtain ⟨Gd, Y, wk, hg, hy⟩ := ok
    refine for_it wk (fun i σ' H' => ∃ ρ' L' G', Iv i ρ' ∧ EnvOk K U ρ' σ' L' G' ∧ Ex G1 G' ∧ J (U.hides L') H' G') ⟨ρ0, L, G1, h0, (o.mono e1).le le0, Ex.refl _, j1⟩ (fun i σ' H' _ ⟨ρ', L', G', p, o', e', j'⟩ => hg _ _ _ j' e') (fun i x σ' H' H'' hi ⟨ρ', L', G', p, o', e', j'⟩ yy => ?_) (fun σ' H' ⟨ρ', L', G', p, o', e', j'⟩ => n ρ' σ' L' G' (hd ρ' p) o' (e1.trans e') H' j')
    obtain ⟨G'', d, e'', j'', hx, rr⟩ := hy _ i H' x H'' G' j' e' hi yy
    exact loop_env (n.mono e1) (r.mono e1) (o'.mono e'') (e'.trans e'') j'' (e := .d d) rr (hs i d ρ' hx p)
/-- for k in d -/
theorem ds_forK {i : Nat} (h : ∃ m, ρ[i]? = some (.d (.dc m)) ∧ ∃ I : Nat → List E → Prop, Wk (I 0) ρ ∧ (∀ (i : Nat) p ρ', m[i]? = some p → I i ρ' → DG K g (.d (kD p.1)) ρ' fun ρ2 => DS K ts ρ2 (Wk (I (i + 1))) N (Wk (I (i + 1))) R) ∧ ∀ ρ', I m.length ρ' → N ρ') : DS K (tLckS (tFor (iKeys (tVar i)) g ts)) ρ N B C R := by
  obtain ⟨m, hi, I, h0, hs, hd⟩ := h
  have hI : ∃ I : Nat → List E → Prop, Wk (I 0) ρ ∧ (∀ (i : Nat) d ρ', (m.map fun p => kD p.1)[i]? = some d → I i ρ' → DG K g (.d d) ρ' fun ρ2 => DS K ts ρ2 (Wk (I (i + 1))) N (Wk (I (i + 1))) R) ∧ ∀ ρ', I (m.map fun p => kD p.1).length ρ' → N ρ' := by
    refine ⟨I, h0, fun i d ρ' hx p => ?_, by rw [List.length_map]; exact hd⟩
    rw [List.getElem?_map] at hx
    obtain ⟨q, hq, rfl⟩ := Option.map_eq_some_iff.mp hx
    exact hs i q ρ' hq p
  intro U σ L G Dn o n b c r H j
  obtain ⟨v, h3, h4⟩ := o.at hi rfl
  obtain ⟨a, kvs, rfl, rd, kr, nd⟩ := rp_dc (show Rp K G v (.dc m) from h4)
  rcases rd with rd | ⟨od, rd⟩
  · refine .inl ⟨a, .dK kvs, j.up _ _ rd, trivial, fun od => ?_⟩
    have kr' : KvR K (upd G a (.frz od (.dK kvs))) kvs m := ⟨kr.1, rpa_gen (fun _ _ => rp_lock rd) kr.2⟩
    have hG : ∀ u, U.Ge a = some u → u = .dK kvs := fun u e => by have := o.ge a u e; rw [rd] at this; exact (Option.some.inj this).symm
    have hH : ∀ u, U.He a = some u → u = .dK kvs := fun u e => by have := j.keep a u e; rw [j.up _ _ rd] at this; exact (Option.some.inj this).symm
    have kn : ∀ {nx : L2.St → Hp → Prop} {N : List E → Prop}, KN K U nx G N → KN K (U.lk a (.frz od (.dK kvs))) (fun σ' H' => H' a = some (.frz od (.dK kvs)) ∧ nx σ' (upd H' a (.dK kvs))) (upd G a (.frz od (.dK kvs))) N := fun n ρ' σ' L' G' hN o' e' H' j' => by
      have g' : G' a = some (.frz od (.dK kvs)) := e' _ _ upd_same
      exact ⟨j'.up _ _ g', n ρ' σ' L' _ hN (EnvOk.unlk hG o' g') (ex_unlk rd e') _ (J.unlk2 (U := U.hides L') hH j' g')⟩
    refine sm_forAt (o.lk rd od) (kn n) (fun d v L' G' hR rp e' lo H' j' => ?_) (keys_at ⟨a, od, kvs, h3, upd_same, kr', nd⟩ hI) _ (j.lk rd od)
    have g' : G' a = some (.frz od (.dK kvs)) := e' _ _ upd_same
    exact ⟨j'.up _ _ g', r d v L' _ hR (rp_unlock g' rp) (ex_unlk rd e') lo.unlk _ (J.unlk2 (U := U.hides L') hH j' g')⟩
  · exact .inr (sm_forAt o n r (keys_at ⟨a, od, kvs, h3, rd, kr, nd⟩ hI) H j)
end
end Wp

set_option Elab.async false
set_option linter.all false
set_option maxRecDepth 100000
set_option maxHeartbeats 4000000
/-! A def that returns a dict of its own; d.clear(). -/
namespace Wp
section
open PySem L2 Evl StX PySem.Spec PyProof.Rows
set_option autoImplicit false
variable {K : PySem.W.Frag}
/-- v reads as d; and if that is a dict, then it is a new one -/
def FrD (K : PySem.W.Frag) (G0 G' : Hp) (v : V) (d : D) : Prop := Rp K G' v d ∧ ∀ m, d = .dc m → ∃ p kvs, v = .ref p ∧ G0 p = none ∧ G' p = some (.dK kvs) ∧ KvR K (wo p G') kvs m ∧ (m.map (·.1)).Nodup
def spDx {α : Type} (K : PySem.W.Frag) (args : α → List D) (pre : α → Prop) (res : α → D) : Sp := spA (fun (x : α × Hp) vs G => x.2 = G ∧ RpA K G vs (args x.1) ∧ pre x.1) (fun x v G' => FrD K x.2 G' v (res x.1))
def KMD (K : PySem.W.Frag) (U : Vx) (rt : VK) (G : Hp) (R : D → Prop) : Prop := ∀ d v L' G', R d → FrD K G G' v d → Ex G G' → LOk U L' → KV (U.hides L') rt v G'
def DSM (K : PySem.W.Frag) (ts : TS) (ρ : List E) (R : D → Prop) : Prop := ∀ U σ L G (Dn : Ends), EnvOk K U ρ σ L G → KMD K U Dn.rt G R → SM (U.hides L) ts Dn σ G
theorem FrD.back {G0 G1 G' : Hp} {v : V} {d : D} (e : Ex G0 G1) (h : FrD K G1 G' v d) : FrD K G0 G' v d := ⟨h.1, fun m z => let ⟨p, kvs, a, b, c⟩ := h.2 m z; ⟨p, kvs, a, none_of_ex e b, c⟩⟩
theorem KMD.mono {U : Vx} {rt : VK} {G G' : Hp} {R : D → Prop} (h : KMD K U rt G R) (e : Ex G G') : KMD K U rt G' R := fun d v L' G2 r f e2 lo => h d v L' G2 r (f.back e) (e.trans e2) lo
variable {ρ : List E} {t1 t2 ts : TS} {te : TE} {tt : TT} {R : D → Prop} {N B C : List E → Prop}
theorem dsm_seq (h : DS K t1 ρ (fun ρ' => DSM K t2 ρ' R) (fun _ => False) (fun _ => False) (fun d => (∀ m, d ≠ .dc m) ∧ R d)) : DSM K (tSeq t1 t2) ρ R := fun U σ L G Dn o r =>
  sm_seq (h U σ L G ⟨t2 Dn, Dn.rt, Dn.bk, Dn.ct⟩ o (fun ρ' σ' L' G' k o' e => fun H j => k U σ' L' G' Dn o' (r.mono e) H j) (fun _ _ _ _ z => z.elim) (fun _ _ _ _ z => z.elim) (fun d v L' G' hd rp e lo => r d v L' G' hd.2 ⟨rp, fun m z => absurd z (hd.1 m)⟩ e lo))
theorem dsm_ret (h : DE K te ρ fun e => DD e fun d => (∀ m, d ≠ .dc m) ∧ R d) : DSM K (tRet te) ρ R := fun U σ L G Dn o r =>
  sm_ret ((h U σ L G o).w fun v G1 ⟨e1, x, sx, d, ed, hn, hd⟩ => by subst ed; exact r d v L G1 hd ⟨sx, fun m z => absurd z (hn m)⟩ e1 o.lo)
theorem dsm_retM (h : DNM K te ρ fun m => R (.dc m)) : DSM K (tRet te) ρ R := fun U σ L G Dn o r =>
  sm_ret ((h U σ L G o).w fun v G' ⟨p, kvs, ks, ds, G1, ev, e1, np, e2, gp, hk, hn, k, m, em, en, q⟩ => by
    subst ev em en
    exact r _ _ L G' q ⟨Rp.dct (.inl gp) hk hn (k.mono e2), fun m' z => by
      injection z with z1 z2
      exact ⟨p, kvs, rfl, none_of_ex e1 np, gp, ⟨hk.trans z1, z2 ▸ k.mono (Ex.wo' np e2)⟩, z1 ▸ hn⟩⟩ (e1.trans e2) o.lo)
section
variable {α : Type} {args : α → List D} {pre : α → Prop} {res : α → D} {ds : List D} {tas : TA} {Q : E → Prop} {QM : List (Key × D) → Prop}
theorem fn_Dx {N : List Str} {ts : TS} {vs : List V} {H : Hp} {QV : VK} {E' : XK} (h : spDx K args pre res vs H QV E') (hb : ∀ x, pre x → DSM K ts ((args x).map E.d ++ List.replicate (N.length - (args x).length) E.any) (fun d => d = res x)) : ts { nx := fun _ H' => QV .non H', rt := QV } (L2.start N vs) H := by
  obtain ⟨⟨x, G0⟩, G, e0, ⟨eg, s, p⟩, q⟩ := h
  dsimp only at eg s p
  subst eg
  exact hb x p (V0 H G0) _ [] G0 ⟨fun _ H' => QV .non H', QV, fun _ _ => False, fun _ _ => False⟩ (start_env (Ex.refl G0) s)
    (fun d v L' G' r fr e lo H' j => q v H' G' j.keep e j.unhides.up j.new (by show FrD K G0 G' v (res x); rw [← r]; exact fr)) H (J.start e0).hides_nil
theorem len_Dx {vs : List V} {H : Hp} {QV : VK} {E' : XK} {n : Nat} (h : spDx K args pre res vs H QV E') (hn : ∀ x, (args x).length = n) : vs.length = n := by
  obtain ⟨⟨x, G0⟩, G, e0, ⟨eg, s, p⟩, q⟩ := h
  rw [s.len, hn]
theorem dc_Dx (x : α) (h : ds = args x) (p : pre x) (k : Q (.d (res x))) : DC K (spDx K args pre res) ds Q := fun U L G vs lo s => cm_a (x, G) ⟨rfl, h ▸ s, p⟩ fun v G' e fr => ⟨e, .d (res x), fr.1, k⟩
theorem dnm_callDx {E' : XK} (h : DA K tas ρ fun ds => ∃ x m, ds = args x ∧ pre x ∧ res x = .dc m ∧ QM m) : DNM K (tCall (spDx K args pre res) [] E' tas) ρ QM := fun U σ L G o =>
  em_call ((h U σ L G o).w fun vs G1 ⟨e1, ds, sd, x, m, ed, p, er, k⟩ => cm_a (x, G1) ⟨rfl, ed ▸ sd, p⟩ fun v G3 e3 ⟨rp, fr⟩ => by
    obtain ⟨p, kvs, ev, np, gp, kr, nd⟩ := fr m er
    exact ⟨p, kvs, m.map (·.1), m.map (·.2), wo p G3, ev, Ex.wo' (none_of_ex e1 np) (e1.trans e3), wo_same, fun b u e => by
      by_cases z : b = p
      · subst z; rw [wo_same] at e; cases e
      · rw [wo_ne z] at e; exact e, gp, kr.1, nd, kr.2, m, rfl, rfl, k⟩)
end
/-- a new dict emptied, and forgotten -/
theorem ds_clearN (h : DNM K te ρ fun _ => N ρ) : DS K (tDrop (tBM0 K "dict" rDClear te)) ρ N B C R := fun U σ L G Dn o n b c r H j =>
  h U σ L G o H j _ fun v H1 G1 j1 ⟨p, kvs, ks, ds, G0, ev, e1, np, e2, gp, hk, hn, k, m, em, en, q⟩ => by
    subst ev
    have np' : G p = none := none_of_ex e1 np
    have hU : U.Ge p = none := none_of_ex o.ge np'
    have hHe : U.He p = none := j1.new p (by rw [gp]; exact fun z => by cases z) hU
    have e3 : Ex G (wo p G1) := Ex.wo' np' (e1.trans e2)
    refine ⟨?_, p, kvs, rfl, rfl, j1.up _ _ gp, n ρ σ L (wo p G1) q (o.mono e3) e3 _ ⟨fun a u e => ?_, fun a u e => ?_, fun a q g => ?_, ?_, fun a ma => ?_⟩⟩
    · exact .inr (.inr (.inl ⟨rfl, .inl ⟨kvs, j1.up _ _ gp⟩⟩))
    · by_cases z : a = p
      · subst z; rw [wo_same] at e; cases e
      · rw [wo_ne z] at e; rw [upd_ne z]; exact j1.up _ _ e
    · have z : a ≠ p := fun z => by subst z; have e : U.He a = some u := e; rw [hHe] at e; cases e
      rw [upd_ne z]; exact j1.keep _ _ e
    · have z : a ≠ p := fun z => by subst z; exact q wo_same
      rw [wo_ne z] at q; exact j1.new a q g
    · refine (U.hides L).st H1 _ j1.hid fun a ma => ?_
      have z : a ≠ p := fun z => by subst z; rw [(j1.msk a ma).1] at gp; cases gp
      rw [upd_ne z]
    · have z : a ≠ p := fun z => by subst z; rw [(j1.msk a ma).1] at gp; cases gp
      rw [upd_ne z, wo_ne z]; exact j1.msk a ma
/-- the def's own dict emptied -/
theorem ds_clearO {i : Nat} (h : ∃ m, ρ[i]? = some (.dm m) ∧ SetTo ρ i (.dm []) N) : DS K (tDrop (tBM0 K "dict" rDClear (tVar i))) ρ N B C R := fun U σ L G Dn o n b c r H j => by
  obtain ⟨m, hi, ρ', hr, kn⟩ := h
  obtain ⟨v, h3, a, kvs, rfl, hm, hk, hn, k⟩ := o.at hi rfl
  obtain ⟨n1, n2, _⟩ := o.lo.nm _ hm
  subst hr
  refine ⟨_, h3, ?_, a, kvs, rfl, rfl, j.at hm, n _ _ _ _ kn (o.chg hi rfl dic1 h3 hm (.dic (mem_setO_self hm) rfl List.nodup_nil .nil)) (Ex.refl G) _ (j.chg hm rfl n1 n2)⟩
  exact .inr (.inr (.inl ⟨rfl, .inl ⟨kvs, j.at hm⟩⟩))
end
end Wp

set_option Elab.async false
set_option linter.all false
set_option maxRecDepth 100000
set_option maxHeartbeats 4000000
/-! != of two dicts with one and the same entries, whose values are ints or None. -/
namespace Wp
section
open PySem L2 Evl StX PySem.Spec PyProof.Rows
set_option autoImplicit false
variable {K : PySem.W.Frag}
def flatV : V → Prop
  | .non => True
  | .int _ => True
  | _ => False
theorem valV_mem : ∀ {kvs : List (Key × V)} {p : Key × V}, (kvs.map (·.1)).Nodup → p ∈ kvs → valV kvs p.1 = some p.2
  | q :: kvs, p, nd, h => by
    rw [List.map_cons, List.nodup_cons] at nd
    rcases List.mem_cons.mp h with rfl | h
    · exact valV_pos rfl
    · rw [valV_neg fun z => nd.1 (z ▸ List.mem_map.mpr ⟨p, h, rfl⟩)]
      exact valV_mem nd.2 h
theorem hits_same {A : Around} {s : Shared} {kvs : List (Key × V)} {vb : List (Key × Value)} (rb : L2.KV kvs vb) (nd : (kvs.map (·.1)).Nodup) : ∀ {sub : List (Key × V)} {va : List (Key × Value)}, L2.KV sub va → (∀ p ∈ sub, p ∈ kvs ∧ flatV p.2) → PySem.W.KeqHits A s vb va true
  | [], va, ra, _ => by cases ra; exact .nil
  | p :: sub, va, ra, hs => by
    have ra' : Paired (fun (p : Key × V) (q : Key × Value) => p.1 = q.1 ∧ RelV p.2 q.2) (p :: sub) va := ra
    cases ra' with
    | @cons _ q _ qs h t =>
      obtain ⟨h1, h2⟩ := h
      obtain ⟨k, v⟩ := q
      obtain ⟨pk, pv⟩ := p
      have h1 : pk = k := h1
      have h2 : RelV pv v := h2
      subst h1
      have ih := hits_same (A := A) (s := s) rb nd (sub := sub) (va := qs) t fun p hp => hs p (List.mem_cons_of_mem _ hp)
      obtain ⟨hm, hf⟩ := hs _ List.mem_cons_self
      have rv := rb.val pk
      rw [valV_mem nd hm] at rv
      cases z : valueAt vb pk with
      | none => rw [z] at rv; cases rv
      | some y =>
        rw [z] at rv
        have rv : RelV pv y := rv
        have e : (true && true) = true := rfl
        rw [← e]
        cases pv with
        | non =>
          have h2 : v = Value.none := h2
          have rv : y = Value.none := rv
          subst h2 rv
          exact .hit z (SeqAt.EqAt.same _) ih
        | int n =>
          obtain ⟨t1, h2⟩ := (show ∃ t, v = .int n t from h2)
          obtain ⟨t2, rv⟩ := (show ∃ t, y = .int n t from rv)
          subst h2 rv
          have := SeqAt.EqAt.int_int (A := A) (s := s) n t1 n t2
          rw [show (n == n) = true by simp] at this
          exact .hit z this ih
        | _ => exact hf.elim
def rNeSm : R2 := fun x y H Q => ∃ a b kvs, x = .ref a ∧ y = .ref b ∧ Rd H a (.dK kvs) ∧ Rd H b (.dK kvs) ∧ (kvs.map (·.1)).Nodup ∧ (∀ p ∈ kvs, flatV p.2) ∧ Q (.bl false) H
theorem op_neSm {X : Cx} (hu : X.A.units + 64 < cLine) : OpR X (compareOp .NotEq) rNeSm := by
  rintro pins s σ H x y v u Q I rx ry ⟨a, b, kvs, rfl, rfl, ea, eb, nd, hf, q⟩
  obtain rfl : v = Value.ref a := rx
  obtain rfl : u = Value.ref b := ry
  obtain ⟨_, ya, va, ra, da⟩ := dk_rd I.hok ea
  obtain ⟨_, yb, vb, rb, db⟩ := dk_rd I.hok eb
  refine PySem.W.keq_ne (knd := mixKind X.prog X.w) (r := true) ya yb da db (by omega) (fun _ => hits_same rb nd ra fun p hp => ⟨hp, hf p hp⟩) ⟨.bl false, H, I, ?_, q⟩
  have e : va.length = vb.length := by rw [← ra.length, ← rb.length]
  rw [e]
  show RelV (.bl false) (Value.bool (!(vb.length == vb.length && true)))
  simp
  rfl
def rNeC (K : PySem.W.Frag) : R2 := fun x y H Q => rNeB K x y H Q ∨ rNeSm x y H Q
theorem kp_neC {X : Cx} (hu : X.A.units + 64 < cLine) (h : X.K = K := by rfl) : OpR X (compareOp .NotEq) (rNeC K) := OpR.or (kp_neB hu h) (op_neSm hu)
def flatK : D → Prop
  | .non => True
  | .int _ => True
  | _ => False
theorem rp_flat {G : Hp} {v u : V} {d : D} (f : flatK d) (h1 : Rp K G v d) (h2 : Rp K G u d) : v = u ∧ flatV v := by
  cases d with
  | non => cases h1; cases h2; exact ⟨rfl, trivial⟩
  | int n => cases h1; cases h2; exact ⟨rfl, trivial⟩
  | _ => exact f.elim
theorem kvr_flat {G : Hp} : ∀ {m : List (Key × D)} {xs ys : List (Key × V)}, (∀ p ∈ m, flatK p.2) → KvR K G xs m → KvR K G ys m → xs = ys ∧ ∀ p ∈ xs, flatV p.2
  | [], xs, ys, _, h1, h2 => by
    have l1 := h1.len
    have l2 := h2.len
    cases xs with
    | nil => cases ys with
      | nil => exact ⟨rfl, fun p h => by cases h⟩
      | cons _ _ => cases l2
    | cons _ _ => cases l1
  | p :: m, xs, ys, hf, h1, h2 => by
    cases xs with
    | nil => have := h1.len; cases this
    | cons x xs =>
      cases ys with
      | nil => have := h2.len; cases this
      | cons y ys =>
        obtain ⟨d, m', e, r, h1'⟩ := h1.inv
        obtain ⟨d2, m2, e2, r2, h2'⟩ := h2.inv
        injection e with e3 e4
        injection e2 with e5 e6
        subst e4 e6
        have k1 : x.1 = y.1 := by rw [e3] at e5; injection e5
        have k2 : d = d2 := by rw [e3] at e5; injection e5
        subst k2
        have f := hf p List.mem_cons_self
        rw [e3] at f
        obtain ⟨f1, f2⟩ := rp_flat (K := K) (G := G) f r r2
        obtain ⟨i1, i2⟩ := kvr_flat (fun p hp => hf p (List.mem_cons_of_mem _ hp)) h1' h2'
        refine ⟨by rw [i1, Prod.ext k1 f1], fun p hp => ?_⟩
        rcases List.mem_cons.mp hp with rfl | hp
        · exact f2
        · exact i2 p hp
variable {Q : E → Prop} {x y : E}
theorem dr_neC (h : DR K (rNeB K) x y Q) : DR K (rNeC K) x y Q := fun U L G v w lo sx sy H j QH q => .inl (h U L G v w lo sx sy H j QH q)
theorem dr_neSm {m : List (Key × D)} (hx : x = .d (.dc m) ∨ x = .dm m) (hy : y = .d (.dc m) ∨ y = .dm m) (hf : ∀ p ∈ m, flatK p.2) (k : Q (.d (.bl false))) : DR K (rNeC K) x y Q := fun U L G v w lo sx sy H j QH q => by
  obtain ⟨a, kvs, rfl, r1, k1, nd⟩ := slot_dc hx sx j
  obtain ⟨b, lvs, rfl, r2, k2, _⟩ := slot_dc hy sy j
  obtain ⟨e, f⟩ := kvr_flat hf k1 k2
  subst e
  exact .inr ⟨a, b, kvs, rfl, rfl, r1, r2, by rw [k1.1]; exact nd, f, q _ _ _ j ⟨Ex.refl G, .d (.bl _), Rp.bl _, k⟩⟩
section
variable {α : Type} {args : α → List D} {pre : α → Prop} {res : α → D} {tas : TA} {ta : TE} {ρ : List E} {QM : List (Key × D) → Prop}
theorem dnm_methDx {C : Addr} {mn : Str} {sp : Sp} {E' : XK} (hsp : sp = spDx K args pre res) (h : DE K ta ρ fun x => ME C mn x fun ks ds => DA K tas ρ fun as => ∃ x m, (.obj C ks ds :: as) = args x ∧ pre x ∧ res x = .dc m ∧ QM m) : DNM K (tMeth C mn sp [] E' ta tas) ρ QM := fun U σ L G o => by
  subst hsp
  refine em_meth ((h U σ L G o).w fun v G1 ⟨e1, x, sx, ks, ds, ed, hn, hd⟩ => ?_)
  subst ed
  cases id (sx : Rp K G1 v (.obj C ks ds)) with
  | obj a kk b =>
    subst kk
    refine ⟨_, _, _, rfl, a, lk_none hn, (hd U σ L G1 (o.mono e1)).w fun vs G2 ⟨e2, as, sa, y, m, ey, pr, er, k⟩ => cm_a (y, G2) ⟨rfl, ey ▸ (.cons (Rp.mono (.obj a rfl b) e2) sa), pr⟩ fun v G3 e3 ⟨rp, fr⟩ => ?_⟩
    obtain ⟨p, kvs, ev, np, gp, kr, nd⟩ := fr m er
    exact ⟨p, kvs, m.map (·.1), m.map (·.2), wo p G3, ev, Ex.wo' (none_of_ex (e1.trans e2) np) ((e1.trans e2).trans e3), wo_same, fun b u e => by
      by_cases z : b = p
      · subst z; rw [wo_same] at e; cases e
      · rw [wo_ne z] at e; exact e, gp, kr.1, nd, kr.2, m, rfl, rfl, k⟩
end
end
end Wp

set_option Elab.async false
set_option linter.all false
set_option maxRecDepth 100000
set_option maxHeartbeats 4000000
/-! A def that returns a tuple in which some parts are new lists: the caller owns them. -/
namespace Wp
section
open PySem L2 Evl StX PySem.Spec PyProof.Rows
set_option autoImplicit false
variable {K : PySem.W.Frag}
def woA (A : List Addr) (G : Hp) : Hp := fun a => if a ∈ A then none else G a
theorem woA_in {A : List Addr} {G : Hp} {a : Addr} (h : a ∈ A) : woA A G a = none := if_pos h
theorem woA_out {A : List Addr} {G : Hp} {a : Addr} (h : a ∉ A) : woA A G a = G a := if_neg h
theorem Ex.woA {G0 G : Hp} {A : List Addr} (h : ∀ p ∈ A, G0 p = none) (e : Ex G0 G) : Ex G0 (woA A G) := fun a u z => by
  rw [woA_out (fun q => by rw [h a q] at z; cases z)]; exact e a u z
inductive FrS (K : PySem.W.Frag) (B G' : Hp) : List E → List V → List Addr → Prop
  | nil : FrS K B G' [] [] []
  | d {d : D} {v : V} {es : List E} {vs : List V} {A : List Addr} : Rp K B v d → FrS K B G' es vs A → FrS K B G' (.d d :: es) (v :: vs) A
  | own {p : Addr} {xs : List V} {ds : List D} {es : List E} {vs : List V} {A : List Addr} : G' p = some (.lst xs) → RpA K B xs ds → p ∉ A → FrS K B G' es vs A → FrS K B G' (.own ds :: es) (.ref p :: vs) (p :: A)
theorem FrS.len {B G' : Hp} {es : List E} {vs : List V} {A : List Addr} (h : FrS K B G' es vs A) : es.length = vs.length := by
  induction h with
  | nil => rfl
  | d _ _ ih => simp [ih]
  | own _ _ _ _ ih => simp [ih]
def FrT (K : PySem.W.Frag) (G0 G' : Hp) (v : V) (es : List E) : Prop := ∃ t vs A, v = .ref t ∧ SqT K G' t vs ∧ FrS K (woA A G') G' es vs A ∧ ∀ p ∈ A, G0 p = none
theorem FrT.back {G0 G1 G' : Hp} {v : V} {es : List E} (e : Ex G0 G1) (h : FrT K G1 G' v es) : FrT K G0 G' v es :=
  let ⟨t, vs, A, a, b, c, d⟩ := h; ⟨t, vs, A, a, b, c, fun p hp => none_of_ex e (d p hp)⟩
def setL : List E → List Nat → List E → List E
  | ρ, i :: is, e :: es => setL (ρ.set i e) is es
  | ρ, _, _ => ρ
def setV : L2.St → List Nat → List V → L2.St
  | σ, i :: is, v :: vs => setV (σ.set i (some v)) is vs
  | σ, _, _ => σ
def gsN : List Nat → TGs
  | [] => gNil
  | i :: is => gCons (gName i) (gsN is)
theorem gsN_run : ∀ {is : List Nat} {vs : List V} {σ : L2.St} {H : Hp} {Q : L2.St → Hp → Prop}, vs.length = is.length → Q (setV σ is vs) H → gsN is vs σ H Q
  | [], [], σ, H, Q, _, q => ⟨rfl, q⟩
  | [], _ :: _, _, _, _, h, _ => by cases h
  | _ :: _, [], _, _, _, h, _ => by cases h
  | i :: is, v :: vs, σ, H, Q, h, q => ⟨v, vs, rfl, gsN_run (by simpa using h) q⟩
theorem env_unpack {U : Vx} {B G' H' : Hp} {es : List E} {vs : List V} {A : List Addr} (f : FrS K B G' es vs A) : ∀ {is : List Nat} {ρ : List E} {σ : L2.St} {L : Ow} {Gc : Hp}, is.length = es.length → EnvOk K U ρ σ L B → J (U.hides L) H' Gc → (∀ a, Gc a = if a ∈ A then G' a else B a) → (∀ p ∈ A, B p = none) → ∃ L', EnvOk K U (setL ρ is es) (setV σ is vs) L' B ∧ J (U.hides L') H' B := by
  induction f with
  | nil =>
    intro is ρ σ L Gc hl o j hg hb
    cases is with
    | cons => cases hl
    | nil => exact ⟨L, o, by rw [show B = Gc from funext fun a => by rw [hg a]; simp]; exact j⟩
  | d r _ ih =>
    intro is ρ σ L Gc hl o j hg hb
    cases is with
    | nil => cases hl
    | cons i is => exact ih (is := is) (by simpa using hl) (o.set rfl r) j hg hb
  | @own p xs ds es vs A gp k np _ ih =>
    intro is ρ σ L Gc hl o j hg hb
    cases is with
    | nil => cases hl
    | cons i is =>
      have gcp : Gc p = some (.lst xs) := by rw [hg p, if_pos List.mem_cons_self]; exact gp
      have hUg : U.Ge p = none := none_of_ex o.ge (hb p List.mem_cons_self)
      have hl' : ∀ ws, (p, ws) ∉ L := fun ws hw => by
        have := (j.msk p (.inr ⟨ws, hw⟩)).1
        rw [gcp] at this; cases this
      have hm : ¬ U.m p := fun z => by
        have := (j.msk p (.inl z)).1
        rw [gcp] at this; cases this
      have hn : U.He p = none := j.new p (by rw [gcp]; exact fun q => by cases q) hUg
      refine ih (is := is) (by simpa using hl) (o.put (Ex.refl B) (fun q hq => List.mem_cons_of_mem _ hq) (o.lo.cons (o := HI.ex (.lst xs)) hl' hm hn hUg) (.own List.mem_cons_self k) (by simp) (fun a ha u hu => by simp at ha; subst ha; exact hl' u hu)) (j.own gcp rfl hUg) (fun a => ?_) (fun q hq => hb q (List.mem_cons_of_mem _ hq))
      by_cases z : a = p
      · subst z
        rw [wo_same, if_neg np, hb a List.mem_cons_self]
      · rw [wo_ne z, hg a]
        by_cases y : a ∈ A
        · rw [if_pos (List.mem_cons_of_mem _ y), if_pos y]
        · rw [if_neg (fun q => by rcases List.mem_cons.mp q with q | q; exact z q; exact y q), if_neg y]
theorem unpack_run {U : Vx} {ρ : List E} {σ : L2.St} {L : Ow} {G1 G' H' : Hp} {v : V} {es : List E} {is : List Nat} (o : EnvOk K U ρ σ L G1) (e : Ex G1 G') (j : J (U.hides L) H' G') (fr : FrT K G1 G' v es) (hl : es.length = is.length) {kn : L2.St → Hp → Prop} (k : ∀ σ' L' B, EnvOk K U (setL ρ is es) σ' L' B → Ex G1 B → J (U.hides L') H' B → kn σ' H') : gTup K is.length (gsN is) v σ H' kn := by
  obtain ⟨t, vs, A, rfl, sq, f, na⟩ := fr
  refine ⟨t, vs, rfl, ex_t j.up sq, by rw [← f.len, hl], gsN_run (by rw [← f.len, hl]) ?_⟩
  obtain ⟨L', o', j'⟩ := env_unpack f (is := is) hl.symm (o.mono (Ex.woA na e)) j (fun a => by
    by_cases z : a ∈ A
    · rw [if_pos z]
    · rw [if_neg z, woA_out z]) (fun p hp => woA_in hp)
  exact k _ L' _ o' (Ex.woA na e) j'
def spSL {α : Type} (K : PySem.W.Frag) (args : α → List D) (pre : α → Prop) (R : α → List E → Prop) : Sp := spSA K (fun (x : α × Hp) vs G => x.2 = G ∧ RpA K G vs (args x.1) ∧ pre x.1) (fun x v G' => ∃ es, R x.1 es ∧ FrT K x.2 G' v es)
def spAL {α : Type} (K : PySem.W.Frag) (args : α → List D) (pre : α → Prop) (R : α → List E → Prop) : Sp := spA (fun (x : α × Hp) vs G => x.2 = G ∧ RpA K G vs (args x.1) ∧ pre x.1) (fun x v G' => ∃ es, R x.1 es ∧ FrT K x.2 G' v es)
section
variable {α : Type} {args : α → List D} {pre : α → Prop} {R : α → List E → Prop} {ρ : List E} {N B C : List E → Prop} {Rr : D → Prop} {tr tas : TA}
theorem ds_unpackS {i j : Nat} {is : List Nat} {n : Nat} {gs : TGs} {sp : Sp} {E' : XK} (hsp : sp = spSL K args pre R) (hg : gs = gsN is) (hn : n = is.length) (h1 : ρ[i]? = some .st) (h2 : ρ[j]? = some .sc) (h : DA K tr ρ fun ds => ∃ x, ds = args x ∧ pre x ∧ ∀ es, R x es → es.length = is.length ∧ N (setL ρ is es)) : DS K (tAsg (tCall sp [] E' (tCons (tVar i) (tCons (tVar j) tr))) (gTup K n gs)) ρ N B C Rr := fun U σ L G Dn o n' b c r H jj => by
  subst hsp hg hn
  obtain ⟨v, h3, a, rfl, hd⟩ := o.at h1 rfl
  obtain ⟨w, h4, b', ns, rfl, hs⟩ := o.at h2 rfl
  refine ⟨_, h3, _, h4, h U σ L G o H jj _ fun vs H1 G1 j1 ⟨e1, ds, sd, x, ed, p, k⟩ => ?_⟩
  show spSA K _ _ (.ref a :: .ref b' :: (vs ++ [])) H1 _ _
  rw [List.append_nil]
  exact cm_sa (x, G1) (hd.hides o.lo) (ex_l e1 hs) ⟨rfl, ed ▸ sd, p⟩ (Q := fun v G' => Ex G1 G' ∧ ∃ es, R x es ∧ FrT K G1 G' v es) (fun v G' e q => ⟨e, q⟩) H1 j1 _ (fun v H' G' j' ⟨e, es, hR, fr⟩ => unpack_run (o.mono e1) e j' fr (k es hR).1 fun σ' L' B' o' eB j'' => n' _ σ' L' B' (k es hR).2 o' (e1.trans eB) H' j'') E'
theorem ds_unpackA {is : List Nat} {n : Nat} {gs : TGs} {sp : Sp} {E' : XK} (hsp : sp = spAL K args pre R) (hg : gs = gsN is) (hn : n = is.length) (h : DA K tas ρ fun ds => ∃ x, ds = args x ∧ pre x ∧ ∀ es, R x es → es.length = is.length ∧ N (setL ρ is es)) : DS K (tAsg (tCall sp [] E' tas) (gTup K n gs)) ρ N B C Rr := fun U σ L G Dn o n' b c r H jj => by
  subst hsp hg hn
  refine h U σ L G o H jj _ fun vs H1 G1 j1 ⟨e1, ds, sd, x, ed, p, k⟩ => ?_
  show spA _ _ (vs ++ []) H1 _ _
  rw [List.append_nil]
  exact cm_a (x, G1) ⟨rfl, ed ▸ sd, p⟩ (Q := fun v G' => Ex G1 G' ∧ ∃ es, R x es ∧ FrT K G1 G' v es) (fun v G' e q => ⟨e, q⟩) H1 j1 _ (fun v H' G' j' ⟨e, es, hR, fr⟩ => unpack_run (o.mono e1) e j' fr (k es hR).1 fun σ' L' B' o' eB j'' => n' _ σ' L' B' (k es hR).2 o' (e1.trans eB) H' j'') E'
end
/-! ### the def's side -/
def KRL (K : PySem.W.Frag) (U : Vx) (rt : VK) (G : Hp) (R : List E → Prop) : Prop := ∀ es v L' G', R es → FrT K G G' v es → Ex G G' → LOk U L' → KV (U.hides L') rt v G'
theorem KRL.mono {U : Vx} {rt : VK} {G G' : Hp} {R : List E → Prop} (h : KRL K U rt G R) (e : Ex G G') : KRL K U rt G' R := fun es v L' G2 r f e2 lo => h es v L' G2 r (f.back e) (e.trans e2) lo
def DSL (K : PySem.W.Frag) (ts : TS) (ρ : List E) (R : List E → Prop) : Prop := ∀ U σ L G (Dn : Ends), EnvOk K U ρ σ L G → KRL K U Dn.rt G R → SM (U.hides L) ts Dn σ G
section
variable {ρ : List E} {t1 t2 ts : TS} {R : List E → Prop} {tas : TA}
theorem dsl_seq (h : DS K t1 ρ (fun ρ' => DSL K t2 ρ' R) (fun _ => False) (fun _ => False) (fun _ => False)) : DSL K (tSeq t1 t2) ρ R := fun U σ L G Dn o r =>
  sm_seq (h U σ L G ⟨t2 Dn, Dn.rt, Dn.bk, Dn.ct⟩ o (fun ρ' σ' L' G' k o' e => fun H j => k U σ' L' G' Dn o' (r.mono e) H j) (fun _ _ _ _ z => z.elim) (fun _ _ _ _ z => z.elim) (fun _ _ _ _ z => z.elim))
def tvs : List Nat → TA
  | [] => tNil
  | i :: is => tCons (tVar i) (tvs is)
def VarS (ρ : List E) : List Nat → List E → Prop
  | [], [] => True
  | i :: is, e :: es => ρ[i]? = some e ∧ ((∃ d, e = .d d) ∨ ∃ ds, e = .own ds) ∧ VarS ρ is es
  | _, _ => False
inductive FrP (K : PySem.W.Frag) (L : Ow) (G : Hp) : List E → List V → List Addr → Prop
  | nil : FrP K L G [] [] []
  | d {d : D} {v : V} {es : List E} {vs : List V} {A : List Addr} : Rp K G v d → FrP K L G es vs A → FrP K L G (.d d :: es) (v :: vs) A
  | own {p : Addr} {xs : List V} {ds : List D} {es : List E} {vs : List V} {A : List Addr} : (p, HI.ex (.lst xs)) ∈ L → RpA K G xs ds → p ∉ A → FrP K L G es vs A → FrP K L G (.own ds :: es) (.ref p :: vs) (p :: A)
theorem vars_at {U : Vx} {σ : L2.St} {L : Ow} {G : Hp} {fp : Nat → List Addr} (of : EnvF K U ρ σ L G fp) : ∀ {is : List Nat} {es : List E}, VarS ρ is es → is.Nodup → ∃ vs A, (∀ (H : Hp) (Q : List V → Hp → Prop), Q vs H → tvs is σ H Q) ∧ FrP K L G es vs A ∧ (∀ p ∈ A, ∃ i ∈ is, p ∈ fp i) ∧ vs.length = is.length
  | [], [], _, _ => ⟨[], [], fun H Q q => q, .nil, (fun p hp => by cases hp), rfl⟩
  | [], _ :: _, h, _ => h.elim
  | _ :: _, [], h, _ => h.elim
  | i :: is, e :: es, ⟨h1, h2, h3⟩, hn => by
    obtain ⟨hn1, hn2⟩ := List.nodup_cons.mp hn
    obtain ⟨vs, A, k1, k2, k3, k4⟩ := vars_at of h3 hn2
    rcases h2 with ⟨d, rfl⟩ | ⟨ds, rfl⟩
    · obtain ⟨v, e1, s⟩ := of.at h1 rfl
      obtain ⟨F, hF⟩ : ∃ F, fp i = F := ⟨_, rfl⟩
      rw [hF] at s
      cases s with
      | d r => exact ⟨v :: vs, A, fun H Q q => ⟨v, e1, k1 H _ q⟩, .d r k2, fun p hp => let ⟨i', a, b⟩ := k3 p hp; ⟨i', List.mem_cons_of_mem _ a, b⟩, by simp [k4]⟩
    · obtain ⟨v, e1, s⟩ := of.at h1 rfl
      obtain ⟨F, hF⟩ : ∃ F, fp i = F := ⟨_, rfl⟩
      rw [hF] at s
      cases s with
      | @own a xs _ m r =>
        refine ⟨.ref a :: vs, a :: A, fun H Q q => ⟨.ref a, e1, k1 H _ q⟩, .own m r (fun z => ?_) k2, fun p hp => ?_, by simp [k4]⟩
        · obtain ⟨i', h4, h5⟩ := k3 a z
          exact of.ds i i' a (fun z => hn1 (z ▸ h4)) (by rw [hF]; exact List.mem_cons_self) h5
        · rcases List.mem_cons.mp hp with rfl | hp
          · exact ⟨i, List.mem_cons_self, by rw [hF]; exact List.mem_cons_self⟩
          · obtain ⟨i', a, b⟩ := k3 p hp
            exact ⟨i', List.mem_cons_of_mem _ a, b⟩
theorem J.showA {U : Vx} {L : Ow} {H G : Hp} {A : List Addr} (lo : LOk U L) (hA : ∀ a ∈ A, ∃ o, (a, HI.ex o) ∈ L) (j : J (U.hides L) H G) : J (U.hides (L.filter fun p => decide (p.1 ∉ A))) H (fun a => if a ∈ A then H a else G a) where
  up := fun b u e => by
    dsimp only at e
    by_cases z : b ∈ A
    · rw [if_pos z] at e; exact e
    · rw [if_neg z] at e; exact j.up b u e
  keep := j.keep
  new := fun b q g => by
    by_cases z : b ∈ A
    · obtain ⟨o, ho⟩ := hA b z
      exact (lo.nm _ ho).2.1
    · rw [if_neg z] at q; exact j.new b q g
  hid := ⟨j.hid.1, fun q hq => j.hid.2 q (List.mem_filter.mp hq).1⟩
  msk := fun b mb => by
    have z : b ∉ A := fun z => by
      obtain ⟨o, ho⟩ := hA b z
      rcases mb with mb | ⟨ws, hw⟩
      · exact (lo.nm _ ho).1 mb
      · exact of_decide_eq_true (List.mem_filter.mp hw).2 z
    rw [if_neg z]
    rcases mb with mb | ⟨ws, hw⟩
    · exact j.msk b (.inl mb)
    · exact j.msk b (.inr ⟨ws, (List.mem_filter.mp hw).1⟩)
theorem FrP.mem {L : Ow} {G : Hp} {es : List E} {vs : List V} {A : List Addr} (h : FrP K L G es vs A) : ∀ a ∈ A, ∃ o, (a, HI.ex o) ∈ L := by
  induction h with
  | nil => intro a ha; cases ha
  | d _ _ ih => exact ih
  | own m _ _ _ ih =>
    intro a ha
    rcases List.mem_cons.mp ha with rfl | ha
    · exact ⟨_, m⟩
    · exact ih a ha
theorem FrP.fr {L : Ow} {G B G' : Hp} {es : List E} {vs : List V} {A : List Addr} (h : FrP K L G es vs A) (e : Ex G B) (hg : ∀ p xs, p ∈ A → (p, HI.ex (.lst xs)) ∈ L → G' p = some (.lst xs)) : FrS K B G' es vs A := by
  induction h with
  | nil => exact .nil
  | d r _ ih => exact .d (r.mono e) (ih hg)
  | own m r np _ ih => exact .own (hg _ _ List.mem_cons_self m) (r.mono e) np (ih fun p xs hp => hg p xs (List.mem_cons_of_mem _ hp))
theorem dsl_ret {is : List Nat} {es : List E} (ht : tas = tvs is) (hn : is.Nodup) (hl : is.length ≤ sizeLine) (hs : VarS ρ is es) (k : R es) : DSL K (tRet (tTup tas)) ρ R := fun U σ L G Dn o r H j => by
  subst ht
  obtain ⟨fp, of⟩ := o.fs
  obtain ⟨vs, A, k1, k2, _, k4⟩ := vars_at of hs hn
  refine k1 H _ ⟨by rw [k4]; exact hl, fun t nt => ?_⟩
  have j1 := j.alloc (o := .tup vs) nt
  have hA := k2.mem
  have tA : t ∉ A := fun z => by
    obtain ⟨u, hu⟩ := hA t z
    rw [j.at hu] at nt; cases nt
  have gA : ∀ a ∈ A, G a = none := fun a ha => by
    obtain ⟨u, hu⟩ := hA a ha
    exact (j.msk a (.inr ⟨_, hu⟩)).1
  have nG : G t = none := j.free nt
  have e0 : Ex G (upd G t (.tup vs)) := Ex.new nG
  refine r es (.ref t) _ (fun a => if a ∈ A then (upd H t (.tup vs)) a else (upd G t (.tup vs)) a) k ⟨t, vs, A, rfl, st_of (by rw [if_neg tA]; exact upd_same), k2.fr ?_ fun p xs hp hm => ?_, gA⟩ (fun a u e => ?_) (o.lo.filter _) _ (j1.showA o.lo hA)
  · exact fun a u e => by
      have na : a ∉ A := fun z => by rw [gA a z] at e; cases e
      rw [woA_out na]
      show (if a ∈ A then _ else _) = _
      rw [if_neg na]; exact e0 a u e
  · show (if p ∈ A then _ else _) = _
    rw [if_pos hp]
    exact j1.at hm
  · show (if a ∈ A then _ else _) = _
    have na : a ∉ A := fun z => by rw [gA a z] at e; cases e
    rw [if_neg na]; exact e0 a u e
end
section
variable {α : Type} {args : α → List D} {pre : α → Prop} {R : α → List E → Prop} {ts : TS}
theorem len_sl {vs : List V} {H : Hp} {QV : VK} {E' : XK} {n : Nat} (h : spSL K args pre R vs H QV E') (hn : ∀ x, (args x).length + 2 = n) : vs.length = n := by
  obtain ⟨x, st, sc, ns, rest, G, rfl, _, _, _, _, ⟨_, s, p⟩, q⟩ := h
  rw [List.length_cons, List.length_cons, s.len, hn]
theorem len_al {vs : List V} {H : Hp} {QV : VK} {E' : XK} {n : Nat} (h : spAL K args pre R vs H QV E') (hn : ∀ x, (args x).length = n) : vs.length = n := by
  obtain ⟨⟨x, G0⟩, G, e0, ⟨eg, s, p⟩, q⟩ := h
  rw [s.len, hn]
theorem env_s {N : List Str} {args : List D} {st sc : Addr} {ns : List Int} {rest : List V} {H G : Hp} (hsc : SqL K G sc (ns.map V.int)) (s : RpA K G rest args) : EnvOk K (VS st H G) (.st :: .sc :: (args.map E.d ++ List.replicate (N.length - args.length - 2) E.any)) (L2.start N (.ref st :: .ref sc :: rest)) [] G := by
  have o := start_env (K := K) (N := N.drop 2) (U := V0 H G) (Ex.refl G) s
  have hl : L2.start N (.ref st :: .ref sc :: rest) = some (.ref st) :: some (.ref sc) :: (rest.map some ++ List.replicate (N.length - (rest.length + 2)) none) := rfl
  have e1 : L2.start (N.drop 2) rest = rest.map some ++ List.replicate (N.length - (rest.length + 2)) none := by
    unfold L2.start; rw [List.length_drop]; congr 2; omega
  have e2 : args.map E.d ++ List.replicate (N.length - args.length - 2) E.any = args.map E.d ++ List.replicate ((N.drop 2).length - args.length) E.any := by
    rw [List.length_drop]; congr 2; omega
  rw [hl, ← e1, e2]
  refine env_flat (by rw [List.length_cons, List.length_cons, o.len]; rfl) (fun i e h => ?_) (Ex.refl G)
  match i with
  | 0 => cases h; exact ⟨_, rfl, .inr ⟨_, rfl, rfl, st, rfl, VS.draw⟩⟩
  | 1 => cases h; exact ⟨_, rfl, .inr ⟨_, rfl, rfl, sc, ns, rfl, hsc⟩⟩
  | i + 2 =>
    obtain ⟨fp, of⟩ := o.fs
    obtain ⟨u, h1, h2⟩ := of.sl i e h
    refine ⟨u, h1, h2.elim (fun z => .inl z.1) fun ⟨v, h3, h4⟩ => ?_⟩
    have hm : e ∈ args.map E.d ++ List.replicate ((N.drop 2).length - args.length) E.any := List.mem_of_getElem? h
    cases e with
    | any => exact .inl rfl
    | d d => exact .inr ⟨v, h3, rfl, h4.slot⟩
    | own ds => simp at hm
    | dic ks ds => simp at hm
    | ob C ks ds => simp at hm
    | lo ds => simp at hm
    | st => simp at hm
    | sc => simp at hm
    | cd d cs => simp at hm
    | oa a w => simp at hm
    | nd ad d ws => simp at hm
theorem fn_sl {N : List Str} {vs : List V} {H : Hp} {QV : VK} {E' : XK} (h : spSL K args pre R vs H QV E') (hb : ∀ x, pre x → DSL K ts (.st :: .sc :: ((args x).map E.d ++ List.replicate (N.length - (args x).length - 2) E.any)) (R x)) : ts { nx := fun _ H' => QV .non H', rt := QV } (L2.start N vs) H := by
  obtain ⟨⟨x, G0⟩, st, sc, ns, rest, G, rfl, hst, gst, e0, hsc, ⟨eg, s, p⟩, q⟩ := h
  dsimp only at eg s p
  subst eg
  exact hb x p (VS st H G0) _ [] G0 ⟨fun _ H' => QV .non H', QV, fun _ _ => False, fun _ _ => False⟩ (env_s hsc s)
    (fun es v L' G' r fr e lo H' j => kv_s (p := fun v G' => ∃ es, R x es ∧ FrT K G0 G' v es) (Q := QV) (fun v H' G' a b c dd ee ff g => q v H' G' a b c dd ee ff g) e ⟨es, r, fr⟩ H' j.unhides) H (VS.start hst gst e0).hides_nil
theorem fn_al {N : List Str} {vs : List V} {H : Hp} {QV : VK} {E' : XK} (h : spAL K args pre R vs H QV E') (hb : ∀ x, pre x → DSL K ts ((args x).map E.d ++ List.replicate (N.length - (args x).length) E.any) (R x)) : ts { nx := fun _ H' => QV .non H', rt := QV } (L2.start N vs) H := by
  obtain ⟨⟨x, G0⟩, G, e0, ⟨eg, s, p⟩, q⟩ := h
  dsimp only at eg s p
  subst eg
  exact hb x p (V0 H G0) _ [] G0 ⟨fun _ H' => QV .non H', QV, fun _ _ => False, fun _ _ => False⟩ (start_env (Ex.refl G0) s)
    (fun es v L' G' r fr e lo H' j => q v H' G' j.keep e j.unhides.up j.new ⟨es, r, fr⟩) H (J.start e0).hides_nil
end
end
end Wp

set_option Elab.async false
set_option linter.all false
set_option maxRecDepth 100000
set_option maxHeartbeats 4000000
/-! A def that draws and changes several own things that are handed to it. -/
namespace Wp
section
open PySem L2 Evl StX PySem.Spec PyProof.Rows
set_option autoImplicit false
variable {K : PySem.W.Frag} {ρ : List E} {te tv tx ty : TE} {ts : TS} {N B C : List E → Prop} {Rr : D → Prop} {Q : E → Prop} {tr tas : TA}
def StI : HO → Prop := fun o => ∃ a b : Int, o = .lst [.int a, .int b] ∧ 0 ≤ a ∧ 0 ≤ b
theorem DrawOk.cell {U : Vx} {st : Addr} (d : DrawOk U st) : CellOk U st StI where
  m := d.m
  ne := d.ne
  at_ := fun H i => by obtain ⟨a, b, h1, h2⟩ := d.at_ H i; exact ⟨_, h1, a, b, rfl, h2⟩
  to := fun H H' i e h => d.to H H' i e (by obtain ⟨o, h1, a, b, rfl, h2⟩ := h; exact ⟨a, b, h1, h2⟩)
def spWS {α : Type} (K : PySem.W.Frag) (args : α → List D) (own : α → List (Addr × OD)) (pre : α → Prop) (R : α → D → List (Addr × OD) → Prop) : Sp := fun vs H Q _ => ∃ (x : α) (st sc : Addr) (ns : List Int) (rest : List V) (G : Hp), vs = .ref st :: .ref sc :: rest ∧ StAt H st ∧ G st = none ∧ st ∉ (own x).map (·.1) ∧ ((own x).map (·.1)).Nodup ∧ (∀ p ∈ own x, G p.1 = none ∧ ∃ u, H p.1 = some u ∧ ODr K G p.2 u) ∧ Ex G H ∧ SqL K G sc (ns.map V.int) ∧ RpA K G rest (args x) ∧ pre x ∧
  ∀ v d ws' H' G', (∀ y u, y ∉ (own x).map (·.1) → y ≠ st → H y = some u → H' y = some u) → ws'.map (·.1) = (own x).map (·.1) → (∀ p ∈ ws', ∃ u, H' p.1 = some u ∧ ODr K G' p.2 u) → StAt H' st → Ex G G' → Ex G' H' → (∀ b, G' b ≠ none → G b = none → H b = none) → (∀ p ∈ own x, G' p.1 = none) → G' st = none → R x d ws' → Rp K G' v d → Q v H'
def setOA : List E → List Nat → List (Addr × OD) → List E
  | ρ, k :: ks, p :: ws => setOA (ρ.set k (.oa p.1 p.2)) ks ws
  | ρ, _, _ => ρ
def OaAt (ρ : List E) : List Nat → List (Addr × OD) → Prop
  | [], [] => True
  | k :: ks, p :: ws => ρ[k]? = some (.oa p.1 p.2) ∧ OaAt ρ ks ws
  | _, _ => False
def ArgAt (args : List D) : List Nat → List (Addr × OD) → Prop
  | [], [] => True
  | k :: ks, p :: ws => 2 ≤ k ∧ args[k - 2]? = some (.adr p.1) ∧ ArgAt args ks ws
  | _, _ => False
theorem OaAt.set {k : Nat} {e : E} : ∀ {ks : List Nat} {ws : List (Addr × OD)}, OaAt ρ ks ws → k ∉ ks → OaAt (ρ.set k e) ks ws
  | [], [], _, _ => trivial
  | k' :: ks, p :: ws, ⟨h1, h2⟩, hn => ⟨by rw [List.getElem?_set_ne (show k ≠ k' from fun z => hn (by rw [z]; exact List.mem_cons_self))]; exact h1, OaAt.set h2 fun z => hn (List.mem_cons_of_mem _ z)⟩
  | [], _ :: _, h, _ => h.elim
  | _ :: _, [], h, _ => h.elim
theorem OaAt.mem {U : Vx} {σ : L2.St} {L : Ow} {G : Hp} (o : EnvOk K U ρ σ L G) : ∀ {ks : List Nat} {ws : List (Addr × OD)}, OaAt ρ ks ws → ∀ p ∈ ws, ∃ u, (p.1, HI.ex u) ∈ L ∧ ODr K G p.2 u
  | [], [], _, p, hp => by cases hp
  | k :: ks, q :: ws, ⟨h1, h2⟩, p, hp => by
    rcases List.mem_cons.mp hp with rfl | hp
    · obtain ⟨u, _, m, r⟩ := o.oa h1
      exact ⟨u, m, r⟩
    · exact OaAt.mem o h2 p hp
  | [], _ :: _, h, _, _ => h.elim
  | _ :: _, [], h, _, _ => h.elim
theorem OaAt.nodup {U : Vx} {σ : L2.St} {L : Ow} {G : Hp} {fp : Nat → List Addr} (of : EnvF K U ρ σ L G fp) : ∀ {ks : List Nat} {ws : List (Addr × OD)}, OaAt ρ ks ws → ks.Nodup → (ws.map (·.1)).Nodup ∧ ∀ a ∈ ws.map (·.1), ∃ k ∈ ks, a ∈ fp k
  | [], [], _, _ => ⟨List.nodup_nil, fun a ha => by cases ha⟩
  | k :: ks, p :: ws, ⟨h1, h2⟩, hn => by
    obtain ⟨n1, n2⟩ := List.nodup_cons.mp hn
    obtain ⟨i1, i2⟩ := OaAt.nodup of h2 n2
    obtain ⟨v, _, s⟩ := of.at h1 rfl
    obtain ⟨F, hF⟩ : ∃ F, fp k = F := ⟨_, rfl⟩
    rw [hF] at s
    cases s with
    | oa m r =>
      refine ⟨List.nodup_cons.mpr ⟨fun z => ?_, i1⟩, fun a ha => ?_⟩
      · obtain ⟨k', h3, h4⟩ := i2 _ z
        exact of.ds k k' p.1 (fun z => n1 (z ▸ h3)) (by rw [hF]; exact List.mem_cons_self) h4
      · rcases List.mem_cons.mp ha with rfl | ha
        · exact ⟨k, List.mem_cons_self, by rw [hF]; exact List.mem_cons_self⟩
        · obtain ⟨k', h3, h4⟩ := i2 _ ha
          exact ⟨k', List.mem_cons_of_mem _ h3, h4⟩
  | [], _ :: _, h, _ => h.elim
  | _ :: _, [], h, _ => h.elim
theorem chgL_nil {f : Addr → HO} {L : Ow} : chgL [] f L = L := by
  unfold chgL
  exact (List.map_congr_left fun e _ => if_neg (by simp)).trans (List.map_id _)
theorem chgL_cons {a : Addr} {A : List Addr} {f : Addr → HO} {L : Ow} : chgL A f (chgL [a] f L) = chgL (a :: A) f L := by
  unfold chgL
  rw [List.map_map]
  refine List.map_congr_left fun e _ => ?_
  by_cases z : e.1 = a
  · by_cases y : a ∈ A <;> simp [z, y]
  · by_cases y : e.1 ∈ A <;> simp [z, y]
theorem env_chgs {U : Vx} {σ : L2.St} {G : Hp} {f : Addr → HO} : ∀ {ks : List Nat} {ws ws' : List (Addr × OD)} {ρ : List E} {L : Ow}, EnvOk K U ρ σ L G → OaAt ρ ks ws → ws'.map (·.1) = ws.map (·.1) → ks.Nodup → (∀ p ∈ ws', ODr K G p.2 (f p.1)) → EnvOk K U (setOA ρ ks ws') σ (chgL (ws'.map (·.1)) f L) G
  | [], [], ws', ρ, L, o, _, hw, _, _ => by
    cases ws' with
    | cons _ _ => cases hw
    | nil => rw [List.map_nil, chgL_nil]; exact o
  | k :: ks, p :: ws, [], ρ, L, o, _, hw, _, _ => by cases hw
  | k :: ks, p :: ws, q :: ws', ρ, L, o, ⟨h1, h2⟩, hw, hn, hr => by
    obtain ⟨n1, n2⟩ := List.nodup_cons.mp hn
    rw [List.map_cons, List.map_cons] at hw
    injection hw with e1 e2
    obtain ⟨v, F, _, s, _, k4⟩ := o.upd h1 rfl
    cases s with
    | @oa a u w m r =>
      have e1 : q.1 = p.1 := e1
      have o1 : EnvOk K U (ρ.set k (.oa q.1 q.2)) σ (chgL [q.1] f L) G := by
        refine k4 _ _ _ [p.1] (Ex.refl G) (fun b I hb => chgL_out (fun z => ?_) hb) (fun b u nb hb => chgL_out (by rw [e1]; exact nb) hb) o.lo.chgs ?_ (by simp) (fun x hx => .inl hx)
        · rw [List.mem_singleton] at z
          exact o.lo.nce hb m (z.trans e1)
        · rw [e1]
          exact .oa (chgL_in List.mem_cons_self m) (e1 ▸ hr q List.mem_cons_self)
      have := env_chgs (ws' := ws') o1 (h2.set n1) e2 n2 fun p hp => hr p (List.mem_cons_of_mem _ hp)
      rw [chgL_cons] at this
      exact this
  | [], _ :: _, _, _, _, _, h, _, _, _ => h.elim
  | _ :: _, [], _, _, _, _, h, _, _, _ => h.elim
section
variable {α : Type} {args : α → List D} {own : α → List (Addr × OD)} {pre : α → Prop} {R : α → D → List (Addr × OD) → Prop}
theorem de_oaA {i : Nat} {a : Addr} {w : OD} (hi : ρ[i]? = some (.oa a w)) (k : Q (.d (.adr a))) : DE K (tVar i) ρ Q := fun U σ L G o => by
  obtain ⟨u, h1, _, _⟩ := o.oa hi
  exact em_var h1 ⟨Ex.refl G, .d (.adr a), .adr a, k⟩
theorem ds_dropWS {i j : Nat} {sp : Sp} {E' : XK} (ks : List Nat) (hk : ks.Nodup) (hsp : sp = spWS K args own pre R) (h1 : ρ[i]? = some .st) (h2 : ρ[j]? = some .sc) (h : DA K tr ρ fun ds => ∃ x, ds = args x ∧ OaAt ρ ks (own x) ∧ pre x ∧ ∀ d ws', R x d ws' → ws'.map (·.1) = (own x).map (·.1) → N (setOA ρ ks ws')) : DS K (tDrop (tCall sp [] E' (tCons (tVar i) (tCons (tVar j) tr)))) ρ N B C Rr := fun U σ L G Dn o n' b c r H jj => by
  subst hsp
  obtain ⟨v, h3, a, rfl, hd⟩ := o.at h1 rfl
  obtain ⟨w, h4, b', ns, rfl, hs⟩ := o.at h2 rfl
  refine ⟨_, h3, _, h4, h U σ L G o H jj _ fun vs H1 G1 j1 ⟨e1, ds, sd, x, ed, oa, p, k⟩ => ?_⟩
  show spWS K _ _ _ _ (.ref a :: .ref b' :: (vs ++ [])) H1 _ _
  rw [List.append_nil]
  have o1 := o.mono e1
  obtain ⟨fp, of⟩ := o1.fs
  have hnd := (oa.nodup of hk).1
  have hm := oa.mem o1
  obtain ⟨A, hA⟩ : ∃ A, A = (own x).map (·.1) := ⟨_, rfl⟩
  have hAL : ∀ y ∈ A, ∃ u, (y, HI.ex u) ∈ L := fun y hy => by
    rw [hA] at hy
    obtain ⟨p, hp, rfl⟩ := List.mem_map.mp hy
    obtain ⟨u, m, _⟩ := hm p hp
    exact ⟨u, m⟩
  have hdh := hd.hides o.lo
  have nA : a ∉ A := fun z => by obtain ⟨u, m⟩ := hAL a z; exact (o.lo.nm _ m).1 hd.m
  refine ⟨x, a, b', ns, vs, G1, rfl, hdh.at_ H1 j1.hid, (j1.msk a hdh.m).1, by rw [← hA]; exact nA, hnd, fun p hp => ?_, j1.up, ex_l e1 hs, ed ▸ sd, p, fun v d ws' H' G' hkp hws hwo hst e2 e3 hn g1 gst hR rv => ?_⟩
  · obtain ⟨u, m, r'⟩ := hm p hp
    exact ⟨(j1.msk _ (.inr ⟨_, m⟩)).1, u, j1.at m, r'⟩
  rw [← hA] at hkp hws
  obtain ⟨f, hf⟩ : ∃ f : Addr → HO, f = fun a => (H' a).getD (.rng 0 0) := ⟨_, rfl⟩
  have hfu : ∀ p ∈ ws', H' p.1 = some (f p.1) ∧ ODr K G' p.2 (f p.1) := fun p hp => by
    obtain ⟨u, h5, h6⟩ := hwo p hp
    have : f p.1 = u := by rw [hf]; show (H' p.1).getD _ = u; rw [h5]; rfl
    rw [this]; exact ⟨h5, h6⟩
  have hfa : ∀ y ∈ A, H' y = some (f y) := fun y hy => by
    rw [← hws] at hy
    obtain ⟨p, hp, rfl⟩ := List.mem_map.mp hy
    exact (hfu p hp).1
  have gA : ∀ y ∈ A, G' y = none := fun y hy => by
    rw [hA] at hy
    obtain ⟨p, hp, rfl⟩ := List.mem_map.mp hy
    exact g1 p hp
  have j2 := j1.chgs (f := f) o.lo hAL
  have lo2 : LOk U (chgL A f L) := o.lo.chgs
  have j3 := J.cells_call (cs := [(a, StI)]) (H' := H') (G' := G') (fun c hc => by rw [List.mem_singleton.mp hc]; exact cell_hid lo2 (.inl hd.cell)) j2 (fun y u hy e => by
    by_cases z : y ∈ A
    · rw [chgH_in z] at e; rw [hfa y z]; exact e
    · rw [chgH_out z] at e; exact hkp y u z (hy _ (List.mem_singleton.mpr rfl)) e) (fun c hc => by
    rw [List.mem_singleton.mp hc]
    obtain ⟨p, q, h5, h6⟩ := hst
    exact ⟨_, h5, p, q, rfl, h6⟩) e3 (fun b hb hg => by
    have nb : b ∉ A := fun z => hb (gA b z)
    rw [chgH_out nb]; exact hn b hb hg)
  have o2 := env_chgs (f := f) (o1.mono e2) oa (by rw [hws, hA]) hk fun p hp => (hfu p hp).2
  rw [hws] at o2
  exact n' _ σ _ G' (k d ws' hR (by rw [hws, hA])) o2 (e1.trans e2) H' j3
theorem len_ws {vs : List V} {H : Hp} {QV : VK} {E' : XK} {n : Nat} (h : spWS K args own pre R vs H QV E') (hn : ∀ x, (args x).length + 2 = n) : vs.length = n := by
  obtain ⟨x, st, sc, ns, rest, G, rfl, _, _, _, _, _, _, _, s, _⟩ := h
  rw [List.length_cons, List.length_cons, s.len, hn]
def ownL (f : Addr → HO) : List (Addr × OD) → Ow → Ow
  | [], L => L
  | p :: ws, L => ownL f ws ((p.1, .ex (f p.1)) :: L)
theorem ownL_mem {f : Addr → HO} {b : Addr} {u : HI} : ∀ {ws : List (Addr × OD)} {L : Ow}, (b, u) ∈ ownL f ws L ↔ (∃ p ∈ ws, b = p.1 ∧ u = .ex (f b)) ∨ (b, u) ∈ L
  | [], L => ⟨.inr, fun h => h.elim (fun ⟨p, hp, _⟩ => by cases hp) id⟩
  | p :: ws, L => by
    show (b, u) ∈ ownL f ws _ ↔ _
    rw [ownL_mem]
    constructor
    · rintro (⟨q, hq, e⟩ | h)
      · exact .inl ⟨q, List.mem_cons_of_mem _ hq, e⟩
      · rcases List.mem_cons.mp h with e | h
        · cases e; exact .inl ⟨p, List.mem_cons_self, rfl, rfl⟩
        · exact .inr h
    · rintro (⟨q, hq, e1, e2⟩ | h)
      · rcases List.mem_cons.mp hq with rfl | hq
        · subst e1; rw [e2]; exact .inr List.mem_cons_self
        · exact .inl ⟨q, hq, e1, e2⟩
      · exact .inr (List.mem_cons_of_mem _ h)
theorem put_oas {U : Vx} {σ : L2.St} {G : Hp} {f : Addr → HO} : ∀ {ks : List Nat} {ws : List (Addr × OD)} {ρ : List E} {L : Ow}, EnvOk K U ρ σ L G → ks.length = ws.length → (∀ (i k : Nat) (p : Addr × OD), ks[i]? = some k → ws[i]? = some p → σ[k]? = some (some (.ref p.1))) → (∀ p ∈ ws, ODr K G p.2 (f p.1) ∧ ¬ U.m p.1 ∧ U.He p.1 = none ∧ U.Ge p.1 = none ∧ ∀ u, (p.1, u) ∉ L) → (ws.map (·.1)).Nodup → EnvOk K U (setOA ρ ks ws) σ (ownL f ws L) G
  | [], [], ρ, L, o, _, _, _, _ => o
  | [], _ :: _, _, _, _, h, _, _, _ => by cases h
  | _ :: _, [], _, _, _, h, _, _, _ => by cases h
  | k :: ks, p :: ws, ρ, L, o, hl, hv, hp, hn => by
    rw [List.map_cons] at hn
    obtain ⟨n1, n2⟩ := List.nodup_cons.mp hn
    obtain ⟨r, m, he, hg, hL⟩ := hp p List.mem_cons_self
    have o1 := o.put (i := k) (L' := (p.1, HI.ex (f p.1)) :: L) (v := .ref p.1) (e := .oa p.1 p.2) (F := [p.1]) (Ex.refl G) (fun q hq => List.mem_cons_of_mem _ hq) (o.lo.cons hL m he hg) (.oa List.mem_cons_self r) (by simp) (fun a ha u hu => by simp at ha; subst ha; exact hL u hu)
    rw [set_self (hv 0 k p rfl rfl)] at o1
    show EnvOk K U (setOA (ρ.set k (.oa p.1 p.2)) ks ws) σ (ownL f ws ((p.1, HI.ex (f p.1)) :: L)) G
    refine put_oas o1 (by simpa using hl) (fun i k' p' h1 h2 => hv (i + 1) k' p' h1 h2) (fun q hq => ?_) n2
    obtain ⟨r', m', he', hg', hL'⟩ := hp q (List.mem_cons_of_mem _ hq)
    refine ⟨r', m', he', hg', fun u hu => ?_⟩
    rcases List.mem_cons.mp hu with e | hu
    · injection e with e1 e2
      exact n1 (e1 ▸ List.mem_map.mpr ⟨q, hq, rfl⟩)
    · exact hL' u hu
theorem argAt_at {args : List D} : ∀ {ks : List Nat} {ws : List (Addr × OD)}, ArgAt args ks ws → ks.length = ws.length ∧ ∀ (i k : Nat) (p : Addr × OD), ks[i]? = some k → ws[i]? = some p → 2 ≤ k ∧ args[k - 2]? = some (.adr p.1)
  | [], [], _ => ⟨rfl, fun i k p h => by simp at h⟩
  | k :: ks, p :: ws, ⟨h1, h2, h3⟩ => by
    obtain ⟨l, m⟩ := argAt_at h3
    refine ⟨by simp [l], fun i k' p' a b => ?_⟩
    cases i with
    | zero => cases a; cases b; exact ⟨h1, h2⟩
    | succ i => exact m i k' p' a b
  | [], _ :: _, h => h.elim
  | _ :: _, [], h => h.elim
theorem fn_ws (ks : List Nat) {Nm : List Str} {vs : List V} {H : Hp} {QV : VK} {E' : XK} (h : spWS K args own pre R vs H QV E') (hk : ∀ x, ArgAt (args x) ks (own x))
    (hb : ∀ x, pre x ∧ ((own x).map (·.1)).Nodup → DSX K ts (setOA (.st :: .sc :: ((args x).map E.d ++ List.replicate (Nm.length - (args x).length - 2) E.any)) ks (own x)) (fun ρ' => ∃ ws', OaAt ρ' ks ws' ∧ ws'.map (·.1) = (own x).map (·.1) ∧ R x .non ws') (fun d ρ' => ∃ ws', OaAt ρ' ks ws' ∧ ws'.map (·.1) = (own x).map (·.1) ∧ R x d ws')) : ts { nx := fun _ H' => QV .non H', rt := QV } (L2.start Nm vs) H := by
  obtain ⟨x, st, sc, ns, rest, G, rfl, hst, gst, nst, hnd, hwo, e0, hsc, s, hp, q⟩ := h
  have hbx := hb x ⟨hp, hnd⟩
  obtain ⟨hkl, hka⟩ := argAt_at (hk x)
  obtain ⟨A, hA⟩ : ∃ A, A = (own x).map (·.1) := ⟨_, rfl⟩
  rw [← hA] at nst q
  have mA : ∀ p ∈ own x, p.1 ∈ A := fun p hp => by rw [hA]; exact List.mem_map.mpr ⟨p, hp, rfl⟩
  obtain ⟨f, hf⟩ : ∃ f : Addr → HO, f = fun a => (H a).getD (.rng 0 0) := ⟨_, rfl⟩
  have hfp : ∀ p ∈ own x, H p.1 = some (f p.1) ∧ ODr K G p.2 (f p.1) := fun p hp => by
    obtain ⟨_, u, h1, h2⟩ := hwo p hp
    have hfu : f p.1 = u := by rw [hf]; show (H p.1).getD _ = u; rw [h1]; rfl
    rw [hfu]; exact ⟨h1, h2⟩
  have hfa : ∀ a ∈ A, H a = some (f a) ∧ G a = none := fun a ha => by
    rw [hA] at ha
    obtain ⟨p, hp, rfl⟩ := List.mem_map.mp ha
    exact ⟨(hfp p hp).1, (hwo p hp).1⟩
  obtain ⟨H0, hH0⟩ : ∃ H0 : Hp, H0 = fun a => if a ∈ A then none else H a := ⟨_, rfl⟩
  have w0 : ∀ y, y ∉ A → H0 y = H y := fun y n1 => by rw [hH0]; exact if_neg n1
  have w1 : ∀ y, y ∈ A → H0 y = none := fun y n1 => by rw [hH0]; exact if_pos n1
  have he : ∀ y u, H0 y = some u → H y = some u := fun y u e => by
    have n1 : y ∉ A := fun z => by rw [w1 y z] at e; cases e
    rw [w0 y n1] at e; exact e
  have wst : ∀ a, H0 a = none → wo st H0 a = none := fun a e => by
    by_cases z : a = st
    · subst z; exact wo_same
    · rw [wo_ne z]; exact e
  have wsk : ∀ a u, wo st H0 a = some u → H0 a = some u := fun a u e => by
    by_cases z : a = st
    · subst z; rw [wo_same] at e; cases e
    · rw [wo_ne z] at e; exact e
  have nf : ∀ a ∈ A, ¬ (VS st H0 G).m a ∧ (VS st H0 G).He a = none ∧ (VS st H0 G).Ge a = none := fun a ha => ⟨fun z => nst ((show a = st from z) ▸ ha), wst _ (w1 _ ha), (hfa _ ha).2⟩
  have o0 := env_s (K := K) (N := Nm) (st := st) (H := H0) hsc s
  have o2 := put_oas (f := f) (ks := ks) (ws := own x) o0 hkl (fun i k p h1 h2 => by
    obtain ⟨k2, hd⟩ := hka i k p h1 h2
    obtain ⟨v, hv, rv⟩ := s.get hd
    cases rv
    obtain ⟨k, rfl⟩ : ∃ k', k = k' + 2 := ⟨k - 2, by omega⟩
    have hlt := (List.getElem?_eq_some_iff.mp hv).1
    rw [Nat.add_sub_cancel] at hv hlt
    show (L2.start Nm (.ref st :: .ref sc :: rest))[k + 2]? = _
    unfold L2.start
    rw [List.getElem?_append_left (by simp; exact hlt), List.getElem?_map]
    show Option.map some (rest[k]?) = _
    rw [hv]; rfl) (fun p hp => ⟨(hfp p hp).2, (nf _ (mA p hp)).1, (nf _ (mA p hp)).2.1, (nf _ (mA p hp)).2.2, fun u hu => by cases hu⟩) hnd
  have mL : ∀ b u, (b, u) ∈ ownL f (own x) [] ↔ b ∈ A ∧ u = HI.ex (f b) := fun b u => by
    rw [ownL_mem]
    constructor
    · rintro (⟨p, hp, rfl, e⟩ | h)
      · exact ⟨mA p hp, e⟩
      · cases h
    · rintro ⟨ha, e⟩
      rw [hA] at ha
      obtain ⟨p, hp, rfl⟩ := List.mem_map.mp ha
      exact .inl ⟨p, hp, rfl, e⟩
  have j0 : J ((VS st H0 G).hides (ownL f (own x) [])) H G := ⟨e0, fun a u e => he a u (wsk a u e), fun a y z => absurd z y, ⟨hst, fun b hb => by
    obtain ⟨ha, e⟩ := (mL b.1 b.2).mp hb
    rw [e]
    exact ⟨f b.1, (hfa _ ha).1, rfl⟩⟩, fun b mb => by
    rcases mb with mb | ⟨u, hb⟩
    · have mb : b = st := mb
      subst mb
      obtain ⟨y, z, h1, _⟩ := hst
      exact ⟨gst, by rw [h1]; exact fun z => by cases z⟩
    · obtain ⟨ha, _⟩ := (mL b u).mp hb
      exact ⟨(hfa _ ha).2, by rw [(hfa _ ha).1]; exact fun z => by cases z⟩⟩
  have fin : ∀ d v ρ' σ' L' G' ws', OaAt ρ' ks ws' → ws'.map (·.1) = (own x).map (·.1) → R x d ws' → Rp K G' v d → EnvOk K (VS st H0 G) ρ' σ' L' G' → Ex G G' → ∀ H', J ((VS st H0 G).hides L') H' G' → QV v H' := fun d v ρ' σ' L' G' ws' k1 kw k2 rv o' e H' j' => by
    have hq := k1.mem o'
    have gA : ∀ a ∈ A, G' a = none := fun a ha => by
      rw [hA, ← kw] at ha
      obtain ⟨p, hp, rfl⟩ := List.mem_map.mp ha
      obtain ⟨u, m1, _⟩ := hq p hp
      exact (j'.msk _ (.inr ⟨_, m1⟩)).1
    have gs' : G' st = none := (j'.msk st (.inl rfl)).1
    exact q v d ws' H' G' (fun y u n1 nc hy => j'.keep y u (by show wo st H0 y = some u; rw [wo_ne nc, w0 y n1]; exact hy)) (by rw [kw, hA]) (fun p hp => by
      obtain ⟨u, m1, m2⟩ := hq p hp
      exact ⟨u, j'.at m1, m2⟩) j'.hid.1 e j'.up (fun b hb hg => by
      have hh : wo st H0 b = none := j'.new b hb hg
      have nb : b ≠ st := fun z => by subst z; exact hb gs'
      rw [wo_ne nb, w0 b (fun z => hb (gA b z))] at hh; exact hh) (fun p hp => gA _ (mA p hp)) gs' k2 rv
  exact hbx (VS st H0 G) _ _ G ⟨fun _ H' => QV .non H', QV, fun _ _ => False, fun _ _ => False⟩ o2
    (fun ρ' σ' L' G' ⟨ws', k1, kw, k2⟩ o' e H' j' => fin .non .non ρ' σ' L' G' ws' k1 kw k2 .non o' e H' j')
    (fun d v ρ' σ' L' G' ⟨ws', k1, kw, k2⟩ rv o' e H' j' => fin d v ρ' σ' L' G' ws' k1 kw k2 rv o' e H' j') H j0
end
/-! ### looks at own things at addresses, and their changes -/
theorem de_seeL (i : Nat) {a : Addr} {ds : List D} {ρ' : List E} (hi : ρ[i]? = some (.oa a (.lst ds))) (hr : ρ.set i (.own ds) = ρ') (h : DE K te ρ' Q) : DE K te ρ Q := fun U σ L G o => by
  subst hr; exact h U σ L G (o.unL hi)
theorem de_seeD (i : Nat) {a : Addr} {m : List (Key × D)} {ρ' : List E} (hi : ρ[i]? = some (.oa a (.dm m))) (hr : ρ.set i (.dm m) = ρ') (h : DE K te ρ' Q) : DE K te ρ Q := fun U σ L G o => by
  subst hr; exact h U σ L G (o.unD hi)
theorem ds_appendA {i : Nat} (h : ∃ a ds, ρ[i]? = some (.oa a (.lst ds)) ∧ DE K te ρ fun e => DD e fun d => ds.length < sizeLine ∧ SetTo ρ i (.oa a (.lst (ds ++ [d]))) N) : DS K (tDrop (tBM K "list" rAppend (tVar i) (tCons te tNil))) ρ N B C Rr := fun U σ L G Dn o n b c r H j => by
  obtain ⟨a, ds, hi, h⟩ := h
  obtain ⟨u, h3, hm, hr0⟩ := o.oa hi
  cases hr0 with
  | @lst vs _ k =>
    obtain ⟨n1, n2, _⟩ := o.lo.nm _ hm
    refine ⟨_, h3, .inl ⟨rfl, vs, sq_of (j.at hm)⟩, h U σ L G o H j _ fun y H1 G1 j1 ⟨e1, x, sx, d, ed, hz, ρ', hr, kn⟩ => ⟨a, vs, y, rfl, rfl, j1.at hm, by rw [k.len]; exact hz, ?_⟩⟩
    subst ed hr
    exact n _ _ _ _ kn ((o.mono e1).chg hi rfl oa1 h3 hm (.oa (mem_setO_self hm) (.lst ((RpA.one sx).app (k.mono e1))))) e1 _ (j1.chg hm rfl n1 n2)
theorem ds_popA {i : Nat} (h : ∃ a ds d, ρ[i]? = some (.oa a (.lst (ds ++ [d]))) ∧ SetTo ρ i (.oa a (.lst ds)) N) : DS K (tDrop (tBM0 K "list" rPop (tVar i))) ρ N B C Rr := fun U σ L G Dn o n b c r H j => by
  obtain ⟨a, ds, d, hi, ρ', hr, kn⟩ := h
  obtain ⟨u, h3, hm, hr0⟩ := o.oa hi
  cases hr0 with
  | @lst vs _ k =>
    obtain ⟨n1, n2, _⟩ := o.lo.nm _ hm
    subst hr
    obtain ⟨w, hw, _⟩ := k.get (i := ds.length) (d := d) (by simp)
    have hat : vs[vs.length - 1]? = some w := by rw [k.len]; simpa using hw
    have hl : vs.dropLast = vs.take ds.length := by rw [List.dropLast_eq_take, k.len]; simp
    refine ⟨_, h3, .inl ⟨rfl, vs, sq_of (j.at hm)⟩, a, vs, _, rfl, rfl, j.at hm, hat, ?_⟩
    exact n _ _ _ _ kn (o.chg hi rfl oa1 h3 hm (.oa (mem_setO_self hm) (.lst (by rw [hl]; have := k.take ds.length; simpa using this)))) (Ex.refl G) _ (j.chg hm rfl n1 n2)
theorem ds_storeA {i : Nat} {ti : TE} (h : DE K te ρ fun e => DD e fun d => ∃ a ds, ρ[i]? = some (.oa a (.lst ds)) ∧ DE K ti ρ fun y => IE y fun m => ∃ j, ixN ds.length m = some j ∧ SetTo ρ i (.oa a (.lst (ds.set j d))) N) : DS K (tAsg te (gSub (tVar i) ti rSetL)) ρ N B C Rr := fun U σ L G Dn o n b c r H j => by
  refine h U σ L G o H j _ fun w H1 G1 j1 ⟨e1, x, sx, d, ed, a, ds, hi, k2⟩ => ?_
  obtain ⟨u, h3, hm, hr0⟩ := (o.mono e1).oa hi
  cases hr0 with
  | @lst vs _ k =>
    obtain ⟨n1, n2, _⟩ := o.lo.nm _ hm
    refine ⟨_, h3, k2 U σ L G1 (o.mono e1) H1 j1 _ fun y H2 G2 j2 ⟨e2, z, sz, m, em, jj, hj, ρ', hr, kn⟩ => ?_⟩
    subst ed em hr
    cases (sz : Rp K G2 y (.int m))
    refine ⟨a, vs, m, jj, rfl, rfl, j2.at hm, by rw [k.len]; exact hj, ?_⟩
    exact n _ _ _ _ kn ((o.mono (e1.trans e2)).chg hi rfl oa1 h3 hm (.oa (mem_setO_self hm) (.lst ((k.mono e2).set (SlotV.mono sx e2) jj)))) (e1.trans e2) _ (j2.chg hm rfl n1 n2)
theorem ds_dpop1A {i : Nat} (h : ∃ a m, ρ[i]? = some (.oa a (.dm m)) ∧ DE K ty ρ fun y => KyE y fun k => (getP m k).isSome = true ∧ SetTo ρ i (.oa a (.dm (dropP m k))) N) : DS K (tDrop (tDPop1 (tVar i) ty)) ρ N B C Rr := fun U σ L G Dn o n b c r H j => by
  obtain ⟨a, m, hi, h⟩ := h
  obtain ⟨u, h3, hm, hr0⟩ := o.oa hi
  cases hr0 with
  | @dct kvs _ _ hk hn k =>
    obtain ⟨n1, n2, _⟩ := o.lo.nm _ hm
    refine ⟨_, h3, a, rfl, .inl ⟨kvs, .inl (j.at hm)⟩, h U σ L G o H j _ fun y H1 G1 j1 ⟨e1, x, sx, key, ek, hs, ρ', hr, kn⟩ => ?_⟩
    subst ek hr
    have kr : KvR K G1 kvs m := ⟨hk, k.mono e1⟩
    have kr' := kr.drop (k := key)
    have o2 := o.mono e1
    obtain ⟨v, hv⟩ : ∃ v, valV kvs key = some v := by
      rcases kr.get (k := key) with ⟨_, z⟩ | ⟨v, d, z1, _⟩
      · rw [z] at hs; cases hs
      · exact ⟨v, z1⟩
    exact ⟨kvs, key, v, j1.at hm, kD_of sx, hv, n _ _ _ _ kn (o2.chg hi rfl oa1 h3 hm (.oa (mem_setO_self hm) (.dct kr'.1 (dropP_nodup (by rw [← hk] at hn ⊢; exact hn)) kr'.2))) e1 _ (j1.chg hm rfl n1 n2)⟩
end
end Wp

set_option Elab.async false
set_option linter.all false
set_option maxRecDepth 100000
set_option maxHeartbeats 4000000
/-! Own lists lent to an expression; a walk over an own list at an address. -/
namespace Wp
section
open PySem L2 Evl StX PySem.Spec PyProof.Rows
set_option autoImplicit false
variable {K : PySem.W.Frag} {ρ ρ' : List E} {te : TE} {ts : TS} {g : TG} {N B C : List E → Prop} {R : D → Prop} {Q : E → Prop} {QN : List D → Prop}
theorem own_show {U : Vx} {σ : L2.St} {L : Ow} {G H : Hp} (o : EnvOk K U ρ σ L G) (j : J (U.hides L) H G) {i : Nat} {ds : List D} (hi : ρ[i]? = some (.own ds)) : ∃ a vs, (a, HI.ex (.lst vs)) ∈ L ∧ G a = none ∧ EnvOk K U (ρ.set i (.d (.lst ds))) σ (L.filter fun p => decide (p.1 ≠ a)) (upd G a (.lst vs)) ∧ J (U.hides (L.filter fun p => decide (p.1 ≠ a))) H (upd G a (.lst vs)) := by
  obtain ⟨v, h3, a, vs, rfl, hm, k⟩ := o.at hi rfl
  have na : G a = none := (j.msk a (.inr ⟨_, hm⟩)).1
  obtain ⟨n1, n2, _⟩ := o.lo.nm _ hm
  exact ⟨a, vs, hm, na, o.shown hi rfl own1 h3 hm na fun x => .lst upd_same (k.mono x), j.show hm n1 n2⟩
theorem de_lendO (i : Nat) {ds : List D} (hi : ρ[i]? = some (.own ds)) (hr : ρ.set i (.d (.lst ds)) = ρ') (h : DE K te ρ' fun y => ∃ x, y = .d x ∧ noK x = true ∧ Q (.d x)) : DE K te ρ Q := fun U σ L G o H j QH q => by
  obtain ⟨a, vs, hm, na, o', j'⟩ := own_show o j hi
  obtain ⟨n1, n2, n3⟩ := o.lo.nm _ hm
  subst hr
  refine h U σ _ _ o' H j' QH fun v H1 G1 j1 ⟨e1, y, sy, x, ey, nd, k2⟩ => ?_
  have g1 : G1 a = some (.lst vs) := e1 _ _ upd_same
  have j2 := (j1.own (I := .ex (.lst vs)) g1 rfl n3).same (own_back o.lo hm)
  subst ey
  exact q _ _ _ j2 ⟨woEx na ((Ex.new na).trans e1), .d x, rp_woK g1 x v nd sy, k2⟩
theorem dn_lendO (i : Nat) {ds : List D} (hi : ρ[i]? = some (.own ds)) (hr : ρ.set i (.d (.lst ds)) = ρ') (h : DN K te ρ' fun es => noKs es = true ∧ QN es) : DN K te ρ QN := fun U σ L G o H j QH q => by
  obtain ⟨a, vs, hm, na, o', j'⟩ := own_show o j hi
  obtain ⟨n1, n2, n3⟩ := o.lo.nm _ hm
  subst hr
  refine h U σ _ _ o' H j' QH fun v H1 G1 j1 ⟨p, ws, es, G0, ev, e1, np, e2, gp, k, nd, k2⟩ => ?_
  have g0 : G0 a = some (.lst vs) := e1 _ _ upd_same
  have g1 : G1 a = some (.lst vs) := e2 _ _ g0
  have j2 := (j1.own (I := .ex (.lst vs)) g1 rfl n3).same (own_back o.lo hm)
  have pa : p ≠ a := fun z => by rw [z, g0] at np; cases np
  refine q _ _ _ j2 ⟨p, ws, es, wo a G0, ev, woEx na ((Ex.new na).trans e1), ?_, fun b u e => ?_, ?_, rp_woK.all g0 es ws nd k, k2⟩
  · rw [wo_ne pa]; exact np
  · have nb : b ≠ a := fun z => by rw [z, wo_same] at e; cases e
    rw [wo_ne nb] at e ⊢; exact e2 _ _ e
  · rw [wo_ne pa]; exact gp
def flatR : D → Prop
  | .non => True
  | .bl _ => True
  | .int _ => True
  | .str _ => True
  | _ => False
theorem rp_flatR {G G' : Hp} {v : V} {d : D} (f : flatR d) (h : Rp K G v d) : Rp K G' v d := by
  cases d with
  | non => cases h; exact .non
  | bl b => cases h; exact .bl b
  | int n => cases h; exact .int n
  | str s => cases h; exact .str s
  | _ => exact f.elim
theorem de_lendM (i : Nat) {m : List (Key × D)} (hi : ρ[i]? = some (.dm m)) (hr : ρ.set i (.d (.dc m)) = ρ') (h : DE K te ρ' fun y => ∃ x, y = .d x ∧ flatR x ∧ Q (.d x)) : DE K te ρ Q := fun U σ L G o H j QH q => by
  obtain ⟨v, h3, a, vs, rfl, hm, hk, hnd, k⟩ := o.at hi rfl
  have na : G a = none := (j.msk a (.inr ⟨_, hm⟩)).1
  have e : Ex G (upd G a (.dK vs)) := Ex.new na
  obtain ⟨n1, n2, n3⟩ := o.lo.nm _ hm
  subst hr
  refine h U σ _ _ (o.shown hi rfl dic1 h3 hm na fun x => .dct (.inl upd_same) hk hnd (k.mono x)) H (j.show hm n1 n2) QH fun v H1 G1 j1 ⟨e1, y, sy, x, ey, f, k2⟩ => ?_
  have g1 : G1 a = some (.dK vs) := e1 _ _ upd_same
  have j2 := (j1.own (I := .ex (.dK vs)) g1 rfl n3).same (own_back o.lo hm)
  subst ey
  exact q _ _ _ j2 ⟨woEx na (e.trans e1), .d x, rp_flatR f sy, k2⟩
/-- for x in xs, xs an own list at an address, which the body leaves as it is -/
theorem ds_forA {i : Nat} (h : ∃ a ds, ρ[i]? = some (.oa a (.lst ds)) ∧ ∃ I : Nat → List E → Prop, Wk (I 0) ρ ∧ (∀ k ρ', I k ρ' → ρ'[i]? = some (.oa a (.lst ds))) ∧ (∀ (k : Nat) d ρ', ds[k]? = some d → I k ρ' → DG K g (.d d) ρ' fun ρ2 => DS K ts ρ2 (Wk (I (k + 1))) N (Wk (I (k + 1))) R) ∧ ∀ ρ', I ds.length ρ' → N ρ') : DS K (tFor (iSq K (tVar i)) g ts) ρ N B C R := fun U σ L G Dn o n b c r H j => by
  obtain ⟨a, ds, hi, I, ⟨ρ0, le0, h0⟩, hat, hs, hd⟩ := h
  have hl : ∀ {ρ' : List E} {σ' : L2.St} {L' : Ow} {G' H' : Hp}, ρ'[i]? = some (.oa a (.lst ds)) → EnvOk K U ρ' σ' L' G' → J (U.hides L') H' G' → ∃ vs, H' a = some (.lst vs) ∧ RpA K G' vs ds := fun hi o' j' => by
    obtain ⟨u, _, m, r⟩ := o'.oa hi
    cases r with
    | @lst vs _ k => exact ⟨vs, j'.at m, k⟩
  obtain ⟨u, h3, _, _⟩ := o.oa hi
  obtain ⟨vs, hH, k0⟩ := hl hi o j
  refine ⟨_, h3, a, rfl, .inl ⟨⟨vs, sq_of hH⟩, ?_⟩⟩
  refine ⟨fun k m σ' H' => m = ds.length - k ∧ k ≤ ds.length ∧ ∃ ρ' L' G', I k ρ' ∧ EnvOk K U ρ' σ' L' G' ∧ Ex G G' ∧ J (U.hides L') H' G', ⟨ds.length, rfl, Nat.zero_le _, ρ0, L, G, h0, o.le le0, Ex.refl _, j⟩, ?_⟩
  rintro k m σ' H' ⟨rfl, hk, ρ', L', G', p, o', e', j'⟩
  obtain ⟨vs, hH, k1⟩ := hl (hat k ρ' p) o' j'
  by_cases hlt : k < ds.length
  · have hv : vs[k]? = some (vs[k]'(by rw [k1.len]; exact hlt)) := List.getElem?_eq_getElem _
    refine .inr ⟨⟨vs, _, sq_of hH, hv⟩, fun σ H => ∃ ρ L G', I (k + 1) ρ ∧ EnvOk K U ρ σ L G' ∧ Ex G G' ∧ J (U.hides L) H G', fun σ2 H2 ⟨ρ2, L2, G2, p2, o2, e2, j2⟩ => ⟨ds.length - (k + 1), by omega, rfl, hlt, ρ2, L2, G2, p2, o2, e2, j2⟩, fun x H2 hy => ?_⟩
    obtain ⟨rfl, hx⟩ := hy
    have hx := hx vs (sq_of hH)
    obtain ⟨d, hd1, hd2⟩ := k1.at hx
    exact loop_env n r o' e' j' (e := .d d) hd2 (hs k d ρ' hd1 p)
  · obtain rfl : k = ds.length := by omega
    exact .inl ⟨⟨vs, sq_of hH, by rw [k1.len]; exact Nat.le_refl _⟩, n ρ' σ' L' G' (hd ρ' p) o' e' H' j'⟩
end
end Wp


set_option Elab.async false
set_option linter.all false
set_option maxRecDepth 100000
set_option maxHeartbeats 4000000
set_option pp.maxSteps 250
namespace Pf
open PySem PySem.Spec PyProof.Rows L2 Evl Wp StX
set_option autoImplicit false


def top (i : Nat) : Stmt := PySem.Challenge.pw_offing_k42_bodies.main.body.getD i (.Pass ⟨0, 0, 0, 0⟩)
abbrev s_Hasher___init__ : Stmt := inClass (top 11) 0
theorem sc_Hasher___init__ : FnScope ["self", "width"] ["self", "width"] (defScope s_Hasher___init__) := ⟨rfl, rfl, rfl, by decide +kernel, rfl, by decide +kernel, by decide +kernel⟩
abbrev s_Hasher_digest : Stmt := inClass (top 11) 1
theorem sc_Hasher_digest : FnScope ["self", "tag", "numbers", "mix"] ["self", "tag", "numbers"] (defScope s_Hasher_digest) := ⟨rfl, rfl, rfl, by decide +kernel, rfl, by decide +kernel, by decide +kernel⟩
abbrev s_Hasher_is_digest : Stmt := inClass (top 11) 2
theorem sc_Hasher_is_digest : FnScope ["self", "number"] ["self", "number"] (defScope s_Hasher_is_digest) := ⟨rfl, rfl, rfl, by decide +kernel, rfl, by decide +kernel, by decide +kernel⟩
abbrev s_are_digests : Stmt := top 12
theorem sc_are_digests : FnScope ["hasher", "numbers", "number"] ["hasher", "numbers"] (defScope s_are_digests) := ⟨rfl, rfl, rfl, by decide +kernel, rfl, by decide +kernel, by decide +kernel⟩
abbrev s_limbs_of : Stmt := top 13
theorem sc_limbs_of : FnScope ["numbers", "limbs", "number", "many", "place"] ["numbers"] (defScope s_limbs_of) := ⟨rfl, rfl, rfl, by decide +kernel, rfl, by decide +kernel, by decide +kernel⟩
abbrev s_mixed : Stmt := top 14
theorem sc_mixed : FnScope ["limbs", "first", "second", "limb"] ["limbs"] (defScope s_mixed) := ⟨rfl, rfl, rfl, by decide +kernel, rfl, by decide +kernel, by decide +kernel⟩
abbrev s_left_size : Stmt := top 18
theorem sc_left_size : FnScope ["size"] ["size"] (defScope s_left_size) := ⟨rfl, rfl, rfl, by decide +kernel, rfl, by decide +kernel, by decide +kernel⟩
abbrev s_list_root : Stmt := top 19
theorem sc_list_root : FnScope ["hasher", "items", "size", "left"] ["hasher", "items"] (defScope s_list_root) := ⟨rfl, rfl, rfl, by decide +kernel, rfl, by decide +kernel, by decide +kernel⟩
abbrev s_is_right : Stmt := top 24
theorem sc_is_right : FnScope ["key", "depth"] ["key", "depth"] (defScope s_is_right) := ⟨rfl, rfl, rfl, by decide +kernel, rfl, by decide +kernel, by decide +kernel⟩
abbrev s_parted : Stmt := top 25
theorem sc_parted : FnScope ["entries", "depth", "left", "right", "entry"] ["entries", "depth"] (defScope s_parted) := ⟨rfl, rfl, rfl, by decide +kernel, rfl, by decide +kernel, by decide +kernel⟩
abbrev s_is_end : Stmt := top 26
theorem sc_is_end : FnScope ["entries", "depth"] ["entries", "depth"] (defScope s_is_end) := ⟨rfl, rfl, rfl, by decide +kernel, rfl, by decide +kernel, by decide +kernel⟩
abbrev s_node_input : Stmt := top 27
theorem sc_node_input : FnScope ["hasher", "entries", "depth", "left", "right", "left_digest", "right_digest"] ["hasher", "entries", "depth"] (defScope s_node_input) := ⟨rfl, rfl, rfl, by decide +kernel, rfl, by decide +kernel, by decide +kernel⟩
abbrev s_node_digest : Stmt := top 28
theorem sc_node_digest : FnScope ["hasher", "entries", "depth", "tag", "numbers"] ["hasher", "entries", "depth"] (defScope s_node_digest) := ⟨rfl, rfl, rfl, by decide +kernel, rfl, by decide +kernel, by decide +kernel⟩
abbrev s_map_root : Stmt := top 29
theorem sc_map_root : FnScope ["hasher", "pairs"] ["hasher", "pairs"] (defScope s_map_root) := ⟨rfl, rfl, rfl, by decide +kernel, rfl, by decide +kernel, by decide +kernel⟩
abbrev s_changed_map : Stmt := top 30
theorem sc_changed_map : FnScope ["pairs", "changes", "behind", "key", "value"] ["pairs", "changes"] (defScope s_changed_map) := ⟨rfl, rfl, rfl, by decide +kernel, rfl, by decide +kernel, by decide +kernel⟩
abbrev s_Body___init__ : Stmt := inClass (top 38) 0
theorem sc_Body___init__ : FnScope ["self", "transfers", "roots"] ["self", "transfers", "roots"] (defScope s_Body___init__) := ⟨rfl, rfl, rfl, by decide +kernel, rfl, by decide +kernel, by decide +kernel⟩
abbrev s_Body___eq__ : Stmt := inClass (top 38) 1
theorem sc_Body___eq__ : FnScope ["self", "other"] ["self", "other"] (defScope s_Body___eq__) := ⟨rfl, rfl, rfl, by decide +kernel, rfl, by decide +kernel, by decide +kernel⟩
abbrev s_kept_balance : Stmt := top 39
theorem sc_kept_balance : FnScope ["balance"] ["balance"] (defScope s_kept_balance) := ⟨rfl, rfl, rfl, by decide +kernel, rfl, by decide +kernel, by decide +kernel⟩
abbrev s_sent : Stmt := top 40
theorem sc_sent : FnScope ["pairs", "transfer", "sender", "_", "amount"] ["pairs", "transfer"] (defScope s_sent) := ⟨rfl, rfl, rfl, by decide +kernel, rfl, by decide +kernel, by decide +kernel⟩
abbrev s_moved : Stmt := top 41
theorem sc_moved : FnScope ["pairs", "transfer", "_", "receiver", "amount"] ["pairs", "transfer"] (defScope s_moved) := ⟨rfl, rfl, rfl, by decide +kernel, rfl, by decide +kernel, by decide +kernel⟩
abbrev s_transfer_item : Stmt := top 42
theorem sc_transfer_item : FnScope ["hasher", "transfer"] ["hasher", "transfer"] (defScope s_transfer_item) := ⟨rfl, rfl, rfl, by decide +kernel, rfl, by decide +kernel, by decide +kernel⟩
abbrev s_items_of : Stmt := top 43
theorem sc_items_of : FnScope ["hasher", "transfers", "transfer"] ["hasher", "transfers"] (defScope s_items_of) := ⟨rfl, rfl, rfl, by decide +kernel, rfl, by decide +kernel, by decide +kernel⟩
abbrev s_made_body : Stmt := top 44
theorem sc_made_body : FnScope ["hasher", "pairs", "transfers", "behind", "roots", "transfer"] ["hasher", "pairs", "transfers"] (defScope s_made_body) := ⟨rfl, rfl, rfl, by decide +kernel, rfl, by decide +kernel, by decide +kernel⟩
abbrev s_meta_of : Stmt := top 45
theorem sc_meta_of : FnScope ["hasher", "root", "body"] ["hasher", "root", "body"] (defScope s_meta_of) := ⟨rfl, rfl, rfl, by decide +kernel, rfl, by decide +kernel, by decide +kernel⟩
abbrev s_body_fault : Stmt := top 46
theorem sc_body_fault : FnScope ["hasher", "meta", "body", "transfer", "number"] ["hasher", "meta", "body"] (defScope s_body_fault) := ⟨rfl, rfl, rfl, by decide +kernel, rfl, by decide +kernel, by decide +kernel⟩
abbrev s__law_draw : Stmt := top 48
theorem sc__law_draw : FnScope ["state", "script", "size", "cell", "mixed_v", "digit"] ["state", "script", "size"] (defScope s__law_draw) := ⟨rfl, rfl, rfl, by decide +kernel, rfl, by decide +kernel, by decide +kernel⟩
abbrev s__law_pairs : Stmt := top 49
theorem sc__law_pairs : FnScope ["state", "script", "pairs", "k"] ["state", "script"] (defScope s__law_pairs) := ⟨rfl, rfl, rfl, by decide +kernel, rfl, by decide +kernel, by decide +kernel⟩
abbrev s__law_transfer : Stmt := top 50
theorem sc__law_transfer : FnScope ["state", "script", "pairs", "keys", "sender", "receiver", "amount"] ["state", "script", "pairs"] (defScope s__law_transfer) := ⟨rfl, rfl, rfl, by decide +kernel, rfl, by decide +kernel, by decide +kernel⟩
abbrev s__law_fault : Stmt := top 51
theorem sc__law_fault : FnScope ["pairs", "transfer", "sender", "receiver", "amount"] ["pairs", "transfer"] (defScope s__law_fault) := ⟨rfl, rfl, rfl, by decide +kernel, rfl, by decide +kernel, by decide +kernel⟩
abbrev s__law_moved : Stmt := top 52
theorem sc__law_moved : FnScope ["pairs", "transfer", "sender", "receiver", "amount", "found", "key"] ["pairs", "transfer"] (defScope s__law_moved) := ⟨rfl, rfl, rfl, by decide +kernel, rfl, by decide +kernel, by decide +kernel⟩
abbrev s__law_right : Stmt := top 53
theorem sc__law_right : FnScope ["state", "script", "pairs", "most", "transfers", "k", "one"] ["state", "script", "pairs", "most"] (defScope s__law_right) := ⟨rfl, rfl, rfl, by decide +kernel, rfl, by decide +kernel, by decide +kernel⟩
abbrev s__law_due : Stmt := top 54
theorem sc__law_due : FnScope ["hasher", "meta", "transfers", "roots", "one", "root"] ["hasher", "meta", "transfers", "roots"] (defScope s__law_due) := ⟨rfl, rfl, rfl, by decide +kernel, rfl, by decide +kernel, by decide +kernel⟩
abbrev s__law_spoilt : Stmt := top 55
theorem sc__law_spoilt : FnScope ["state", "script", "hasher", "meta", "transfers", "roots", "kind", "at"] ["state", "script", "hasher", "meta", "transfers", "roots"] (defScope s__law_spoilt) := ⟨rfl, rfl, rfl, by decide +kernel, rfl, by decide +kernel, by decide +kernel⟩
abbrev s_law : Stmt := top 56
theorem sc_law : FnScope ["script", "state", "hasher", "pairs", "transfers", "behind", "body", "roots", "one", "items", "meta", "other"] ["script"] (defScope s_law) := ⟨rfl, rfl, rfl, by decide +kernel, rfl, by decide +kernel, by decide +kernel⟩
structure Txt (K : PySem.W.Frag) (mg : Str → Option Value) where
  fd_Hasher___init__ : FuncData
  Hasher___init__ : MDef K mg "__init__" "Hasher.__init__" s_Hasher___init__ ["self", "width"] (He.fAd K ("Hasher", some "__init__")) fd_Hasher___init__
  fd_Hasher_digest : FuncData
  Hasher_digest : MDef K mg "digest" "Hasher.digest" s_Hasher_digest ["self", "tag", "numbers"] (He.fAd K ("Hasher", some "digest")) fd_Hasher_digest
  fd_Hasher_is_digest : FuncData
  Hasher_is_digest : MDef K mg "is_digest" "Hasher.is_digest" s_Hasher_is_digest ["self", "number"] (He.fAd K ("Hasher", some "is_digest")) fd_Hasher_is_digest
  fd_are_digests : FuncData
  are_digests : Def K mg "are_digests" "are_digests" s_are_digests ["hasher", "numbers"] (He.fAd K ("are_digests", none)) fd_are_digests
  fd_limbs_of : FuncData
  limbs_of : Def K mg "limbs_of" "limbs_of" s_limbs_of ["numbers"] (He.fAd K ("limbs_of", none)) fd_limbs_of
  fd_mixed : FuncData
  mixed : Def K mg "mixed" "mixed" s_mixed ["limbs"] (He.fAd K ("mixed", none)) fd_mixed
  fd_left_size : FuncData
  left_size : Def K mg "left_size" "left_size" s_left_size ["size"] (He.fAd K ("left_size", none)) fd_left_size
  fd_list_root : FuncData
  list_root : Def K mg "list_root" "list_root" s_list_root ["hasher", "items"] (He.fAd K ("list_root", none)) fd_list_root
  fd_is_right : FuncData
  is_right : Def K mg "is_right" "is_right" s_is_right ["key", "depth"] (He.fAd K ("is_right", none)) fd_is_right
  fd_parted : FuncData
  parted : Def K mg "parted" "parted" s_parted ["entries", "depth"] (He.fAd K ("parted", none)) fd_parted
  fd_is_end : FuncData
  is_end : Def K mg "is_end" "is_end" s_is_end ["entries", "depth"] (He.fAd K ("is_end", none)) fd_is_end
  fd_node_input : FuncData
  node_input : Def K mg "node_input" "node_input" s_node_input ["hasher", "entries", "depth"] (He.fAd K ("node_input", none)) fd_node_input
  fd_node_digest : FuncData
  node_digest : Def K mg "node_digest" "node_digest" s_node_digest ["hasher", "entries", "depth"] (He.fAd K ("node_digest", none)) fd_node_digest
  fd_map_root : FuncData
  map_root : Def K mg "map_root" "map_root" s_map_root ["hasher", "pairs"] (He.fAd K ("map_root", none)) fd_map_root
  fd_changed_map : FuncData
  changed_map : Def K mg "changed_map" "changed_map" s_changed_map ["pairs", "changes"] (He.fAd K ("changed_map", none)) fd_changed_map
  fd_Body___init__ : FuncData
  Body___init__ : MDef K mg "__init__" "Body.__init__" s_Body___init__ ["self", "transfers", "roots"] (He.fAd K ("Body", some "__init__")) fd_Body___init__
  fd_Body___eq__ : FuncData
  Body___eq__ : MDef K mg "__eq__" "Body.__eq__" s_Body___eq__ ["self", "other"] (He.fAd K ("Body", some "__eq__")) fd_Body___eq__
  fd_kept_balance : FuncData
  kept_balance : Def K mg "kept_balance" "kept_balance" s_kept_balance ["balance"] (He.fAd K ("kept_balance", none)) fd_kept_balance
  fd_sent : FuncData
  sent : Def K mg "sent" "sent" s_sent ["pairs", "transfer"] (He.fAd K ("sent", none)) fd_sent
  fd_moved : FuncData
  moved : Def K mg "moved" "moved" s_moved ["pairs", "transfer"] (He.fAd K ("moved", none)) fd_moved
  fd_transfer_item : FuncData
  transfer_item : Def K mg "transfer_item" "transfer_item" s_transfer_item ["hasher", "transfer"] (He.fAd K ("transfer_item", none)) fd_transfer_item
  fd_items_of : FuncData
  items_of : Def K mg "items_of" "items_of" s_items_of ["hasher", "transfers"] (He.fAd K ("items_of", none)) fd_items_of
  fd_made_body : FuncData
  made_body : Def K mg "made_body" "made_body" s_made_body ["hasher", "pairs", "transfers"] (He.fAd K ("made_body", none)) fd_made_body
  fd_meta_of : FuncData
  meta_of : Def K mg "meta_of" "meta_of" s_meta_of ["hasher", "root", "body"] (He.fAd K ("meta_of", none)) fd_meta_of
  fd_body_fault : FuncData
  body_fault : Def K mg "body_fault" "body_fault" s_body_fault ["hasher", "meta", "body"] (He.fAd K ("body_fault", none)) fd_body_fault
  fd__law_draw : FuncData
  _law_draw : Def K mg "_law_draw" "_law_draw" s__law_draw ["state", "script", "size"] (He.fAd K ("_law_draw", none)) fd__law_draw
  fd__law_pairs : FuncData
  _law_pairs : Def K mg "_law_pairs" "_law_pairs" s__law_pairs ["state", "script"] (He.fAd K ("_law_pairs", none)) fd__law_pairs
  fd__law_transfer : FuncData
  _law_transfer : Def K mg "_law_transfer" "_law_transfer" s__law_transfer ["state", "script", "pairs"] (He.fAd K ("_law_transfer", none)) fd__law_transfer
  fd__law_fault : FuncData
  _law_fault : Def K mg "_law_fault" "_law_fault" s__law_fault ["pairs", "transfer"] (He.fAd K ("_law_fault", none)) fd__law_fault
  fd__law_moved : FuncData
  _law_moved : Def K mg "_law_moved" "_law_moved" s__law_moved ["pairs", "transfer"] (He.fAd K ("_law_moved", none)) fd__law_moved
  fd__law_right : FuncData
  _law_right : Def K mg "_law_right" "_law_right" s__law_right ["state", "script", "pairs", "most"] (He.fAd K ("_law_right", none)) fd__law_right
  fd__law_due : FuncData
  _law_due : Def K mg "_law_due" "_law_due" s__law_due ["hasher", "meta", "transfers", "roots"] (He.fAd K ("_law_due", none)) fd__law_due
  fd__law_spoilt : FuncData
  _law_spoilt : Def K mg "_law_spoilt" "_law_spoilt" s__law_spoilt ["state", "script", "hasher", "meta", "transfers", "roots"] (He.fAd K ("_law_spoilt", none)) fd__law_spoilt
  fd_law : FuncData
  law : Def K mg "law" "law" s_law ["script"] (He.fAd K ("law", none)) fd_law
  cl_Body : Cls K (He.ga K "Body")
  g_Body : mg "Body" = some (.ref (He.ga K "Body"))
  cl_Hasher : Cls K (He.ga K "Hasher")
  g_Hasher : mg "Hasher" = some (.ref (He.ga K "Hasher"))
  z_all : mg "all" = none
  z_any : mg "any" = none
  z_dict : mg "dict" = none
  z_int : mg "int" = none
  z_isinstance : mg "isinstance" = none
  z_len : mg "len" = none
  z_list : mg "list" = none
  z_max : mg "max" = none
  z_range : mg "range" = none
  z_sorted : mg "sorted" = none
  z_tuple : mg "tuple" = none
  c_ACCOUNTS_KEY : ∃ t, mg "ACCOUNTS_KEY" = some (.int 1 t)
  c_COUNT_KEY : ∃ t, mg "COUNT_KEY" = some (.int 3 t)
  c_FIRST_FACTOR : ∃ t, mg "FIRST_FACTOR" = some (.int 15241578750190521011 t)
  c_FIRST_SHIFT : ∃ t, mg "FIRST_SHIFT" = some (.int 31 t)
  c_FIRST_START : ∃ t, mg "FIRST_START" = some (.int 7263541890216354987 t)
  c_ITEMS_KEY : ∃ t, mg "ITEMS_KEY" = some (.int 2 t)
  c_KEY_BITS : ∃ t, mg "KEY_BITS" = some (.int 32 t)
  c_LEAF_TAG_lists : ∃ t, mg "LEAF_TAG_lists" = some (.int 0 t)
  c_LEAF_TAG_maps : ∃ t, mg "LEAF_TAG_maps" = some (.int 2 t)
  c_LIMB_BITS : ∃ t, mg "LIMB_BITS" = some (.int 32 t)
  c_LIMB_MASK : ∃ t, mg "LIMB_MASK" = some (.int 4294967295 t)
  c_MIX_BITS : ∃ t, mg "MIX_BITS" = some (.int 128 t)
  c_NODE_TAG_lists : ∃ t, mg "NODE_TAG_lists" = some (.int 1 t)
  c_NODE_TAG_maps : ∃ t, mg "NODE_TAG_maps" = some (.int 3 t)
  c_ROOTS_KEY : ∃ t, mg "ROOTS_KEY" = some (.int 4 t)
  c_SECOND_FACTOR : ∃ t, mg "SECOND_FACTOR" = some (.int 9764318250173649287 t)
  c_SECOND_SHIFT : ∃ t, mg "SECOND_SHIFT" = some (.int 29 t)
  c_SECOND_START : ∃ t, mg "SECOND_START" = some (.int 12985647301928374651 t)
  c_TRANSFER_TAG : ∃ t, mg "TRANSFER_TAG" = some (.int 12 t)
  c_WORD_MASK : ∃ t, mg "WORD_MASK" = some (.int 18446744073709551615 t)
  me_Body___eq__ : Meth K (He.ga K "Body") "__eq__" (He.fAd K ("Body", some "__eq__"))
  me_Hasher_digest : Meth K (He.ga K "Hasher") "digest" (He.fAd K ("Hasher", some "digest"))
  me_Hasher_is_digest : Meth K (He.ga K "Hasher") "is_digest" (He.fAd K ("Hasher", some "is_digest"))
  mk_Body : Mk K (He.ga K "Body") (He.fAd K ("Body", some "__init__"))
  mk_Hasher : Mk K (He.ga K "Hasher") (He.fAd K ("Hasher", some "__init__"))
  g_META_KEYS : mg "META_KEYS" = some (.ref (He.ga K "META_KEYS"))
  eq_Body : EqC K (He.ga K "Body")
  t_META_KEYS : ∀ H : Hp, SqT K H (He.ga K "META_KEYS") (List.map V.int [1, 2, 3, 4])
  n_Body_roots : NoAttr K (He.ga K "Body") "roots"
  n_Body_transfers : NoAttr K (He.ga K "Body") "transfers"
  n_Hasher_width : NoAttr K (He.ga K "Hasher") "width"
def dd_Hasher___init__ : He.DefD := ⟨("Hasher", some "__init__"), "__init__", "Hasher.__init__", defArgs s_Hasher___init__, defBody s_Hasher___init__, defScope s_Hasher___init__, [], []⟩
def dd_Hasher_digest : He.DefD := ⟨("Hasher", some "digest"), "digest", "Hasher.digest", defArgs s_Hasher_digest, defBody s_Hasher_digest, defScope s_Hasher_digest, [], []⟩
def dd_Hasher_is_digest : He.DefD := ⟨("Hasher", some "is_digest"), "is_digest", "Hasher.is_digest", defArgs s_Hasher_is_digest, defBody s_Hasher_is_digest, defScope s_Hasher_is_digest, [], []⟩
def dd_are_digests : He.DefD := ⟨("are_digests", none), "are_digests", "are_digests", defArgs s_are_digests, defBody s_are_digests, defScope s_are_digests, [], []⟩
def dd_limbs_of : He.DefD := ⟨("limbs_of", none), "limbs_of", "limbs_of", defArgs s_limbs_of, defBody s_limbs_of, defScope s_limbs_of, [], []⟩
def dd_mixed : He.DefD := ⟨("mixed", none), "mixed", "mixed", defArgs s_mixed, defBody s_mixed, defScope s_mixed, [], []⟩
def dd_left_size : He.DefD := ⟨("left_size", none), "left_size", "left_size", defArgs s_left_size, defBody s_left_size, defScope s_left_size, [], []⟩
def dd_list_root : He.DefD := ⟨("list_root", none), "list_root", "list_root", defArgs s_list_root, defBody s_list_root, defScope s_list_root, [], []⟩
def dd_is_right : He.DefD := ⟨("is_right", none), "is_right", "is_right", defArgs s_is_right, defBody s_is_right, defScope s_is_right, [], []⟩
def dd_parted : He.DefD := ⟨("parted", none), "parted", "parted", defArgs s_parted, defBody s_parted, defScope s_parted, [], []⟩
def dd_is_end : He.DefD := ⟨("is_end", none), "is_end", "is_end", defArgs s_is_end, defBody s_is_end, defScope s_is_end, [], []⟩
def dd_node_input : He.DefD := ⟨("node_input", none), "node_input", "node_input", defArgs s_node_input, defBody s_node_input, defScope s_node_input, [], []⟩
def dd_node_digest : He.DefD := ⟨("node_digest", none), "node_digest", "node_digest", defArgs s_node_digest, defBody s_node_digest, defScope s_node_digest, [], []⟩
def dd_map_root : He.DefD := ⟨("map_root", none), "map_root", "map_root", defArgs s_map_root, defBody s_map_root, defScope s_map_root, [], []⟩
def dd_changed_map : He.DefD := ⟨("changed_map", none), "changed_map", "changed_map", defArgs s_changed_map, defBody s_changed_map, defScope s_changed_map, [], []⟩
def dd_Body___init__ : He.DefD := ⟨("Body", some "__init__"), "__init__", "Body.__init__", defArgs s_Body___init__, defBody s_Body___init__, defScope s_Body___init__, [], []⟩
def dd_Body___eq__ : He.DefD := ⟨("Body", some "__eq__"), "__eq__", "Body.__eq__", defArgs s_Body___eq__, defBody s_Body___eq__, defScope s_Body___eq__, [], []⟩
def dd_kept_balance : He.DefD := ⟨("kept_balance", none), "kept_balance", "kept_balance", defArgs s_kept_balance, defBody s_kept_balance, defScope s_kept_balance, [], []⟩
def dd_sent : He.DefD := ⟨("sent", none), "sent", "sent", defArgs s_sent, defBody s_sent, defScope s_sent, [], []⟩
def dd_moved : He.DefD := ⟨("moved", none), "moved", "moved", defArgs s_moved, defBody s_moved, defScope s_moved, [], []⟩
def dd_transfer_item : He.DefD := ⟨("transfer_item", none), "transfer_item", "transfer_item", defArgs s_transfer_item, defBody s_transfer_item, defScope s_transfer_item, [], []⟩
def dd_items_of : He.DefD := ⟨("items_of", none), "items_of", "items_of", defArgs s_items_of, defBody s_items_of, defScope s_items_of, [], []⟩
def dd_made_body : He.DefD := ⟨("made_body", none), "made_body", "made_body", defArgs s_made_body, defBody s_made_body, defScope s_made_body, [], []⟩
def dd_meta_of : He.DefD := ⟨("meta_of", none), "meta_of", "meta_of", defArgs s_meta_of, defBody s_meta_of, defScope s_meta_of, [], []⟩
def dd_body_fault : He.DefD := ⟨("body_fault", none), "body_fault", "body_fault", defArgs s_body_fault, defBody s_body_fault, defScope s_body_fault, [], []⟩
def dd__law_draw : He.DefD := ⟨("_law_draw", none), "_law_draw", "_law_draw", defArgs s__law_draw, defBody s__law_draw, defScope s__law_draw, [], []⟩
def dd__law_pairs : He.DefD := ⟨("_law_pairs", none), "_law_pairs", "_law_pairs", defArgs s__law_pairs, defBody s__law_pairs, defScope s__law_pairs, [], []⟩
def dd__law_transfer : He.DefD := ⟨("_law_transfer", none), "_law_transfer", "_law_transfer", defArgs s__law_transfer, defBody s__law_transfer, defScope s__law_transfer, [], []⟩
def dd__law_fault : He.DefD := ⟨("_law_fault", none), "_law_fault", "_law_fault", defArgs s__law_fault, defBody s__law_fault, defScope s__law_fault, [], []⟩
def dd__law_moved : He.DefD := ⟨("_law_moved", none), "_law_moved", "_law_moved", defArgs s__law_moved, defBody s__law_moved, defScope s__law_moved, [], []⟩
def dd__law_right : He.DefD := ⟨("_law_right", none), "_law_right", "_law_right", defArgs s__law_right, defBody s__law_right, defScope s__law_right, [], []⟩
def dd__law_due : He.DefD := ⟨("_law_due", none), "_law_due", "_law_due", defArgs s__law_due, defBody s__law_due, defScope s__law_due, [], []⟩
def dd__law_spoilt : He.DefD := ⟨("_law_spoilt", none), "_law_spoilt", "_law_spoilt", defArgs s__law_spoilt, defBody s__law_spoilt, defScope s__law_spoilt, [], []⟩
def dd_law : He.DefD := ⟨("law", none), "law", "law", defArgs s_law, defBody s_law, defScope s_law, [], []⟩
def fn : List He.DefD := [dd_Hasher___init__, dd_Hasher_digest, dd_Hasher_is_digest, dd_are_digests, dd_limbs_of, dd_mixed, dd_left_size, dd_list_root, dd_is_right, dd_parted, dd_is_end, dd_node_input, dd_node_digest, dd_map_root, dd_changed_map, dd_Body___init__, dd_Body___eq__, dd_kept_balance, dd_sent, dd_moved, dd_transfer_item, dd_items_of, dd_made_body, dd_meta_of, dd_body_fault, dd__law_draw, dd__law_pairs, dd__law_transfer, dd__law_fault, dd__law_moved, dd__law_right, dd__law_due, dd__law_spoilt, dd_law]
def fa : List He.Fa := [.glo "are_digests", .glo "limbs_of", .glo "mixed", .glo "left_size", .glo "list_root", .glo "is_right", .glo "parted", .glo "is_end", .glo "node_input", .glo "node_digest", .glo "map_root", .glo "changed_map", .glo "kept_balance", .glo "sent", .glo "moved", .glo "transfer_item", .glo "items_of", .glo "made_body", .glo "meta_of", .glo "body_fault", .glo "_law_draw", .glo "_law_pairs", .glo "_law_transfer", .glo "_law_fault", .glo "_law_moved", .glo "_law_right", .glo "_law_due", .glo "_law_spoilt", .glo "law", .cls "Body", .glo "Body", .cls "Hasher", .glo "Hasher", .free "all", .free "any", .free "dict", .free "int", .free "isinstance", .free "len", .free "list", .free "max", .free "range", .free "sorted", .free "tuple", .int "ACCOUNTS_KEY" 1, .int "COUNT_KEY" 3, .int "FIRST_FACTOR" 15241578750190521011, .int "FIRST_SHIFT" 31, .int "FIRST_START" 7263541890216354987, .int "ITEMS_KEY" 2, .int "KEY_BITS" 32, .int "LEAF_TAG_lists" 0, .int "LEAF_TAG_maps" 2, .int "LIMB_BITS" 32, .int "LIMB_MASK" 4294967295, .int "MIX_BITS" 128, .int "NODE_TAG_lists" 1, .int "NODE_TAG_maps" 3, .int "ROOTS_KEY" 4, .int "SECOND_FACTOR" 9764318250173649287, .int "SECOND_SHIFT" 29, .int "SECOND_START" 12985647301928374651, .int "TRANSFER_TAG" 12, .int "WORD_MASK" 18446744073709551615, .meth "Body" "__eq__", .meth "Hasher" "digest", .meth "Hasher" "is_digest", .mkr "Body", .mkr "Hasher", .glo "META_KEYS", .noat "Body" "roots", .noat "Body" "transfers", .noat "Hasher" "width"]
abbrev R : PySem.W.OpenRow := PySem.W.OpenLaw.row PySem.Challenge.rw_offing_k42_bodies
def exK (K : PySem.W.Frag) : Bool := L2.eqcB K (He.ga K "Body") && (L2.tupB K (He.ga K "META_KEYS") [1, 2, 3, 4])
abbrev hk : PySem.W.Hook := hookE 5 fa fn exK
def ob (s : PySem.W.SharedT) : AlE := obsE 5 fa fn exK (HandSHeadRun.getT s)
theorem ob_eq (s : PySem.W.SharedT) : ob s = hk.obs s.abs := obsE_eq (HandSHeadRun.getT_eq s)
theorem run (w : World) : HandSHeadRun.RunEq R (PySem.W.view R.prog [56]) hk ob 4000 ("LIMB_BITS" :: "LIMB_MASK" :: "WORD_MASK" :: "MIX_BITS" :: "FIRST_START" :: "SECOND_START" :: "FIRST_FACTOR" :: "SECOND_FACTOR" :: "FIRST_SHIFT" :: "SECOND_SHIFT" :: "Hasher" :: "are_digests" :: "limbs_of" :: "mixed" :: "LEAF_TAG_lists" :: "NODE_TAG_lists" :: "left_size" :: "list_root" :: "LEAF_TAG_maps" :: "NODE_TAG_maps" :: "KEY_BITS" :: "is_right" :: "parted" :: "is_end" :: "node_input" :: "node_digest" :: "map_root" :: "changed_map" :: "TRANSFER_TAG" :: "ACCOUNTS_KEY" :: "ITEMS_KEY" :: "COUNT_KEY" :: "ROOTS_KEY" :: "META_KEYS" :: "Body" :: "kept_balance" :: "sent" :: "moved" :: "transfer_item" :: "items_of" :: "made_body" :: "meta_of" :: "body_fault" :: "_law_draw" :: "_law_pairs" :: "_law_transfer" :: "_law_fault" :: "_law_moved" :: "_law_right" :: "_law_due" :: "_law_spoilt" :: []) w := by
  intro os
  kernel_rfl
def StartsT (spl : PySem.W.Frag → Sp) : Prop := ∀ (K : PySem.W.Frag) (H : Hp) (a : Addr) (ns : List Int), ns.length ≤ 63 → SqL K H a (ns.map V.int) → spl K [.ref a] H (fun v _ => v = .bl true) fun _ _ _ => False
def FactsT (spl : PySem.W.Frag → Sp) : Prop := ∀ (P : Program) (w : World) (K : PySem.W.Frag) (h : Heap) (mg : Str → Option Value) (f : Addr), K.In h → h.Ns mainGlobals mg → mg ("law" : Str) = some (.ref f) → SaysE fa fn exK K → ∃ fd : FuncData, (∀ (s : Shared) (v : Value), BindsTo s fd ⟨[v], []⟩ [("script", v)]) ∧ ∀ base : Heap, K.In base → base.Ns mainGlobals mg → FnOk P w K mg base CX0 101 f fd ["script"] (spl K)
end Pf
section
open PySem PySem.W PySem.Calls PyProof.Rows
set_option maxRecDepth 100000 in
set_option maxHeartbeats 0 in
theorem Pf.early (spl : PySem.W.Frag → L2.Sp) (hst : Pf.StartsT spl) (hft : Pf.FactsT spl) : PySem.Challenge.rw_offing_k42_bodies.Holds := by
  w_on; o_law
  refine HandSHeadRun.head_any (r := OpenLaw.row PySem.Challenge.rw_offing_k42_bodies) (q := view (OpenLaw.row PySem.Challenge.rw_offing_k42_bodies).prog [56]) (H := Pf.hk) (ob := Pf.ob) (M := 4000) (loose := ("LIMB_BITS" :: "LIMB_MASK" :: "WORD_MASK" :: "MIX_BITS" :: "FIRST_START" :: "SECOND_START" :: "FIRST_FACTOR" :: "SECOND_FACTOR" :: "FIRST_SHIFT" :: "SECOND_SHIFT" :: "Hasher" :: "are_digests" :: "limbs_of" :: "mixed" :: "LEAF_TAG_lists" :: "NODE_TAG_lists" :: "left_size" :: "list_root" :: "LEAF_TAG_maps" :: "NODE_TAG_maps" :: "KEY_BITS" :: "is_right" :: "parted" :: "is_end" :: "node_input" :: "node_digest" :: "map_root" :: "changed_map" :: "TRANSFER_TAG" :: "ACCOUNTS_KEY" :: "ITEMS_KEY" :: "COUNT_KEY" :: "ROOTS_KEY" :: "META_KEYS" :: "Body" :: "kept_balance" :: "sent" :: "moved" :: "transfer_item" :: "items_of" :: "made_body" :: "meta_of" :: "body_fault" :: "_law_draw" :: "_law_pairs" :: "_law_transfer" :: "_law_fault" :: "_law_moved" :: "_law_right" :: "_law_due" :: "_law_spoilt" :: [])) (d := HandSHeadRun.topDef (OpenLaw.row PySem.Challenge.rw_offing_k42_bodies).prog 56) (kwd := []) Pf.ob_eq
    (by kernel_rfl) (fun s => by kernel_rfl) Pf.run (by kernel_rfl) (by kernel_rfl) (by kernel_rfl) (by rfl) (by first | assumption | decide +kernel) (by decide +kernel) ⟨rfl, rfl, rfl, rfl, rfl, by decide +kernel⟩ ?hw ?hc
  case hw => w_witness2
  case hc =>
    refine L2.walk_ofE (l := PySem.Challenge.rw_offing_k42_bodies) (n := 63) (k := 101) (x := "script") (CX := L2.CX0) rfl (by decide) (by kernel_rfl) ⟨rfl, by decide, by decide⟩ ?F (fun _ _ _ _ z => z)
    intro w mg fa h Y G hmg0
    obtain ⟨K, KX, c⟩ := Y
    have hmg : mg ("law" : PySem.Str) = some (.ref fa) := by
      have e : (HandSHeadRun.topDef (OpenLaw.row PySem.Challenge.rw_offing_k42_bodies).prog 56).name = ("law" : PySem.Str) := by kernel_rfl
      rw [← e]
      exact hmg0
    obtain ⟨fd, hb, hF⟩ := hft (PySem.Challenge.rw_offing_k42_bodies).prog w K h mg fa KX G hmg c
    exact ⟨K, fd, spl K, KX, hb, fun H a ns hl _ hS => hst K H a ns hl hS, hF⟩
end
namespace Pf
open PySem PySem.Spec PyProof.Rows L2 Evl Wp StX
set_option autoImplicit false
local macro_rules | `(tactic| walk_at "c") => `(tactic| first | assumption | exact ⟨by assumption, by assumption⟩ | omega | decide | exact .inr ⟨by omega, by omega⟩ | exact .inl ⟨by omega, by omega⟩ | exact ⟨by omega, by omega⟩ | exact ⟨by decide, by decide⟩ | exact ⟨by omega, by decide, by decide⟩)
local macro_rules | `(tactic| walk_at "sq") => `(tactic| first | assumption | exact sq_of (by assumption) | (refine' ex_l ?exh ?sqh; (case exh => assumption); (case sqh => walk_at "sq")))
local macro_rules | `(tactic| walk_at "st") => `(tactic| first | assumption | exact st_of (by assumption) | (refine' ex_t ?exh ?sqh; (case exh => assumption); (case sqh => walk_at "st")))
local macro_rules | `(tactic| walk_at "go1") => `(tactic| first
  | with_reducible refine iteT ?_
  | with_reducible refine iteF ?_
  | with_reducible refine ifNT ?_
  | with_reducible refine ifNF ?_
  | with_reducible refine sm_seq ?_
  | with_reducible refine sm_asg ?_
  | with_reducible refine gm_name ?_
  | with_reducible refine km_next ?_
  | with_reducible refine kv_rt ?_
  | with_reducible refine sm_if ?_
  | with_reducible refine sm_ret ?_
  | with_reducible refine sm_drop ?_
  | with_reducible refine sm_fld ?_
  | with_reducible refine tm_test ?_
  | with_reducible refine tm_B ?_
  | with_reducible refine tm_and ?_
  | with_reducible refine tm_or ?_
  | with_reducible refine tm_not ?_
  | with_reducible refine tm_yes ?_
  | ((with_reducible refine em_here ?_); refine ⟨_, rfl, ?_⟩)
  | with_reducible refine em_c ?_
  | with_reducible refine em_op ?_
  | with_reducible refine em_un ?_
  | with_reducible refine em_chain ?_
  | with_reducible refine rm_I0 ?_
  | ((with_reducible refine rm_I ?cch ?_); (case cch => walk_at "c"))
  | with_reducible refine rm_U ?_
  | with_reducible refine rm_eqI ?_
  | with_reducible refine rm_neI ?_
  | with_reducible refine bv ?_
  | with_reducible refine iv ?_
  | with_reducible refine am_nil ?_
  | with_reducible refine am_cons ?_
  | with_reducible refine em_cb ?_
  | with_reducible refine em_call ?_
  | with_reducible refine em_fld ?_
  | with_reducible refine em_meth ?_
  | with_reducible refine em_andV ?_
  | with_reducible refine em_orV ?_
  | with_reducible refine em_notV ?_
  | with_reducible refine em_if ?_
  | ((with_reducible refine em_bits ?_))
  | with_reducible refine rm_int ?_
  | with_reducible refine rm_max ?_
  | with_reducible refine rm_min ?_
  | ((with_reducible refine' rm_lenL ?sqh ?_); (case sqh => walk_at "sq"))
  | with_reducible refine gm_subL ?_
  | with_reducible refine gs_cons ?_
  | with_reducible refine gs_nil ?_
  | with_reducible refine rm_isN_ref ?_
  | with_reducible refine rm_isN_non ?_
  | with_reducible refine rm_isN_int ?_
  | with_reducible refine rm_notN_ref ?_
  | with_reducible refine rm_notN_non ?_
  | with_reducible refine rm_notN_int ?_
  | with_reducible refine rm_eqS ?_
  | with_reducible refine rm_neS ?_
  | with_reducible refine rm_eqB ?_
  | with_reducible refine rm_neB ?_
  | with_reducible refine em_sl ?_
  | with_reducible refine om_none ?_
  | with_reducible refine om_some ?_
  | with_reducible refine rm_isB ?_
  | with_reducible refine rm_notB ?_)
local macro_rules | `(tactic| walk_at "go") => `(tactic| repeat walk_at "go1")

section
variable {P : Program} {w : World} {K : PySem.W.Frag} {mg : Str → Option Value} {base : Heap}
theorem hu_of {k : Nat} {A : Around} (hr : Room k A) : A.units + 1 < cLine := by have := hr.units; omega
/-! ### digests -/
def M64 : Int := 2 ^ 64 - 1
def stp (s : Int × Int) (l : Int) : Int × Int :=
  let f1 := Builtin.bitAnd (Builtin.bitXor s.1 l * 15241578750190521011) 18446744073709551615
  let f2 := Builtin.bitXor f1 (f1 / 2 ^ (31 : Int).toNat)
  let s1 := Builtin.bitAnd ((f2 + s.2) * 9764318250173649287) 18446744073709551615
  let s2 := Builtin.bitXor s1 (s1 / 2 ^ (29 : Int).toNat)
  (Builtin.bitAnd (f2 + s2) 18446744073709551615, s2)
def st0 : Int × Int := (7263541890216354987, 12985647301928374651)
def mixN (ls : List Int) : Int × Int := ls.foldl stp st0
def many (n : Int) : Nat := (Builtin.Int.intBits n + 31) / 32
def limb (n : Int) (p : Nat) : Int := Builtin.bitAnd (n / 2 ^ (p * 32)) 4294967295
def limbs1 (n : Int) : List Int := (many n : Int) :: (List.range (many n)).map (limb n)
def limbsN (ns : List Int) : List Int := ns.flatMap limbs1
def limbs (ns : List Int) : List Int := (ns.length : Int) :: limbsN ns
def dgst (w tag : Int) (ns : List Int) : Int := let m := mixN (tag :: limbs ns ++ [w, w]); (m.1 * 2 ^ 64 + m.2) / 2 ^ (128 - w).toNat
def U64 (x : Int) : Prop := 0 ≤ x ∧ x < 18446744073709551616
theorem and64 (x : Int) : Builtin.bitAnd x 18446744073709551615 = x % 18446744073709551616 := PySem.W.kbt_mask x 64
theorem and64_U (x : Int) : U64 (Builtin.bitAnd x 18446744073709551615) := by
  rw [and64]
  exact ⟨Int.emod_nonneg _ (by decide), Int.emod_lt_of_pos _ (by decide)⟩
theorem xorshr_U {x : Int} (h : U64 x) (k : Nat) : U64 (Builtin.bitXor x (x / 2 ^ k)) := by
  obtain ⟨a, rfl⟩ := Int.eq_ofNat_of_zero_le h.1
  have e : (a : Int) / 2 ^ k = ((a / 2 ^ k : Nat) : Int) := by rw [Int.natCast_ediv, PySem.W.kbt_cast]
  rw [e, Bits.bitXor_pp (Int.natCast_nonneg _) (Int.natCast_nonneg _), Int.toNat_natCast, Int.toNat_natCast]
  have ha : a < 2 ^ 64 := by have := h.2; omega
  have hb : a / 2 ^ k < 2 ^ 64 := Nat.lt_of_le_of_lt (Nat.div_le_self _ _) ha
  have := Nat.xor_lt_two_pow ha hb
  exact ⟨Int.natCast_nonneg _, by omega⟩
theorem stp_U (s : Int × Int) (l : Int) : U64 (stp s l).1 ∧ U64 (stp s l).2 := ⟨and64_U _, xorshr_U (and64_U _) _⟩
theorem fold_U : ∀ (ls : List Int) (s : Int × Int), U64 s.1 → U64 s.2 → U64 (ls.foldl stp s).1 ∧ U64 (ls.foldl stp s).2
  | [], s, h1, h2 => ⟨h1, h2⟩
  | l :: ls, s, _, _ => fold_U ls (stp s l) (stp_U s l).1 (stp_U s l).2
theorem st0_U : U64 st0.1 ∧ U64 st0.2 := ⟨⟨by decide, by decide⟩, ⟨by decide, by decide⟩⟩
theorem mix_U (ls : List Int) : U64 (mixN ls).1 ∧ U64 (mixN ls).2 := fold_U ls st0 st0_U.1 st0_U.2
theorem natAbs_U {x : Int} (h : U64 x) : x.natAbs < 2 ^ 64 := by obtain ⟨h1, h2⟩ := h; omega
theorem dgst_rng {w : Int} (h4 : 4 ≤ w) (h : w ≤ 128) (tag : Int) (ns : List Int) : 0 ≤ dgst w tag ns ∧ dgst w tag ns < 2 ^ w.toNat := by
  unfold dgst
  obtain ⟨⟨a0, a1⟩, ⟨b0, b1⟩⟩ := mix_U (tag :: limbs ns ++ [w, w])
  generalize mixN (tag :: limbs ns ++ [w, w]) = m at a0 a1 b0 b1 ⊢
  show 0 ≤ (m.1 * 2 ^ 64 + m.2) / 2 ^ (128 - w).toNat ∧ (m.1 * 2 ^ 64 + m.2) / 2 ^ (128 - w).toNat < 2 ^ w.toNat
  have hp : (0 : Int) < 2 ^ (128 - w).toNat := PySem.W.kbt_pos _
  refine ⟨Int.ediv_nonneg (by omega) (Int.le_of_lt hp), Int.ediv_lt_of_lt_mul hp ?_⟩
  rw [← Int.pow_add, show w.toNat + (128 - w).toNat = 128 by omega]
  omega
theorem limbs_snoc (ns : List Int) (n : Int) : limbsN (ns ++ [n]) = limbsN ns ++ limbs1 n := by
  unfold limbsN
  rw [List.flatMap_append]
  simp
def HsAt (C : Addr) (G : Hp) (h : Addr) (w : Int) : Prop := ∃ dx, G h = some (.ins C dx [("width", V.int w)])
theorem ex_h {C : Addr} {G G' : Hp} {h : Addr} {w : Int} (e : Ex G G') : HsAt C G h w → HsAt C G' h w := fun ⟨dx, g⟩ => ⟨dx, e _ _ g⟩
theorem limbs1_len (n : Int) : (limbs1 n).length = many n + 1 := by unfold limbs1; simp
theorem limbsN_le {ns : List Int} {b : Nat} (h : ∀ n ∈ ns, many n ≤ b) : (limbsN ns).length ≤ ns.length * (b + 1) := by
  induction ns with
  | nil => simp [limbsN]
  | cons n ns ih =>
    have h1 := h n (by simp)
    have h2 := ih fun m hm => h m (by simp [hm])
    have e : (limbsN (n :: ns)).length = (limbs1 n).length + (limbsN ns).length := by
      unfold limbsN
      rw [List.flatMap_cons, List.length_append]
    rw [e, limbs1_len, List.length_cons, Nat.add_mul]
    omega
theorem sz6 {n : Nat} (h : n ≤ 1000000) : n ≤ sizeLine := Nat.le_trans h (by decide)
theorem sz6' {n : Nat} (h : n < 1000000) : n < sizeLine := Nat.lt_of_lt_of_le h (by decide)
theorem sub_len {ns : List Int} {i : Nat} : (limbsN (ns.take i)).length ≤ (limbsN ns).length := by
  conv => rhs; rw [← List.take_append_drop i ns]
  unfold limbsN
  rw [List.flatMap_append, List.length_append]
  omega
theorem take_snoc {ns : List Int} {i : Nat} {n : Int} (h : ns[i]? = some n) : ns.take (i + 1) = ns.take i ++ [n] := by rw [List.take_add_one, h]; rfl
theorem int_at {ns : List Int} {i : Nat} {x : V} (h : (ns.map V.int)[i]? = some x) : ∃ n, x = .int n ∧ ns[i]? = some n := by
  rw [List.getElem?_map] at h
  obtain ⟨n, e, rfl⟩ := Option.map_eq_some_iff.mp h
  exact ⟨n, rfl, e⟩
def sp_limbs_of (K : PySem.W.Frag) : Sp := spA (fun (x : Addr × List Int) vs G => vs = [.ref x.1] ∧ SqS K G x.1 (x.2.map V.int) ∧ (limbs x.2).length ≤ 100000) fun x v G' => ∃ p, v = .ref p ∧ G' p = some (.lst ((limbs x.2).map V.int))
theorem ok_limbs_of (T : Txt K mg) : FnOk P w K mg base CX0 1 (He.fAd K ("limbs_of", none)) T.fd_limbs_of ["numbers"] (sp_limbs_of K) := by
  refine T.limbs_of.F.ok sc_limbs_of (fun vs H Q E h => ?_) (fun cdv A outer s H vs Q E hr h => ?_)
  · obtain ⟨_, _, _, ⟨rfl, _⟩, _⟩ := h
    rfl
  · obtain ⟨⟨a, ns⟩, G, e0, ⟨rfl, hS, hz⟩, q⟩ := h
    replace hz : (limbs ns).length ≤ 100000 := hz
    have hz' : (limbsN ns).length < 100000 := by unfold limbs at hz; rw [List.length_cons] at hz; omega
    replace hS : SqS K G a (ns.map V.int) := hS
    refine ⟨_, PSs.nox (pss_cons (ps_set (i := 1) sc_limbs_of.nd rfl (Or.inl rfl) (pe_lst (pa_cons (pe_callB (kq_len (K := K)) (by rfl) T.z_len (by decide +kernel) (pa_cons (pv 0) pa_nil)) pa_nil)))
  (pss_cons (ps_for PassesOwn.never rfl (ki_seq (K := K) (pv 0)) (pg_name (i := 2) sc_limbs_of.nd rfl (Or.inl rfl)) (pss_cons (ps_set (i := 3) sc_limbs_of.nd rfl (Or.inl rfl) (pe_op op_fdivW (pe_op op_sub (pe_op op_add (pe_bits (pv 2)) (pe_glob (v := .int 32) rfl T.c_LIMB_BITS.choose_spec ⟨_, rfl⟩)) pe_int) (pe_glob (v := .int 32) rfl T.c_LIMB_BITS.choose_spec ⟨_, rfl⟩)))
  (pss_cons (ps_expr (pe_bm PySem.F.plainAttrs_list PySem.F.slot_list_append PySem.F.type_list_append mt_append (pv 1) (pa_cons (pv 3) pa_nil)))
  (pss_one (ps_for PassesOwn.never rfl (pi_range1 rfl T.z_range (pa_cons (pv 3) pa_nil)) (pg_name (i := 4) sc_limbs_of.nd rfl (Or.inl rfl)) (pss_one (ps_expr (pe_bm PySem.F.plainAttrs_list PySem.F.slot_list_append PySem.F.type_list_append mt_append (pv 1) (pa_cons (pe_op op_and (pe_op op_shr (pv 2) (pe_op op_mul (pv 4) (pe_glob (v := .int 32) rfl T.c_LIMB_BITS.choose_spec ⟨_, rfl⟩))) (pe_glob (v := .int 4294967295) rfl T.c_LIMB_MASK.choose_spec ⟨_, rfl⟩)) pa_nil)))))))))
  (pss_one (ps_ret (pv 1))))), ?_⟩
    refine (show SM (V0 H G) _ _ _ G from ?_) H (J.start e0)
    walk_at "go"
    refine em_lst ?_
    walk_at "go"
    refine rm_lenS hS ?_
    walk_at "go"
    refine ⟨by show 1 ≤ sizeLine; decide, fun l G1 gl e1 gl1 => ?_⟩
    walk_at "go"
    have hge : (V0 H G).Ge l = none := gl
    refine sm_forS (fun i σ G' => ∃ v2 v3 v4, σ = [some (.ref a), some (.ref l), v2, v3, v4] ∧ Ex G G' ∧ G' l = some (.lst (((ns.length : Int) :: limbsN (ns.take i)).map V.int))) hS e1 ?_ ?_ (fun i σ' G' ⟨_, _, _, _, e, _⟩ => e) ?_ ?_
    · walk_at "go"
      exact ⟨rfl, rfl⟩
    · exact ⟨none, none, none, rfl, e1, by rw [gl1, List.length_map]; rfl⟩
    · rintro i x σ' G' hx ⟨v2, v3, v4, rfl, e2, g2⟩
      obtain ⟨n, rfl, hn⟩ := int_at hx
      have hle : (limbsN (ns.take (i + 1))).length ≤ (limbsN ns).length := sub_len
      rw [take_snoc hn, limbs_snoc, List.length_append, limbs1_len] at hle
      walk_at "go"
      have hm : ((Builtin.Int.intBits n : Nat) + 32 - 1 : Int) / 32 = (many n : Nat) := by unfold many; omega
      rw [hm]
      refine em_append (l := l) (xs := ((ns.length : Int) :: limbsN (ns.take i)).map V.int) ?_
      walk_at "go"
      refine ⟨rfl, g2, ?_⟩
      walk_at "go"
      refine ⟨g2, hge, ?_, ?_⟩
      · rw [List.length_map, List.length_cons]; exact sz6' (by omega)
      walk_at "go"
      refine sm_forR1 ?_
      walk_at "go"
      refine ⟨many n, rfl, by omega, by omega, fun p σ G'' => ∃ v4, σ = [some (.ref a), some (.ref l), some (.int n), some (.int (many n : Nat)), v4] ∧ Ex G G'' ∧ G'' l = some (.lst (((ns.length : Int) :: (limbsN (ns.take i) ++ ((many n : Int) :: (List.range p).map (limb n)))).map V.int)), ?_, ?_, ?_⟩
      · refine ⟨_, rfl, Ex.mut e2 gl, ?_⟩
        rw [upd_same]
        simp
      · rintro p σ' G'' hp ⟨v4, rfl, e3, g3⟩
        walk_at "go"
        refine em_append (l := l) (xs := ((ns.length : Int) :: (limbsN (ns.take i) ++ ((many n : Int) :: (List.range p).map (limb n)))).map V.int) ?_
        walk_at "go"
        refine ⟨rfl, g3, ?_⟩
        walk_at "go"
        refine ⟨g3, hge, ?_, ?_⟩
        · rw [List.length_map, List.length_cons, List.length_append, List.length_cons, List.length_map, List.length_range]; exact sz6' (by omega)
        · refine km_kj ⟨_, rfl, Ex.mut e3 gl, ?_⟩
          rw [upd_same, List.range_succ, List.map_append]
          have e : (((p : Nat) : Int) * 32).toNat = p * 32 := by omega
          rw [e]
          simp [limb]
      · rintro σ' G'' ⟨v4, rfl, e3, g3⟩
        refine km_kj ⟨_, _, _, rfl, e3, ?_⟩
        rw [g3, take_snoc hn, limbs_snoc, Int.toNat_natCast]
        rfl
    · rintro σ' G' ⟨v2, v3, v4, rfl, e2, g2⟩
      walk_at "go"
      refine kv_ret q e2 ⟨l, rfl, ?_⟩
      rw [g2, List.length_map, List.take_length]
      rfl
def sp_mixed (K : PySem.W.Frag) : Sp := spA (fun (x : Addr × List Int) vs G => vs = [.ref x.1] ∧ SqL K G x.1 (x.2.map V.int)) fun x v _ => v = .int ((mixN x.2).1 * 2 ^ 64 + (mixN x.2).2)
theorem ok_mixed (T : Txt K mg) : FnOk P w K mg base CX0 1 (He.fAd K ("mixed", none)) T.fd_mixed ["limbs"] (sp_mixed K) := by
  refine T.mixed.F.ok sc_mixed (fun vs H Q E h => ?_) (fun cdv A outer s H vs Q E hr h => ?_)
  · obtain ⟨_, _, _, ⟨rfl, _⟩, _⟩ := h
    rfl
  · obtain ⟨⟨a, ls⟩, G, e0, ⟨rfl, hS⟩, q⟩ := h
    replace hS : SqL K G a (ls.map V.int) := hS
    refine ⟨_, PSs.nox (pss_cons (ps_set (i := 1) sc_mixed.nd rfl (Or.inl rfl) (pe_glob (v := .int 7263541890216354987) rfl T.c_FIRST_START.choose_spec ⟨_, rfl⟩))
  (pss_cons (ps_set (i := 2) sc_mixed.nd rfl (Or.inl rfl) (pe_glob (v := .int 12985647301928374651) rfl T.c_SECOND_START.choose_spec ⟨_, rfl⟩))
  (pss_cons (ps_for PassesOwn.never rfl (ki_list (K := K) (pv 0)) (pg_name (i := 3) sc_mixed.nd rfl (Or.inl rfl)) (pss_cons (ps_set (i := 1) sc_mixed.nd rfl (Or.inl rfl) (pe_op op_and (pe_op op_mul (pe_op op_xor (pv 1) (pv 3)) (pe_glob (v := .int 15241578750190521011) rfl T.c_FIRST_FACTOR.choose_spec ⟨_, rfl⟩)) (pe_glob (v := .int 18446744073709551615) rfl T.c_WORD_MASK.choose_spec ⟨_, rfl⟩)))
  (pss_cons (ps_set (i := 1) sc_mixed.nd rfl (Or.inl rfl) (pe_op op_xor (pv 1) (pe_op op_shr (pv 1) (pe_glob (v := .int 31) rfl T.c_FIRST_SHIFT.choose_spec ⟨_, rfl⟩))))
  (pss_cons (ps_set (i := 2) sc_mixed.nd rfl (Or.inl rfl) (pe_op op_and (pe_op op_mul (pe_op op_add (pv 1) (pv 2)) (pe_glob (v := .int 9764318250173649287) rfl T.c_SECOND_FACTOR.choose_spec ⟨_, rfl⟩)) (pe_glob (v := .int 18446744073709551615) rfl T.c_WORD_MASK.choose_spec ⟨_, rfl⟩)))
  (pss_cons (ps_set (i := 2) sc_mixed.nd rfl (Or.inl rfl) (pe_op op_xor (pv 2) (pe_op op_shr (pv 2) (pe_glob (v := .int 29) rfl T.c_SECOND_SHIFT.choose_spec ⟨_, rfl⟩))))
  (pss_one (ps_set (i := 1) sc_mixed.nd rfl (Or.inl rfl) (pe_op op_and (pe_op op_add (pv 1) (pv 2)) (pe_glob (v := .int 18446744073709551615) rfl T.c_WORD_MASK.choose_spec ⟨_, rfl⟩)))))))))
  (pss_one (ps_ret (pe_op op_or (pe_op op_shl (pv 1) pe_int) (pv 2))))))), ?_⟩
    refine (show SM (V0 H G) _ _ _ G from ?_) H (J.start e0)
    walk_at "go"
    refine sm_forL ?_
    walk_at "go"
    refine ⟨a, _, rfl, hS, fun i σ G' => ∃ v3, σ = [some (.ref a), some (.int (mixN (ls.take i)).1), some (.int (mixN (ls.take i)).2), v3] ∧ G' = G, ⟨none, rfl, rfl⟩, fun i σ' G' _ ⟨_, _, e⟩ => by rw [e]; exact hS, ?_, ?_⟩
    · rintro i x σ' G' hx ⟨v3, rfl, rfl⟩
      obtain ⟨n, rfl, hn⟩ := int_at hx
      walk_at "go"
      refine km_kj ⟨some (.int n), ?_, rfl⟩
      have e : mixN (ls.take (i + 1)) = stp (mixN (ls.take i)) n := by
        unfold mixN
        rw [take_snoc hn, List.foldl_append]
        rfl
      rw [e]
      rfl
    · rintro σ' G' ⟨v3, rfl, rfl⟩
      rw [List.length_map, List.take_length]
      obtain ⟨u1, u2⟩ := mix_U ls
      walk_at "go"
      refine rm_I ⟨by decide, by decide, natAbs_U u1⟩ ?_
      walk_at "go"
      refine kv_ret q (Ex.refl _) ?_
      show V.int (Builtin.bitOr ((mixN ls).1 * 2 ^ 64) (mixN ls).2) = _
      rw [or_low (k := 64) u1.1 u2.1 (by have := u2.2; omega)]
def sp_Hasher___init__ (K : PySem.W.Frag) : Sp := fun vs H Q _ => ∃ (x dx C : Addr) (w : Int), vs = [.ref x, .int w] ∧ C = He.ga K "Hasher" ∧ H x = some (.ins C dx []) ∧ ∀ H', (∀ b o, b ≠ x → H b = some o → H' b = some o) → H' x = some (.ins C dx [("width", V.int w)]) → Q .non H'
theorem ok_Hasher___init__ (T : Txt K mg) : FnOk P w K mg base CX0 1 (He.fAd K ("Hasher", some "__init__")) T.fd_Hasher___init__ ["self", "width"] (sp_Hasher___init__ K) := by
  refine T.Hasher___init__.F.ok sc_Hasher___init__ (fun vs H Q E h => ?_) (fun cdv A outer s H vs Q E hr h => ?_)
  · obtain ⟨x, dx, C, w, rfl, _⟩ := h
    rfl
  · obtain ⟨x, dx, C, w, rfl, rfl, hx, q⟩ := h
    refine ⟨_, PSs.nox (pss_one (ps_fld (pv 0) (pv 1) rfl)), ?_⟩
    refine ⟨_, rfl, _, rfl, x, _, dx, [], rfl, hx, T.cl_Hasher, T.n_Hasher_width, (by show 0 < 1000; decide), ?_⟩
    exact q _ (fun b o nb e => by rw [upd_ne nb]; exact e) upd_same
def sp_Hasher_is_digest (K : PySem.W.Frag) : Sp := spA (fun (x : Addr × Int × Int) vs G => vs = [.ref x.1, .int x.2.2] ∧ HsAt (He.ga K "Hasher") G x.1 x.2.1 ∧ 0 ≤ x.2.1 ∧ x.2.1 ≤ 100000) fun x v _ => v = .bl (decide (0 ≤ x.2.2 ∧ x.2.2 < 2 ^ x.2.1.toNat))
theorem ok_Hasher_is_digest (T : Txt K mg) : FnOk P w K mg base CX0 1 (He.fAd K ("Hasher", some "is_digest")) T.fd_Hasher_is_digest ["self", "number"] (sp_Hasher_is_digest K) := by
  refine T.Hasher_is_digest.F.ok sc_Hasher_is_digest (fun vs H Q E h => ?_) (fun cdv A outer s H vs Q E hr h => ?_)
  · obtain ⟨_, _, _, ⟨rfl, _⟩, _⟩ := h
    rfl
  · obtain ⟨⟨a, w, n⟩, G, e0, ⟨rfl, ⟨dx, hh⟩, hw0, hw1⟩, q⟩ := h
    replace hh : G a = some (.ins (He.ga K "Hasher") dx [("width", V.int w)]) := hh
    replace hw0 : 0 ≤ w := hw0
    replace hw1 : w ≤ 100000 := hw1
    refine ⟨_, PSs.nox (pss_one (ps_ret (pe_chain (op_le) (op_lt) pe_int (pv 1) (pe_op op_shl pe_int (ke_fld (K := K) (pv 0)))))), ?_⟩
    refine (show SM (V0 H G) _ _ _ G from ?_) H (J.start e0)
    walk_at "go"
    refine ifd (fun h0 => ?_) (fun h0 => ?_)
    · walk_at "go"
      refine fm hh T.cl_Hasher T.n_Hasher_width rfl ?_
      refine rm_I ⟨hw0, by omega, by decide⟩ ?_
      walk_at "go"
      refine kv_ret q (Ex.refl _) ?_
      show V.bl (decide (n < 1 * 2 ^ w.toNat)) = V.bl (decide (0 ≤ n ∧ n < 2 ^ w.toNat))
      rw [Int.one_mul]
      congr 1
      exact decide_eq_decide.mpr ⟨fun z => ⟨h0, z⟩, fun z => z.2⟩
    · walk_at "go"
      refine kv_ret q (Ex.refl _) ?_
      show V.bl false = V.bl (decide (0 ≤ n ∧ n < 2 ^ w.toNat))
      rw [decide_eq_false (fun z => h0 z.1)]
def sp_Hasher_digest (K : PySem.W.Frag) : Sp := spA (fun (x : Addr × Int × Int × Addr × List Int) vs G => vs = [.ref x.1, .int x.2.2.1, .ref x.2.2.2.1] ∧ HsAt (He.ga K "Hasher") G x.1 x.2.1 ∧ 0 ≤ x.2.1 ∧ x.2.1 ≤ 128 ∧ SqS K G x.2.2.2.1 (x.2.2.2.2.map V.int) ∧ (limbs x.2.2.2.2).length ≤ 99000) fun x v _ => v = .int (dgst x.2.1 x.2.2.1 x.2.2.2.2)
theorem ok_Hasher_digest (T : Txt K mg) : FnOk P w K mg base CX0 2 (He.fAd K ("Hasher", some "digest")) T.fd_Hasher_digest ["self", "tag", "numbers"] (sp_Hasher_digest K) := by
  refine T.Hasher_digest.F.ok sc_Hasher_digest (fun vs H Q E h => ?_) (fun cdv A outer s H vs Q E hr h => ?_)
  · obtain ⟨_, _, _, ⟨rfl, _⟩, _⟩ := h
    rfl
  · obtain ⟨⟨a, w, t, b, ns⟩, G, e0, ⟨rfl, ⟨dx, hh⟩, hw0, hw1, hS, hz⟩, q⟩ := h
    replace hh : G a = some (.ins (He.ga K "Hasher") dx [("width", V.int w)]) := hh
    replace hw0 : 0 ≤ w := hw0
    replace hw1 : w ≤ 128 := hw1
    replace hS : SqS K G b (ns.map V.int) := hS
    replace hz : (limbs ns).length ≤ 99000 := hz
    refine ⟨_, PSs.nox (pss_cons (ps_set (i := 3) sc_Hasher_digest.nd rfl (Or.inl rfl) (pe_call (ok_mixed T) (hr.mono (by omega)) (by rfl) T.mixed.g T.mixed.F.kp T.mixed.b .nil pass0 (pa_cons (pe_lst (pa_cons (pv 1) (ka_star (K := K) (pe_call (ok_limbs_of T) (hr.mono (by omega)) (by rfl) T.limbs_of.g T.limbs_of.F.kp T.limbs_of.b .nil pass0 (pa_cons (pv 2) pa_nil)) (pa_cons (ke_fld (K := K) (pv 0)) (pa_cons (ke_fld (K := K) (pv 0)) pa_nil))))) pa_nil)))
  (pss_one (ps_ret (pe_op op_shr (pv 3) (pe_callB cq_max (by rfl) T.z_max (by decide +kernel) (pa_cons pe_int (pa_cons (pe_op op_sub (pe_glob (v := .int 128) rfl T.c_MIX_BITS.choose_spec ⟨_, rfl⟩) (ke_fld (K := K) (pv 0))) pa_nil))))))), ?_⟩
    refine (show SM (V0 H G) _ _ _ G from ?_) H (J.start e0)
    walk_at "go"
    refine em_lst ?_
    walk_at "go"
    refine am_star ?_
    walk_at "go"
    refine cm_a (b, ns) ⟨rfl, hS, by show (limbs ns).length ≤ 100000; omega⟩ fun v G1 e1 hv => ?_
    obtain ⟨p, rfl, gp⟩ := hv
    refine ⟨p, _, rfl, .inr (sq_of gp), ?_⟩
    walk_at "go"
    refine fm (e1 _ _ hh) T.cl_Hasher T.n_Hasher_width rfl ?_
    walk_at "go"
    refine fm (e1 _ _ hh) T.cl_Hasher T.n_Hasher_width rfl ?_
    walk_at "go"
    refine ⟨?_, fun l G2 gl e2 gl2 => ?_⟩
    · show (V.int t :: ((limbs ns).map V.int ++ [V.int w, V.int w])).length ≤ sizeLine
      rw [List.length_cons, List.length_append, List.length_map]
      exact sz6 (by show (limbs ns).length + 2 + 1 ≤ _; omega)
    have el : (V.int t :: ((limbs ns).map V.int ++ [V.int w, V.int w])) = (t :: limbs ns ++ [w, w]).map V.int := by simp
    walk_at "go"
    refine cm_a (l, t :: limbs ns ++ [w, w]) ⟨rfl, sq_of (by rw [gl2]; exact congrArg (fun z => some (HO.lst z)) el)⟩ fun v G3 e3 hv => ?_
    cases hv
    walk_at "go"
    refine fm (e3 _ _ (e2 _ _ (e1 _ _ hh))) T.cl_Hasher T.n_Hasher_width rfl ?_
    walk_at "go"
    refine kv_ret q (e1.trans (e2.trans e3)) ?_
    show V.int (_ / 2 ^ (if 128 - w > 0 then 128 - w else 0).toNat) = V.int (_ / 2 ^ (128 - w).toNat)
    rw [show (if 128 - w > 0 then 128 - w else 0).toNat = (128 - w).toNat by split <;> omega]

/-! ### numbers of bounded size -/
def Bd (n : Int) : Prop := many n ≤ 700
theorem limbs_bd {ns : List Int} (hl : ns.length ≤ 120) (h : ∀ n ∈ ns, Bd n) : (limbs ns).length ≤ 99000 := by
  have := limbsN_le h
  have h2 : ns.length * 701 ≤ 120 * 701 := Nat.mul_le_mul_right _ hl
  unfold limbs
  rw [List.length_cons]
  omega
theorem bd_abs {n : Int} (h : n.natAbs < 2 ^ 200) : Bd n := by
  have := PyProof.Rows.intBits_le h
  unfold Bd many
  omega
theorem bd_small {n : Int} (h0 : -1000000 ≤ n) (h : n ≤ 1000000) : Bd n := by
  refine bd_abs (Nat.lt_of_lt_of_le (show n.natAbs < 2 ^ 20 by omega) (Nat.pow_le_pow_right (by decide) (by decide)))
theorem bd_rng {n : Int} {k : Nat} (h0 : 0 ≤ n) (h : n < 2 ^ k) (hk : k ≤ 200) : Bd n := by
  refine bd_abs ?_
  have : n.natAbs < 2 ^ k := by
    have e : ((n.natAbs : Nat) : Int) < ((2 ^ k : Nat) : Int) := by rw [PySem.W.kbt_cast]; omega
    exact Int.ofNat_lt.mp e
  exact Nat.lt_of_lt_of_le this (Nat.pow_le_pow_right (by decide) hk)
theorem bd_dgst {w : Int} (h4 : 4 ≤ w) (h : w ≤ 128) (t : Int) (ns : List Int) : Bd (dgst w t ns) := bd_rng (dgst_rng h4 h t ns).1 (dgst_rng h4 h t ns).2 (by omega)

def sp__law_draw (K : PySem.W.Frag) : Sp := spDraw K
theorem ok__law_draw (T : Txt K mg) : FnOk P w K mg base CX0 1 (He.fAd K ("_law_draw", none)) T.fd__law_draw ["state", "script", "size"] (sp__law_draw K) := by
  refine T._law_draw.F.ok sc__law_draw (fun vs H Q E h => ?_) (fun cdv A outer s H vs Q E hr h => ?_)
  · obtain ⟨st, sc, ns, a, b, sz, rfl, _⟩ := h
    rfl
  · obtain ⟨st, sc, ns, a, b, sz, rfl, hst, ha, hb, hS0, h0, hz, q⟩ := h
    refine ⟨_, PSs.nox (pss_cons (ps_cut (ps_if (pt_cmpR (op_eq) (pe_ix (kx_list (K := K)) (pv 0) pe_int (fun _ _ => rfl)) pe_int (nomark _)) (pss_cons (ps_set (i := 3) sc__law_draw.nd rfl (Or.inl rfl) pe_int)
  (pss_cons (ps_cut (ps_if (pt_cmpR (op_gt) (pe_callB (kq_len (K := K)) (by rfl) T.z_len (by decide +kernel) (pa_cons (pv 1) pa_nil)) pe_int (nomark _)) (pss_one (ps_set (i := 3) sc__law_draw.nd rfl (Or.inl rfl) (pe_ix (kx_list (K := K)) (pv 1) (pe_op op_mod (pe_ix (kx_list (K := K)) (pv 0) pe_int (fun _ _ => rfl)) (pe_callB (kq_len (K := K)) (by rfl) T.z_len (by decide +kernel) (pa_cons (pv 1) pa_nil))) (fun _ _ => rfl)))) pss_nil))
  (pss_cons (ps_cut (ps_if (pt_cmpR (op_lt) (pv 3) pe_int (nomark _)) (pss_one (ps_set (i := 3) sc__law_draw.nd rfl (Or.inl rfl) (pe_op op_sub pe_int (pe_op op_mul pe_int (pv 3))))) pss_nil))
  (pss_cons (ps_set (i := 4) sc__law_draw.nd rfl (Or.inl rfl) (pe_op op_mod (pe_callTy cq_int (by rfl) T.z_int (by decide +kernel) (pa_cons (pe_op op_mul (pe_op op_add (pe_op op_add (pv 3) (pe_op op_mul (pe_ix (kx_list (K := K)) (pv 0) pe_int (fun _ _ => rfl)) pe_int)) pe_int) pe_int) pa_nil)) pe_int))
  (pss_cons (ps_asg (pe_op op_mod (pe_callTy cq_int (by rfl) T.z_int (by decide +kernel) (pa_cons (pe_op op_add (pe_op op_mul (pv 4) pe_int) (pe_op op_mul (pe_ix (kx_list (K := K)) (pv 0) pe_int (fun _ _ => rfl)) pe_int)) pa_nil)) pe_int) (pg_sub (pv 0) pe_int set_list))
  (pss_cons (ps_cut (ps_if (PW.pt (pw_and (pt_cmpR (op_ge) (pv 3) (pe_op op_pow pe_int pe_int) (nomark _)) (pw_and1 (pt_cmpR (op_lt) (pe_ix (kx_list (K := K)) (pv 0) pe_int (fun _ _ => rfl)) (pe_callB (kq_len (K := K)) (by rfl) T.z_len (by decide +kernel) (pa_cons (pv 1) pa_nil)) (nomark _))))) (pss_one (ps_asg (pv 3) (pg_sub (pv 0) pe_int set_list))) pss_nil))
  (pss_one (ps_asg (pe_op op_add (pe_ix (kx_list (K := K)) (pv 0) pe_int (fun _ _ => rfl)) pe_int) (pg_sub (pv 0) pe_int set_list))))))))) pss_nil))
  (pss_cons (ps_set (i := 5) sc__law_draw.nd rfl (Or.inl rfl) (pe_op op_mod (pe_callTy cq_int (by rfl) T.z_int (by decide +kernel) (pa_cons (pe_ix (kx_list (K := K)) (pv 0) pe_int (fun _ _ => rfl)) pa_nil)) (pv 2)))
  (pss_cons (ps_asg (pe_op op_fdivW (pe_ix (kx_list (K := K)) (pv 0) pe_int (fun _ _ => rfl)) (pv 2)) (pg_sub (pv 0) pe_int set_list))
  (pss_one (ps_ret (pv 5)))))), ?_⟩
    refine (show SM (VD st H) _ _ _ H from ?_) H VD.start
    have gst : (VD st H).Ge st = none := wo_same
    have hS : SqL K H sc (ns.map V.int) := ex_l wo_ex hS0
    have hLen : (ns.map V.int).length = ns.length := List.length_map ..
    refine sm_seq (sm_cut (fun σ G => ∃ a1 b1 : Int, ∃ v3 v4 v5, σ = [some (.ref st), some (.ref sc), some (.int sz), v3, v4, v5] ∧ 0 ≤ a1 ∧ 0 ≤ b1 ∧ G st = some (.lst [.int a1, .int b1])) ?_ ?_)
    · rintro σ' G' ⟨a1, b1, v3, v4, v5, rfl, h1, h2, g1⟩
      walk_at "go"
      refine rm_ixL (sq_of g1) (v := .int b1) rfl ?_
      walk_at "go"
      refine rm_ixL (sq_of g1) (v := .int b1) rfl ?_
      walk_at "go"
      refine slm (j := 1) g1 gst rfl ?_
      walk_at "go"
      refine kv_draw (b' := b1 / sz) q (Int.emod_nonneg _ (by omega)) (Int.emod_lt_of_pos _ h0) h1 (Int.ediv_nonneg h2 (by omega)) ?_
      exact upd_same
    · walk_at "go"
      refine rm_ixL (sq_of hst) (v := .int b) rfl ?_
      walk_at "go"
      refine ifd (fun hb0 => ?_) (fun hb0 => ?_)
      · subst hb0
        walk_at "go"
        refine sm_cut (fun σ G => ∃ c : Int, ∃ v4 v5, σ = [some (.ref st), some (.ref sc), some (.int sz), some (.int c), v4, v5] ∧ G = H) ?_ ?_
        · rintro σ' G' ⟨c, v4, v5, rfl, rfl⟩
          walk_at "go"
          refine sm_cut (fun σ G => ∃ c : Int, ∃ v4 v5, σ = [some (.ref st), some (.ref sc), some (.int sz), some (.int c), v4, v5] ∧ 0 ≤ c ∧ G = G') ?_ ?_
          · rintro σ' G'' ⟨c, v4, v5, rfl, hc, rfl⟩
            walk_at "go"
            refine rm_ixL (sq_of hst) (v := .int a) rfl ?_
            walk_at "go"
            refine rm_ixL (sq_of hst) (v := .int a) rfl ?_
            walk_at "go"
            refine slm (j := 1) hst gst rfl ?_
            have b0 : (0 : Int) ≤ ((((c + a * 7919 + 1) * 48271) % 2147483647) * 69621 + a * 104729) % 4294967291 := Int.emod_nonneg _ (by decide)
            generalize ((((c + a * 7919 + 1) * 48271) % 2147483647) * 69621 + a * 104729) % 4294967291 = b1 at b0 ⊢
            have g1 : upd G'' st (.lst ([V.int a, V.int 0].set 1 (.int b1))) st = some (.lst [.int a, .int b1]) := upd_same
            have e1 : Ex (wo st G'') (upd G'' st (.lst ([V.int a, V.int 0].set 1 (.int b1)))) := wo_upd wo_ex
            generalize upd G'' st (.lst ([V.int a, V.int 0].set 1 (.int b1))) = G1 at g1 e1 ⊢
            walk_at "go"
            refine sm_cut (fun σ G => ∃ a1 b1 : Int, ∃ v3 v4 v5, σ = [some (.ref st), some (.ref sc), some (.int sz), v3, v4, v5] ∧ 0 ≤ a1 ∧ 0 ≤ b1 ∧ G st = some (.lst [.int a1, .int b1])) ?_ ?_
            · rintro σ' G' ⟨a1, b1, v3, v4, v5, rfl, h1, h2, g1⟩
              walk_at "go"
              refine rm_ixL (sq_of g1) (v := .int a1) rfl ?_
              walk_at "go"
              refine slm (j := 0) g1 gst rfl ?_
              refine km_kj ?_
              exact ⟨a1 + 1, b1, _, _, _, rfl, by omega, h2, upd_same⟩
            · walk_at "go"
              refine ifd (fun hcc => ?_) (fun hcc => ?_)
              · walk_at "go"
                refine rm_ixL (sq_of g1) (v := .int a) rfl ?_
                walk_at "go"
                refine ifd (fun _ => ?_) (fun _ => ?_)
                · walk_at "go"
                  refine slm (j := 1) g1 gst rfl ?_
                  refine km_kj ?_
                  exact ⟨a, c, _, _, _, rfl, ha, hc, upd_same⟩
                · walk_at "go"
                  refine sm_next ?_
                  refine km_kj ?_
                  exact ⟨a, b1, _, _, _, rfl, ha, b0, g1⟩
              · walk_at "go"
                refine sm_next ?_
                refine km_kj ?_
                exact ⟨a, b1, _, _, _, rfl, ha, b0, g1⟩
          · walk_at "go"
            refine ifd (fun hcc => ?_) (fun hcc => ?_)
            · walk_at "go"
              refine km_kj ?_
              exact ⟨_, _, _, rfl, by omega, rfl⟩
            · walk_at "go"
              refine sm_next ?_
              refine km_kj ?_
              exact ⟨_, _, _, rfl, by omega, rfl⟩
        · walk_at "go"
          refine ifd (fun hl => ?_) (fun hl => ?_)
          · walk_at "go"
            refine rm_ixL (sq_of hst) (v := .int a) rfl ?_
            walk_at "go"
            have hpos : (0 : Int) < (ns.map V.int).length := hl
            have k0 := Int.emod_nonneg a (show ((ns.map V.int).length : Int) ≠ 0 by omega)
            have k1 := Int.emod_lt_of_pos a hpos
            obtain ⟨k, hk⟩ := Int.eq_ofNat_of_zero_le k0
            have hkl : k < ns.length := by rw [hLen] at k1 hk; omega
            refine rm_ixL (v := .int ns[k]) hS ?_ ?_
            · rw [hk]
              exact atI_nat (by rw [List.getElem?_map, List.getElem?_eq_getElem hkl]; rfl)
            · walk_at "go"
              refine km_kj ?_
              exact ⟨_, _, _, rfl, rfl⟩
          · walk_at "go"
            refine sm_next ?_
            refine km_kj ?_
            exact ⟨_, _, _, rfl, rfl⟩
      · walk_at "go"
        refine sm_next ?_
        refine km_kj ?_
        exact ⟨a, b, _, _, _, rfl, ha, hb, hst⟩

/-! ### the digests by data -/
theorem rpa1 {F : Hp} {vs : List V} {a : D} (h : RpA K F vs [a]) : ∃ v, vs = [v] ∧ Rp K F v a := by
  cases h with | cons x n => cases n; exact ⟨_, rfl, x⟩
abbrev Hs (K : PySem.W.Frag) (wd : Int) : D := .obj (He.ga K "Hasher") ["width"] [.int wd]
abbrev lI (ns : List Int) : D := .lst (ns.map D.int)
abbrev tI (ns : List Int) : D := .tup (ns.map D.int)
theorem hs_at {G : Hp} {v : V} {C : Addr} {wd : Int} (h : Rp K G v (.obj C ["width"] [.int wd])) : ∃ a, v = .ref a ∧ HsAt C G a wd := by
  cases h with
  | @obj a _ dx fvs _ _ ha hk b =>
    obtain ⟨v, e, hv⟩ := rpa1 b
    cases hv
    match fvs, hk, e with
    | [(k, u)], hk, e => 
      simp at hk e
      subst hk e
      exact ⟨a, rfl, dx, ha⟩
theorem sqs_of {G : Hp} {v : V} {ns : List Int} {x : D} (hx : x = lI ns ∨ x = tI ns) (h : Rp K G v x) : ∃ a, v = .ref a ∧ SqS K G a (ns.map V.int) := by
  rcases hx with rfl | rfl
  · cases h with | lst a b => rw [rpa_ints b] at a; exact ⟨_, rfl, .inl (sq_of a)⟩
  · cases h with | tup a b => rw [rpa_ints b] at a; exact ⟨_, rfl, .inr a⟩
theorem dc_digest {Q : E → Prop} {wd t : Int} {x : D} (ns : List Int) (hx : x = lI ns ∨ x = tI ns) (h0 : 0 ≤ wd) (h1 : wd ≤ 128) (hl : (limbs ns).length ≤ 99000) (k : Q (.d (.int (dgst wd t ns)))) : DC K (sp_Hasher_digest K) [Hs K wd, .int t, x] Q := fun U L G vs lo s => by
  cases s with
  | cons a s =>
    cases s with
    | cons b s =>
      obtain ⟨v, rfl, c⟩ := rpa1 s
      cases b
      obtain ⟨p, rfl, hp⟩ := hs_at a
      obtain ⟨q, rfl, hq⟩ := sqs_of hx c
      exact cm_a (p, wd, t, q, ns) ⟨rfl, hp, h0, h1, hq, hl⟩ fun v G' e hv => ⟨e, .d (.int (dgst wd t ns)), by rw [show v = .int (dgst wd t ns) from hv]; exact Rp.int _, k⟩
def isD (wd n : Int) : Bool := decide (0 ≤ n ∧ n < 2 ^ wd.toNat)
theorem dc_isdig {Q : E → Prop} {wd n : Int} (h0 : 0 ≤ wd) (h1 : wd ≤ 100000) (k : Q (.d (.bl (isD wd n)))) : DC K (sp_Hasher_is_digest K) [Hs K wd, .int n] Q := fun U L G vs lo s => by
  cases s with
  | cons a s =>
    obtain ⟨v, rfl, c⟩ := rpa1 s
    cases c
    obtain ⟨p, rfl, hp⟩ := hs_at a
    exact cm_a (p, wd, n) ⟨rfl, hp, h0, h1⟩ fun v G' e hv => ⟨e, .d (.bl (isD wd n)), by rw [show v = .bl (isD wd n) from hv]; exact Rp.bl _, k⟩
theorem de_hasher {ρ : List E} {Q : E → Prop} {E' : XK} {tas : TA} (wd : Int) (h : DA K tas ρ fun ds => ds = [.int wd] ∧ Q (.d (Hs K wd))) : DE K (tMake (He.ga K "Hasher") (sp_Hasher___init__ K) [] E' tas) ρ Q := fun U σ L G o =>
  em_makeI (fs := [("width", V.int wd)]) ((h U σ L G o).w fun vs G1 ⟨e1, ds, sd, ed, k⟩ => by
    subst ed
    obtain ⟨v, rfl, c⟩ := rpa1 sd
    cases c
    exact ⟨fun x dx H QI EI hx q => ⟨x, dx, _, wd, rfl, rfl, hx, q⟩, fun x dx G2 n e2 g => ⟨e1.trans e2, .d (Hs K wd), .obj g rfl (.cons (.int _) .nil), k⟩⟩)
/-! ### lists of ints, cut -/
theorem cut_to {α : Type} {f : α → D} {xs : List α} {k : Nat} (h : k ≤ xs.length) : cutO (xs.map f) none (some (k : Int)) = (xs.take k).map f := by
  unfold cutO
  rw [HT.sIx_none, HT.sIx_nat, List.drop_zero, Nat.sub_zero, List.length_map, Nat.min_eq_left h, List.map_take]
theorem cut_from {α : Type} {f : α → D} {xs : List α} {k : Nat} (h : k ≤ xs.length) : cutO (xs.map f) (some (k : Int)) none = (xs.drop k).map f := by
  unfold cutO
  rw [HT.sIx_none, HT.sIx_nat, List.length_map, Nat.min_eq_left h, List.map_drop]
  exact List.take_of_length_le (by rw [List.length_drop, List.length_map]; exact Nat.le_refl _)
theorem atI_map {α : Type} {f : α → D} {xs : List α} {k : Nat} {x : α} (h : xs[k]? = some x) : atI (xs.map f) (k : Int) = some (f x) := atI_nat (by rw [List.getElem?_map, h]; rfl)
theorem ints_inj : ∀ {a b : List Int}, a.map D.int = b.map D.int → a = b
  | [], [], _ => rfl
  | [], _ :: _, h => by simp at h
  | _ :: _, [], h => by simp at h
  | x :: a, y :: b, h => by
    rw [List.map_cons, List.map_cons] at h
    injection h with h1 h2
    injection h1 with h1
    rw [h1, ints_inj h2]
theorem tI_ne {a b : List Int} : (tI a = tI b) ↔ a = b := by
  constructor
  · intro h; injection h with h; exact ints_inj h
  · intro h; rw [h]
theorem lI_ne {a b : List Int} : (lI a = lI b) ↔ a = b := by
  constructor
  · intro h; injection h with h; exact ints_inj h
  · intro h; rw [h]
theorem lI_plain (a : List Int) : (lI a).plain = true := plains_map (fun _ => rfl) a
theorem tI_plain (a : List Int) : (tI a).plain = true := plains_map (fun _ => rfl) a
theorem lI_dep (a : List Int) : (lI a).dep ≤ 60 := by show D.deps (a.map D.int) + 1 ≤ 60; have := deps_map (f := D.int) (n := 0) (fun _ => Nat.le_refl _) a; omega
theorem tI_dep (a : List Int) : (tI a).dep ≤ 60 := by show D.deps (a.map D.int) + 1 ≤ 60; have := deps_map (f := D.int) (n := 0) (fun _ => Nat.le_refl _) a; omega
theorem dr_eqLI {Q : E → Prop} {a b : List Int} (k : Q (.d (.bl (decide (a = b))))) : DR K (rEqD K) (.d (lI a)) (.d (lI b)) Q := dr_eqD (decide (a = b)) (by rw [decide_eq_true_iff]; exact lI_ne.symm) (lI_plain a) (lI_plain b) (lI_dep a) (lI_dep b) k
theorem dr_neLI {Q : E → Prop} {a b : List Int} (k : Q (.d (.bl (!decide (a = b))))) : DR K (rNeD K) (.d (lI a)) (.d (lI b)) Q := dr_neD (decide (a = b)) (by rw [decide_eq_true_iff]; exact lI_ne.symm) (lI_plain a) (lI_plain b) (lI_dep a) (lI_dep b) k
theorem dr_eqTI {Q : E → Prop} {a b : List Int} (k : Q (.d (.bl (decide (a = b))))) : DR K (rEqD K) (.d (tI a)) (.d (tI b)) Q := dr_eqD (decide (a = b)) (by rw [decide_eq_true_iff]; exact tI_ne.symm) (tI_plain a) (tI_plain b) (tI_dep a) (tI_dep b) k
theorem dr_neTI {Q : E → Prop} {a b : List Int} (k : Q (.d (.bl (!decide (a = b))))) : DR K (rNeD K) (.d (tI a)) (.d (tI b)) Q := dr_neD (decide (a = b)) (by rw [decide_eq_true_iff]; exact tI_ne.symm) (tI_plain a) (tI_plain b) (tI_dep a) (tI_dep b) k
def sqD (b : Bool) (ns : List Int) : D := match b with | true => tI ns | false => lI ns
theorem db_lenSq {Q : E → Prop} {b : Bool} {ns : List Int} (k : Q (.d (.int (ns.length : Nat)))) : DB K (rLenQ K) [sqD b ns] Q := by
  cases b
  · exact db_lenM k
  · exact db_lenMT k
/-- an item at an unknown place -/
theorem atI_some {ds : List D} {n : Int} {P : D → Prop} (h0 : 0 ≤ n) (h1 : n < ds.length) (k : ∀ d ∈ ds, P d) : ∃ d, atI ds n = some d ∧ P d := by
  obtain ⟨m, rfl⟩ := Int.eq_ofNat_of_zero_le h0
  have hm : m < ds.length := by omega
  exact ⟨ds[m], atI_nat (List.getElem?_eq_getElem hm), k _ (List.getElem_mem hm)⟩
/-- a choice of two, three, four ints -/
theorem atI_ints {a : List D} {n : Int} {P : D → Prop} (R : Int → Prop) (h0 : 0 ≤ n) (h1 : n < a.length) (h2 : ∀ d ∈ a, ∃ m, d = .int m ∧ R m) (k : ∀ m, R m → P (.int m)) : ∃ d, atI a n = some d ∧ P d :=
  atI_some h0 h1 fun d hd => by obtain ⟨m, rfl, r⟩ := h2 d hd; exact k m r
theorem dn_listSq {ρ : List E} {te : TE} {QN : List D → Prop} (h : DE K te ρ fun e => ∃ b ns, e = .d (sqD b ns) ∧ QN (ns.map D.int)) : DN K (tCB (rListQ K) (tCons te tNil)) ρ QN :=
  dn_listL fun U σ L G o => (h U σ L G o).w fun v G1 ⟨e1, e, se, b, ns, ed, q⟩ => ⟨e1, e, se, ns.map D.int, by subst ed; cases b; exact .inl rfl; exact .inr rfl, q⟩
theorem ixN_nat {n k : Nat} (h : k < n) : ixN n (k : Int) = some k := by
  unfold ixN
  rw [if_pos (by omega), if_pos (by omega), Int.toNat_natCast]
theorem bd_xor1 {p : Int} {k : Nat} (h0 : 0 ≤ p) (h : p < 2 ^ k) (h1 : 1 ≤ k) (hk : k ≤ 200) : Bd (Builtin.bitXor p 1) := by
  obtain ⟨a, rfl⟩ := Int.eq_ofNat_of_zero_le h0
  rw [Bits.bitXor_pp (Int.natCast_nonneg a) (by decide), Int.toNat_natCast]
  have ha : a < 2 ^ k := nat_lt_pow h
  have hb : (1 : Int).toNat < 2 ^ k := Nat.lt_of_lt_of_le (show 1 < 2 ^ 1 by decide) (Nat.pow_le_pow_right (by decide) h1)
  exact bd_rng (k := k) (by omega) (by rw [← PySem.W.kbt_cast]; exact Int.ofNat_lt.mpr (Nat.xor_lt_two_pow ha hb)) hk
theorem ty_tup {H : Hp} {a : Addr} {xs : List V} (h : SqT K H a xs) : TyX K H (.ref a) (.type "tuple") := by
  rcases h with (h | ⟨o, h⟩) | ⟨o, its, n, e, c, _⟩
  · exact .base (.tup h)
  · exact .fTuple h
  · exact .kTuple e c
theorem de_isTup {ρ : List E} {te : TE} {Q : E → Prop} (h : DE K te ρ fun e => ∃ ds, e = .d (.tup ds) ∧ Q (.d (.bl true))) : DE K (tCB (rIsi K) (tCons te (tCons (tC (.ty "tuple")) tNil))) ρ Q := fun U σ L G o =>
  em_cb (am_cons ((h U σ L G o).w fun v G1 ⟨e1, e, se, ds, ed, k⟩ => am_cons (em_c (am_nil (by
    subst ed
    cases (se : Rp K G1 v (.tup ds)) with
    | tup a b => exact fun H j _ q => ⟨_, .ty "tuple", .type "tuple", .type "tuple", true, rfl, .ty "tuple", ty_tup (ex_t j.up a), kit_ty (by decide +kernel), q _ _ _ j ⟨e1, .d (.bl true), Rp.bl _, k⟩⟩)))))
theorem ty_lst {H : Hp} {a : Addr} {xs : List V} (h : SqL K H a xs) : H a = some (.lst xs) → TyX K H (.ref a) (.type "list") := fun h => .base (.lst h)
theorem de_isLst {ρ : List E} {te : TE} {Q : E → Prop} (h : DE K te ρ fun e => ∃ ds, e = .d (.lst ds) ∧ Q (.d (.bl true))) : DE K (tCB (rIsi K) (tCons te (tCons (tC (.ty "list")) tNil))) ρ Q := fun U σ L G o =>
  em_cb (am_cons ((h U σ L G o).w fun v G1 ⟨e1, e, se, ds, ed, k⟩ => am_cons (em_c (am_nil (by
    subst ed
    cases (se : Rp K G1 v (.lst ds)) with
    | lst a b => exact fun H j _ q => ⟨_, .ty "list", .type "list", .type "list", true, rfl, .ty "list", .base (.lst (j.up _ _ a)), kit_ty (by decide +kernel), q _ _ _ j ⟨e1, .d (.bl true), Rp.bl _, k⟩⟩)))))
theorem and1 {n : Int} : Builtin.bitAnd n 1 = n % 2 := PySem.W.kbt_mask n 1
theorem sq_of_pick {ns : List Int} : ∀ d ∈ [lI ns, tI ns], ∃ b, d = sqD b ns := by
  intro d hd
  simp at hd
  rcases hd with rfl | rfl
  · exact ⟨false, rfl⟩
  · exact ⟨true, rfl⟩
theorem log_small {n : Int} (h0 : 0 ≤ n) (h : n ≤ 1000000) : n.natAbs.log2 < 9000 := by
  have : n.natAbs < 2 ^ 20 := by omega
  by_cases z : n = 0
  · subst z; decide
  · have := (Nat.log2_lt (by omega)).mpr this
    omega

local macro_rules | `(tactic| walk_at "dr") => `(tactic| first | exact fun _ => .int _ | exact fun _ => .bl _ | exact fun _ => .str _ | exact fun _ => .non)
local macro_rules | `(tactic| walk_at "sz") => `(tactic| first | exact Nat.le_of_ble_eq_true rfl | (simp only [List.length_append, List.length_map, List.length_range, List.length_cons, List.length_nil, List.length_reverse]; exact sz6 (by omega)))
local macro_rules | `(tactic| walk_at "le") => `(tactic| ((repeat first | exact EnvLe.nil | with_reducible refine EnvLe.any ?_ | with_reducible refine EnvLe.same ?_ | refine EnvLe.sameE ?_ ?_); all_goals first | done | rfl | (simp; done) | (simp [List.map_append]; done) | skip))
local macro_rules | `(tactic| walk_at "d1") => `(tactic| first
  | with_reducible refine iteT ?_
  | with_reducible refine iteF ?_
  | with_reducible refine ifNT ?_
  | with_reducible refine ifNF ?_
  | with_reducible refine ds_seq ?_
  | refine ds_store ?_
  | ((with_reducible refine ds_own (dn_lst ?_)))
  | ((with_reducible refine ds_asg ?_))
  | ((with_reducible refine' dg_name ?fcc ?rcc ?_); (case fcc => rfl); (case rcc => first | (dsimp only [List.set]; done) | (dsimp only [List.set]; exact rfl)))
  | ((with_reducible refine' dg_tup ?lcc ?_); (case lcc => rfl))
  | ((with_reducible refine' dg_sqT ?lcc ?_); (case lcc => rfl))
  | ((with_reducible refine' dg_sqL ?lcc ?_); (case lcc => rfl))
  | with_reducible refine dgs_cons ?_
  | with_reducible refine dgs_nil ?_
  | ((with_reducible refine' set_to ?rcc ?_); (case rcc => first | (dsimp only [List.set]; done) | (dsimp only [List.set]; exact rfl)))
  | ((with_reducible refine' sz_ ?scc ?_); (case scc => walk_at "sz"))
  | ((with_reducible refine ds_aug ?_); refine ⟨_, rfl, ?_⟩)
  | with_reducible refine ds_next ?_
  | with_reducible refine ds_brk ?_
  | with_reducible refine ds_cont ?_
  | ((refine ds_retO ?_); refine ⟨_, rfl, ?_⟩)
  | with_reducible refine ds_ret ?_
  | with_reducible refine ds_retN ?_
  | ((refine ds_append ?_); refine ⟨_, rfl, ?_⟩)
  | ((refine ds_extend ?_); refine ⟨_, rfl, ?_⟩)
  | with_reducible refine ds_drop ?_
  | with_reducible refine ds_if ?_
  | with_reducible refine dt_test ?_
  | with_reducible refine dt_B ?_
  | with_reducible refine dt_and ?_
  | with_reducible refine dt_or ?_
  | with_reducible refine dt_not ?_
  | with_reducible refine dt_yes ?_
  | ((with_reducible refine de_var ?_); refine ⟨_, rfl, rfl, ?_⟩)
  | with_reducible refine de_cI ?_
  | with_reducible refine de_cB ?_
  | with_reducible refine de_cS ?_
  | with_reducible refine de_cN ?_
  | with_reducible refine de_op ?_
  | with_reducible refine de_un ?_
  | with_reducible refine de_chain ?_
  | ((with_reducible refine' dr_I0 ?dcc ?_); (case dcc => walk_at "dr"))
  | ((with_reducible refine' dr_I ?ccc ?dcc ?_); (case dcc => walk_at "dr"); (case ccc => walk_at "c"))
  | ((with_reducible refine' du_U ?dcc ?_); (case dcc => walk_at "dr"))
  | with_reducible refine dr_eqI ?_
  | with_reducible refine dr_neI ?_
  | with_reducible refine dr_eqS ?_
  | with_reducible refine dr_neS ?_
  | with_reducible refine dr_eqB ?_
  | with_reducible refine dr_neB ?_
  | with_reducible refine dr_isB ?_
  | with_reducible refine dr_notB ?_
  | with_reducible refine dr_isN ?_
  | with_reducible refine dr_notN ?_
  | with_reducible refine be ?_
  | with_reducible refine ie ?_
  | with_reducible refine dd ?_
  | with_reducible refine da_nil ?_
  | with_reducible refine da_cons ?_
  | with_reducible refine da_star ?_
  | with_reducible refine se_tup ?_
  | with_reducible refine se_lst ?_
  | with_reducible refine se_own ?_
  | with_reducible refine de_meth ?_
  | ((with_reducible refine' me ?ncc ?_); (case ncc => decide +kernel))
  | with_reducible refine de_fld ?_
  | ((with_reducible refine' fe ?ccc ?ncc ?lcc ?_); (case ccc => assumption); (case ncc => assumption); (case lcc => rfl))
  | with_reducible refine de_lst ?_
  | with_reducible refine de_tup ?_
  | ((with_reducible refine de_lenO ?_); refine ⟨_, rfl, ?_⟩)
  | with_reducible refine de_len ?_
  | with_reducible refine len_lM ?_
  | with_reducible refine len_tM ?_
  | with_reducible refine len_oM ?_
  | with_reducible refine len_dM ?_
  | with_reducible refine len_mM ?_
  | with_reducible refine len_l ?_
  | with_reducible refine len_t ?_
  | with_reducible refine len_o ?_
  | with_reducible refine len_d ?_
  | with_reducible refine len_m ?_
  | with_reducible refine sq_l ?_
  | with_reducible refine sq_t ?_
  | with_reducible refine ls_dM ?_
  | with_reducible refine ls_mM ?_
  | with_reducible refine ls_l ?_
  | with_reducible refine ls_t ?_
  | with_reducible refine ls_o ?_
  | with_reducible refine ls_d ?_
  | with_reducible refine ls_m ?_
  | with_reducible refine de_rev ?_
  | with_reducible refine rv_lM ?_
  | with_reducible refine rv_oM ?_
  | with_reducible refine rv_tM ?_
  | with_reducible refine rv_l ?_
  | with_reducible refine rv_o ?_
  | with_reducible refine rv_t ?_
  | with_reducible refine dt_tru ?_
  | with_reducible refine tr_n ?_
  | with_reducible refine tr_b ?_
  | with_reducible refine tr_i ?_
  | with_reducible refine tr_lM ?_
  | with_reducible refine tr_tM ?_
  | with_reducible refine tr_l ?_
  | with_reducible refine tr_t ?_
  | with_reducible refine de_dget ?_
  | with_reducible refine de_din ?_
  | with_reducible refine de_dnotin ?_
  | with_reducible refine de_dget1 ?_
  | with_reducible refine de_dget2 ?_
  | with_reducible refine dce_d ?_
  | with_reducible refine dce_o ?_
  | with_reducible refine kye_i ?_
  | with_reducible refine kye_s ?_
  | with_reducible refine ds_dput ?_
  | ((refine ds_dpop ?_); refine ⟨_, rfl, ?_⟩)
  | ((refine ds_popO ?_))
  | ((refine ds_retD ?_); refine ⟨_, _, rfl, ?_⟩)
  | with_reducible refine di_sq' ?_
  | with_reducible refine di_rng1 ?_
  | with_reducible refine di_rng2 ?_
  | with_reducible refine di_rng3 ?_
  | with_reducible refine di_rev1 ?_
  | with_reducible refine di_enumA ?_
  | with_reducible refine di_zip ?_
  | with_reducible refine dn_list ?_
  | with_reducible refine dn_items ?_
  | with_reducible refine dr_addI ?_
  | ((with_reducible refine' dr_addL ?scc ?_); (case scc => walk_at "sz"))
  | ((with_reducible refine' dr_addT ?scc ?_); (case scc => walk_at "sz"))
  | with_reducible refine dr_eqBI ?_
  | with_reducible refine dr_neBI ?_
  | with_reducible refine dr_eqBS ?_
  | with_reducible refine dr_neBS ?_
  | with_reducible refine dr_eqBB ?_
  | with_reducible refine dr_neBB ?_
  | with_reducible refine dr_eqBdd ?_
  | with_reducible refine dr_neBdd ?_
  | ((with_reducible refine dr_ixSO ?_); (try refine ⟨_, rfl, ?_⟩))
  | with_reducible refine dsl_SO ?_
  | ((with_reducible refine de_isTup ?_))
  | ((with_reducible refine de_isLst ?_))
  | with_reducible refine de_cb ?_
  | with_reducible refine de_bits ?_
  | refine de_callS (by exact rfl) (by exact rfl) ?_
  | with_reducible refine de_call ?_
  | with_reducible refine de_andV ?_
  | with_reducible refine de_orV ?_
  | with_reducible refine de_notV ?_
  | with_reducible refine de_if ?_
  | with_reducible refine db_lenM ?_
  | with_reducible refine db_lenMT ?_
  | with_reducible refine db_lenL ?_
  | with_reducible refine db_lenT ?_
  | with_reducible refine db_int ?_
  | with_reducible refine db_intB ?_
  | with_reducible refine db_max ?_
  | with_reducible refine db_min ?_
  | with_reducible refine db_listL ?_
  | with_reducible refine db_listT ?_
  | with_reducible refine db_tupL ?_
  | with_reducible refine db_tupT ?_
  | with_reducible refine db_sum ?_
  | with_reducible refine db_all ?_
  | with_reducible refine db_any ?_
  | with_reducible refine de_sl ?_
  | with_reducible refine do_none ?_
  | with_reducible refine do_some ?_
  | with_reducible refine dsl_L ?_
  | with_reducible refine dsl_O ?_
  | with_reducible refine dsl_A ?_
  | with_reducible refine dsl_SL ?_
  | with_reducible refine dsl_ST ?_
  | ((with_reducible refine dr_ixL ?_); (try refine ⟨_, rfl, ?_⟩))
  | ((with_reducible refine dr_ixO ?_); (try refine ⟨_, rfl, ?_⟩))
  | ((with_reducible refine dr_ixT ?_); (try refine ⟨_, rfl, ?_⟩))
  | ((with_reducible refine dr_ixSL ?_); (try refine ⟨_, rfl, ?_⟩))
  | ((with_reducible refine dr_ixST ?_); (try refine ⟨_, rfl, ?_⟩))
  | with_reducible refine dr_eqLI ?_
  | with_reducible refine dr_neLI ?_
  | with_reducible refine dr_eqTI ?_
  | with_reducible refine dr_neTI ?_)
local macro_rules | `(tactic| walk_at "d") => `(tactic| repeat walk_at "d1")
local macro_rules | `(tactic| walk_at "D") => `(tactic| ((try dsimp only); walk_at "d"))

def Itm (n : Int) : Prop := 0 ≤ n ∧ Bd n
theorem itm_nat {n : Nat} (h : n ≤ 1000000) : Itm (n : Int) := ⟨by omega, bd_small (by omega) (by omega)⟩
theorem itms_take {xs : List Int} {k : Nat} (h : ∀ y ∈ xs, Itm y) : ∀ y ∈ xs.take k, Itm y := fun y hy => h y (List.mem_of_mem_take hy)
theorem itms_drop {xs : List Int} {k : Nat} (h : ∀ y ∈ xs, Itm y) : ∀ y ∈ xs.drop k, Itm y := fun y hy => h y (List.mem_of_mem_drop hy)
theorem itms_bd {xs : List Int} (hl : xs.length ≤ 120) (h : ∀ y ∈ xs, Itm y) : (limbs xs).length ≤ 99000 := limbs_bd hl fun y hy => (h y hy).2
theorem itms3 {a b c : Int} (ha : Itm a) (hb : Itm b) (hc : Itm c) : ∀ y ∈ [a, b, c], Itm y := by
  intro y hy
  simp at hy
  rcases hy with rfl | rfl | rfl <;> assumption
theorem ok_void {α : Type} {args : α → List D} {pre : α → Prop} {res : α → D} {k : Nat} {f : Addr} {fd : FuncData} {ps : List Str} (hp : ∀ x, ¬ pre x) : FnOk P w K mg base CX0 k f fd ps (spG K args pre res) :=
  ⟨fun _ _ _ _ ⟨x, _, _, ⟨_, p⟩, _⟩ => absurd p (hp x), fun _ _ _ _ _ _ _ _ _ _ _ _ _ ⟨x, _, _, ⟨_, p⟩, _⟩ => absurd p (hp x)⟩
theorem itm_root' {wd : Int} (h4 : 4 ≤ wd) (h : wd ≤ 128) (t : Int) (xs : List Int) : Itm (dgst wd t xs) := ⟨(dgst_rng h4 h t xs).1, bd_dgst h4 h t xs⟩

/-! ### maps: what they are -/
abbrev Mp := List (Int × Int)
def bitN (k : Int) (n : Nat) : Bool := decide (k / 2 ^ n % 2 = 1)
def inL (n : Nat) (m : Mp) : Mp := m.filter fun p => !bitN p.1 n
def inR (n : Nat) (m : Mp) : Mp := m.filter fun p => bitN p.1 n
def hdM : Mp → List Int
  | [] => []
  | p :: _ => [p.1, p.2]
def nodM (wd : Int) : Nat → Mp → Int × List Int
  | 0, m => (2, hdM m)
  | n + 1, m => if m.length < 2 then (2, hdM m) else (3, [((inL n m).length : Int), dgst wd (nodM wd n (inL n m)).1 (nodM wd n (inL n m)).2, ((inR n m).length : Int), dgst wd (nodM wd n (inR n m)).1 (nodM wd n (inR n m)).2])
def digM (wd : Int) (n : Nat) (m : Mp) : Int := dgst wd (nodM wd n m).1 (nodM wd n m).2
theorem nodM_end {wd : Int} {n : Nat} {m : Mp} (h : m.length < 2 ∨ n = 0) : nodM wd n m = (2, hdM m) := by
  cases n with
  | zero => rfl
  | succ n => rw [nodM, if_pos (h.resolve_right (by omega))]
theorem nodM_in {wd : Int} {n : Nat} {m : Mp} (h : ¬ m.length < 2) : nodM wd (n + 1) m = (3, [((inL n m).length : Int), digM wd n (inL n m), ((inR n m).length : Int), digM wd n (inR n m)]) := by rw [nodM, if_neg h]; rfl
abbrev pT (p : Int × Int) : D := .tup [.int p.1, .int p.2]
abbrev enD (m : Mp) : D := .lst (m.map pT)
abbrev inD (x : Int × List Int) : D := .tup [.int x.1, tI x.2]
def EnB (p : Int × Int) : Prop := Bd p.1 ∧ Bd p.2
theorem inL_sub {n : Nat} {m : Mp} {p : Int × Int} (h : p ∈ inL n m) : p ∈ m := (List.mem_filter.mp h).1
theorem inR_sub {n : Nat} {m : Mp} {p : Int × Int} (h : p ∈ inR n m) : p ∈ m := (List.mem_filter.mp h).1
theorem inL_len (n : Nat) (m : Mp) : (inL n m).length ≤ m.length := List.length_filter_le _ _
theorem inR_len (n : Nat) (m : Mp) : (inR n m).length ≤ m.length := List.length_filter_le _ _
theorem lr_len (n : Nat) (m : Mp) : (inL n m).length + (inR n m).length = m.length := by
  unfold inL inR
  induction m with
  | nil => rfl
  | cons p m ih => cases h : bitN p.1 n <;> simp [h] <;> omega
theorem digM_rng {wd : Int} (h4 : 4 ≤ wd) (h : wd ≤ 128) (n : Nat) (m : Mp) : 0 ≤ digM wd n m ∧ digM wd n m < 2 ^ wd.toNat := dgst_rng h4 h _ _
theorem bd_dig {wd : Int} (h4 : 4 ≤ wd) (h : wd ≤ 128) (n : Nat) (m : Mp) : Bd (digM wd n m) := bd_dgst h4 h _ _
theorem bd_nat {n : Nat} (h : n ≤ 1000000) : Bd (n : Int) := bd_small (by omega) (by omega)
theorem hdM_bd {m : Mp} (h : ∀ p ∈ m, EnB p) : (hdM m).length ≤ 2 ∧ ∀ y ∈ hdM m, Bd y := by
  cases m with
  | nil => simp [hdM]
  | cons p m =>
    have := h p List.mem_cons_self
    simp [hdM]; exact this
theorem nodM_bd {wd : Int} (h4 : 4 ≤ wd) (h : wd ≤ 128) {n : Nat} {m : Mp} (hl : m.length ≤ 1000) (hb : ∀ p ∈ m, EnB p) : (nodM wd n m).2.length ≤ 4 ∧ (∀ y ∈ (nodM wd n m).2, Bd y) ∧ (limbs (nodM wd n m).2).length ≤ 99000 := by
  have k : (nodM wd n m).2.length ≤ 4 ∧ (∀ y ∈ (nodM wd n m).2, Bd y) := by
    by_cases z : m.length < 2 ∨ n = 0
    · rw [nodM_end z]; have := hdM_bd hb; exact ⟨by show (hdM m).length ≤ 4; omega, this.2⟩
    · obtain ⟨n, rfl⟩ : ∃ k, n = k + 1 := ⟨n - 1, by omega⟩
      rw [nodM_in (by omega)]
      refine ⟨by simp, ?_⟩
      intro y hy
      simp at hy
      have := inL_len n m; have := inR_len n m
      rcases hy with rfl | rfl | rfl | rfl
      · exact bd_nat (by omega)
      · exact bd_dig h4 h _ _
      · exact bd_nat (by omega)
      · exact bd_dig h4 h _ _
  exact ⟨k.1, k.2, limbs_bd (by omega) k.2⟩
/-! the entries' order tells nothing -/
theorem inL_perm {n : Nat} {m m' : Mp} (h : m.Perm m') : (inL n m).Perm (inL n m') := h.filter _
theorem inR_perm {n : Nat} {m m' : Mp} (h : m.Perm m') : (inR n m).Perm (inR n m') := h.filter _
/-- keys that agree above so many bits, all of them others -/
def SepM (n : Nat) (m : Mp) : Prop := (m.map (·.1)).Nodup ∧ ∃ c : Int, ∀ p ∈ m, p.1 / 2 ^ n = c
theorem nodup_filter {m : Mp} (f : Int × Int → Bool) (h : (m.map (·.1)).Nodup) : ((m.filter f).map (·.1)).Nodup := (List.filter_sublist.map _).nodup h
theorem half {k c : Int} {n : Nat} (h : k / 2 ^ (n + 1) = c) : k / 2 ^ n = 2 * c + k / 2 ^ n % 2 := by
  have : k / 2 ^ (n + 1) = k / 2 ^ n / 2 := by rw [Int.pow_succ, Int.ediv_ediv_of_nonneg (by have := PySem.W.kbt_pos n; omega)]
  omega
theorem SepM.left {n : Nat} {m : Mp} (h : SepM (n + 1) m) : SepM n (inL n m) := by
  obtain ⟨nd, c, hc⟩ := h
  refine ⟨nodup_filter _ nd, 2 * c, fun p hp => ?_⟩
  obtain ⟨hp, hb⟩ := List.mem_filter.mp hp
  have := half (hc p hp)
  have hb : ¬ p.1 / 2 ^ n % 2 = 1 := by simpa [bitN] using hb
  have := Int.emod_nonneg (p.1 / 2 ^ n) (show (2 : Int) ≠ 0 by decide)
  have := Int.emod_lt_of_pos (p.1 / 2 ^ n) (show (0 : Int) < 2 by decide)
  omega
theorem SepM.right {n : Nat} {m : Mp} (h : SepM (n + 1) m) : SepM n (inR n m) := by
  obtain ⟨nd, c, hc⟩ := h
  refine ⟨nodup_filter _ nd, 2 * c + 1, fun p hp => ?_⟩
  obtain ⟨hp, hb⟩ := List.mem_filter.mp hp
  have := half (hc p hp)
  have hb : p.1 / 2 ^ n % 2 = 1 := by simpa [bitN] using hb
  omega
theorem SepM.zero {m : Mp} (h : SepM 0 m) : m.length < 2 := by
  obtain ⟨nd, c, hc⟩ := h
  match m, nd, hc with
  | [], _, _ => simp
  | [_], _, _ => simp
  | p :: q :: r, nd, hc =>
    exfalso
    have e1 := hc p (by simp)
    have e2 := hc q (by simp)
    rw [Int.pow_zero, Int.ediv_one] at e1 e2
    simp at nd
    exact nd.1.1 (e1.trans e2.symm)
theorem SepM.perm {n : Nat} {m m' : Mp} (h : SepM n m) (p : m.Perm m') : SepM n m' := ⟨(p.map _).nodup_iff.mp h.1, h.2.elim fun c hc => ⟨c, fun x hx => hc x (p.mem_iff.mpr hx)⟩⟩
theorem perm_small {m m' : Mp} (p : m.Perm m') (h : m.length < 2) : m = m' := by
  match m, h with
  | [], _ => exact (List.Perm.eq_nil p.symm).symm
  | [x], _ => exact (List.Perm.eq_singleton p.symm).symm
theorem nodM_perm {wd : Int} : ∀ (n : Nat) {m m' : Mp}, m.Perm m' → SepM n m → nodM wd n m = nodM wd n m'
  | 0, m, m', p, s => by rw [perm_small p s.zero]
  | n + 1, m, m', p, s => by
    by_cases h : m.length < 2
    · rw [perm_small p h]
    · rw [nodM_in h, nodM_in (by rw [← p.length_eq]; exact h)]
      unfold digM
      rw [nodM_perm n (inL_perm p) s.left, nodM_perm n (inR_perm p) s.right, (inL_perm (n := n) p).length_eq, (inR_perm (n := n) p).length_eq]
/-! the way of a key -/
def sdM (k : Int) (n : Nat) (m : Mp) : Mp := if bitN k n then inR n m else inL n m
def otM (k : Int) (n : Nat) (m : Mp) : Mp := if bitN k n then inL n m else inR n m
/-- what is beside the way, from the root on, and the entries at its end -/
def wayM (wd : Int) (k : Int) : Nat → Mp → List Int × Mp
  | 0, m => ([], m)
  | n + 1, m => if m.length < 2 then ([], m) else (((otM k n m).length : Int) :: digM wd n (otM k n m) :: (wayM wd k n (sdM k n m)).1, (wayM wd k n (sdM k n m)).2)
theorem wayM_end {wd k : Int} {n : Nat} {m : Mp} (h : m.length < 2 ∨ n = 0) : wayM wd k n m = ([], m) := by
  cases n with
  | zero => rfl
  | succ n => rw [wayM, if_pos (h.resolve_right (by omega))]
theorem wayM_in {wd k : Int} {n : Nat} {m : Mp} (h : ¬ m.length < 2) : wayM wd k (n + 1) m = (((otM k n m).length : Int) :: digM wd n (otM k n m) :: (wayM wd k n (sdM k n m)).1, (wayM wd k n (sdM k n m)).2) := by rw [wayM, if_neg h]
/-- how many steps it has -/
def depM (k : Int) : Nat → Mp → Nat
  | 0, _ => 0
  | n + 1, m => if m.length < 2 then 0 else depM k n (sdM k n m) + 1
theorem depM_end {k : Int} {n : Nat} {m : Mp} (h : m.length < 2 ∨ n = 0) : depM k n m = 0 := by
  cases n with
  | zero => rfl
  | succ n => rw [depM, if_pos (h.resolve_right (by omega))]
theorem depM_in {k : Int} {n : Nat} {m : Mp} (h : ¬ m.length < 2) : depM k (n + 1) m = depM k n (sdM k n m) + 1 := by rw [depM, if_neg h]
theorem depM_le {k : Int} : ∀ (n : Nat) (m : Mp), depM k n m ≤ n
  | 0, m => Nat.le_refl _
  | n + 1, m => by
    by_cases h : m.length < 2
    · rw [depM_end (.inl h)]; omega
    · rw [depM_in h]; have := depM_le (k := k) n (sdM k n m); omega
theorem wayM_len {wd k : Int} : ∀ (n : Nat) (m : Mp), (wayM wd k n m).1.length = 2 * depM k n m
  | 0, m => rfl
  | n + 1, m => by
    by_cases h : m.length < 2
    · rw [wayM_end (.inl h), depM_end (.inl h)]; rfl
    · rw [wayM_in h, depM_in h]
      have := wayM_len (wd := wd) (k := k) n (sdM k n m)
      simp only [List.length_cons]
      omega
def prfM (wd : Int) (m : Mp) (k : Int) : List Int := (depM k 32 m : Int) :: (wayM wd k 32 m).1 ++ hdM (wayM wd k 32 m).2
theorem sdM_sub {k : Int} {n : Nat} {m : Mp} {p : Int × Int} (h : p ∈ sdM k n m) : p ∈ m := by unfold sdM at h; split at h; exact inR_sub h; exact inL_sub h
theorem otM_sub {k : Int} {n : Nat} {m : Mp} {p : Int × Int} (h : p ∈ otM k n m) : p ∈ m := by unfold otM at h; split at h; exact inL_sub h; exact inR_sub h
theorem sdM_len (k : Int) (n : Nat) (m : Mp) : (sdM k n m).length ≤ m.length := by unfold sdM; split; exact inR_len _ _; exact inL_len _ _
theorem otM_len (k : Int) (n : Nat) (m : Mp) : (otM k n m).length ≤ m.length := by unfold otM; split; exact inL_len _ _; exact inR_len _ _
theorem SepM.sd {k : Int} {n : Nat} {m : Mp} (h : SepM (n + 1) m) : SepM n (sdM k n m) := by unfold sdM; split; exact h.right; exact h.left
theorem SepM.ot {k : Int} {n : Nat} {m : Mp} (h : SepM (n + 1) m) : SepM n (otM k n m) := by unfold otM; split; exact h.left; exact h.right
theorem sdM_perm {k : Int} {n : Nat} {m m' : Mp} (h : m.Perm m') : (sdM k n m).Perm (sdM k n m') := by unfold sdM; split; exact inR_perm h; exact inL_perm h
theorem otM_perm {k : Int} {n : Nat} {m m' : Mp} (h : m.Perm m') : (otM k n m).Perm (otM k n m') := by unfold otM; split; exact inL_perm h; exact inR_perm h
theorem wayM_perm {wd k : Int} : ∀ (n : Nat) {m m' : Mp}, m.Perm m' → SepM n m → (wayM wd k n m).1 = (wayM wd k n m').1 ∧ (wayM wd k n m).2.Perm (wayM wd k n m').2 ∧ depM k n m = depM k n m' ∧ (wayM wd k n m).2.length < 2
  | 0, m, m', p, s => ⟨rfl, p, rfl, s.zero⟩
  | n + 1, m, m', p, s => by
    by_cases h : m.length < 2
    · rw [← perm_small p h, wayM_end (.inl h)]; exact ⟨rfl, List.Perm.refl _, rfl, h⟩
    · have h' : ¬ m'.length < 2 := by rw [← p.length_eq]; exact h
      obtain ⟨i1, i2, i3, i4⟩ := wayM_perm (wd := wd) (k := k) n (sdM_perm p) s.sd
      rw [wayM_in h, wayM_in h', depM_in h, depM_in h']
      refine ⟨?_, i2, by rw [i3], i4⟩
      unfold digM
      rw [i1, nodM_perm n (otM_perm p) s.ot, (otM_perm (k := k) (n := n) p).length_eq]
theorem prfM_perm {wd k : Int} {m m' : Mp} (p : m.Perm m') (s : SepM 32 m) : prfM wd m k = prfM wd m' k := by
  obtain ⟨i1, i2, i3, i4⟩ := wayM_perm (wd := wd) (k := k) 32 p s
  unfold prfM
  rw [i1, i3, perm_small i2 i4]
theorem way_sub {wd k : Int} : ∀ (n : Nat) (m : Mp), ∀ p ∈ (wayM wd k n m).2, p ∈ m
  | 0, m => fun p h => h
  | n + 1, m => fun p h => by
    by_cases z : m.length < 2
    · rw [wayM_end (.inl z)] at h; exact h
    · rw [wayM_in z] at h; exact sdM_sub (way_sub n _ p h)
theorem way_bd {wd k : Int} (h4 : 4 ≤ wd) (h : wd ≤ 128) : ∀ (n : Nat) (m : Mp), m.length ≤ 1000 → ∀ y ∈ (wayM wd k n m).1, 0 ≤ y ∧ y < 2 ^ 128
  | 0, m, hl => by simp [wayM]
  | n + 1, m, hl => by
    by_cases z : m.length < 2
    · rw [wayM_end (.inl z)]; simp
    · rw [wayM_in z]
      intro y hy
      have := otM_len k n m; have := sdM_len k n m
      rcases List.mem_cons.mp hy with rfl | hy
      · refine ⟨by omega, Int.lt_of_lt_of_le (show ((otM k n m).length : Int) < 2 ^ 20 by omega) ?_⟩
        rw [← PySem.W.kbt_cast, ← PySem.W.kbt_cast]; exact Int.ofNat_le.mpr (Nat.pow_le_pow_right (by decide) (by decide))
      rcases List.mem_cons.mp hy with rfl | hy
      · have := digM_rng h4 h n (otM k n m)
        refine ⟨this.1, Int.lt_of_lt_of_le this.2 ?_⟩
        rw [← PySem.W.kbt_cast, ← PySem.W.kbt_cast]; exact Int.ofNat_le.mpr (Nat.pow_le_pow_right (by decide) (by omega))
      · exact way_bd h4 h n _ (by omega) y hy

/-! ### maps: the nodes, by the program -/
def sp_is_right (K : PySem.W.Frag) : Sp := spG K (fun x : Int × Nat => [.int x.1, .int (31 - (x.2 : Int))]) (fun x => x.2 ≤ 31) fun x => .bl (bitN x.1 x.2)
theorem ok_is_right (T : Txt K mg) : FnOk P w K mg base CX0 (1) (He.fAd K ("is_right", none)) T.fd_is_right ["key", "depth"] (sp_is_right K) := by
  refine T.is_right.F.ok sc_is_right (fun vs H Q E h => len_g h fun _ => rfl) (fun cdv A outer s H vs Q E hr h => ⟨_, PSs.nox (pss_one (ps_ret (pe_cmpR (kp_eqB (K := K) hr.units) (pe_op op_and (pe_op op_shr (pv 0) (pe_op op_sub (pe_op op_sub (pe_glob (v := .int 32) rfl T.c_KEY_BITS.choose_spec ⟨_, rfl⟩) pe_int) (pv 1))) pe_int) pe_int (nomark _)))), fn_g h fun x p => ?_⟩)
  change DS K _ (Wp.E.d _ :: (Wp.E.d _ :: [])) _ _ _ _
  obtain ⟨k, n⟩ := x
  dsimp only at p ⊢
  walk_at "d"
  rw [show (32 - 1 - (31 - (n : Int))) = (n : Int) by omega, Int.toNat_natCast, and1]
  walk_at "d"
  rfl
def sp_parted (K : PySem.W.Frag) : Sp := spG K (fun x : Mp × Nat => [enD x.1, .int (31 - (x.2 : Int))]) (fun x => x.2 ≤ 31 ∧ x.1.length ≤ 100000) fun x => .tup [enD (inL x.2 x.1), enD (inR x.2 x.1)]
theorem ok_parted (T : Txt K mg) : FnOk P w K mg base CX0 (2) (He.fAd K ("parted", none)) T.fd_parted ["entries", "depth"] (sp_parted K) := by
  refine T.parted.F.ok sc_parted (fun vs H Q E h => len_g h fun _ => rfl) (fun cdv A outer s H vs Q E hr h => ⟨_, PSs.nox (pss_cons (ps_setLc (i := 2) (own := [("entry", 4)]) rfl sc_parted.nd rfl rfl (sw_true rfl rfl rfl (by decide +kernel)) (ki_sq (K := K) (pv 0)) (blkOk_by (own := [("entry", 4)]) (N := ["entries", "depth", "left", "right", "entry"]) (sc := defScope s_parted) (by decide +kernel)) (fun _ _ _ _ _ => pg_name (i := 4) sc_parted.nd rfl (Or.inl rfl)) (fun _ _ _ _ _ => (pts_one (pt_not (pt_val (pe_call (ok_is_right T) (hr.mono (by omega)) (by rfl) T.is_right.g T.is_right.F.kp T.is_right.b .nil pass0 (pa_cons (pe_ix (kx_seq (K := K)) (pv 4) pe_int (fun _ _ => rfl)) (pa_cons (pv 1) pa_nil))))))) (fun _ _ _ _ _ => (pv 4)))
  (pss_cons (ps_setLc (i := 3) (own := [("entry", 4)]) rfl sc_parted.nd rfl rfl (sw_true rfl rfl rfl (by decide +kernel)) (ki_sq (K := K) (pv 0)) (blkOk_by (own := [("entry", 4)]) (N := ["entries", "depth", "left", "right", "entry"]) (sc := defScope s_parted) (by decide +kernel)) (fun _ _ _ _ _ => pg_name (i := 4) sc_parted.nd rfl (Or.inl rfl)) (fun _ _ _ _ _ => (pts_one (pt_val (pe_call (ok_is_right T) (hr.mono (by omega)) (by rfl) T.is_right.g T.is_right.F.kp T.is_right.b .nil pass0 (pa_cons (pe_ix (kx_seq (K := K)) (pv 4) pe_int (fun _ _ => rfl)) (pa_cons (pv 1) pa_nil)))))) (fun _ _ _ _ _ => (pv 4)))
  (pss_one (ps_ret (pe_tup (pa_cons (pv 2) (pa_cons (pv 3) pa_nil))))))), fn_g h fun x p => ?_⟩)
  change DS K _ (Wp.E.d _ :: (Wp.E.d _ :: (Wp.E.any :: (Wp.E.any :: (Wp.E.any :: []))))) _ _ _ _
  obtain ⟨m, n⟩ := x
  obtain ⟨h31, hl⟩ := p
  dsimp only at h31 hl ⊢
  walk_at "d"
  refine de_new (dn_filt pT pT (fun p => !bitN p.1 n) ?_)
  walk_at "d"
  refine ⟨m, rfl, by omega, fun i p hp => dgw_name rfl (by decide) rfl ?_, ?_⟩
  · walk_at "d"
    refine dc_g (p.1, n) rfl h31 ?_
    walk_at "D"
    exact ⟨rfl, fun _ => de_var ⟨_, rfl, rfl, rfl⟩⟩
  walk_at "d"
  refine de_new (dn_filt pT pT (fun p => bitN p.1 n) ?_)
  walk_at "d"
  refine ⟨m, rfl, by omega, fun i p hp => dgw_name rfl (by decide) rfl ?_, ?_⟩
  · walk_at "d"
    refine dc_g (p.1, n) rfl h31 ?_
    walk_at "D"
    exact ⟨rfl, fun _ => de_var ⟨_, rfl, rfl, rfl⟩⟩
  walk_at "d"
  rfl
/-! node_input and node_digest: each by the other -/
def sp_ni (K : PySem.W.Frag) (n : Nat) : Sp := spG K (fun x : Int × Mp × Nat => [Hs K x.1, enD x.2.1, .int (32 - (x.2.2 : Int))]) (fun x => 4 ≤ x.1 ∧ x.1 ≤ 128 ∧ x.2.2 < n ∧ x.2.2 ≤ 32 ∧ x.2.1.length ≤ 1000 ∧ ∀ p ∈ x.2.1, EnB p) fun x => inD (nodM x.1 x.2.2 x.2.1)
def sp_nd (K : PySem.W.Frag) (n : Nat) : Sp := spG K (fun x : Int × Mp × Nat => [Hs K x.1, enD x.2.1, .int (32 - (x.2.2 : Int))]) (fun x => 4 ≤ x.1 ∧ x.1 ≤ 128 ∧ x.2.2 < n ∧ x.2.2 ≤ 32 ∧ x.2.1.length ≤ 1000 ∧ ∀ p ∈ x.2.1, EnB p) fun x => .int (digM x.1 x.2.2 x.2.1)
def sp_is_end (K : PySem.W.Frag) : Sp := spG K (fun x : Mp × Nat => [enD x.1, .int (32 - (x.2 : Int))]) (fun x => x.2 ≤ 32) fun x => .bl (decide (x.1.length < 2 ∨ x.2 = 0))
theorem ok_is_end (T : Txt K mg) : FnOk P w K mg base CX0 (1) (He.fAd K ("is_end", none)) T.fd_is_end ["entries", "depth"] (sp_is_end K) := by
  refine T.is_end.F.ok sc_is_end (fun vs H Q E h => len_g h fun _ => rfl) (fun cdv A outer s H vs Q E hr h => ⟨_, PSs.nox (pss_one (ps_ret (pe_or (pe_cmpR (op_lt) (pe_callB (kq_lenA (K := K)) (by rfl) T.z_len (by decide +kernel) (pa_cons (pv 0) pa_nil)) pe_int (nomark _)) (pe_one (pe_cmpR (kp_eqB (K := K) hr.units) (pv 1) (pe_glob (v := .int 32) rfl T.c_KEY_BITS.choose_spec ⟨_, rfl⟩) (nomark _)))))), fn_g h fun x p => ?_⟩)
  change DS K _ (Wp.E.d _ :: (Wp.E.d _ :: [])) _ _ _ _
  obtain ⟨m, n⟩ := x
  dsimp only at p ⊢
  walk_at "d"
  refine ifd (fun h => ?_) (fun h => ?_)
  · walk_at "d"
    rw [decide_eq_true (show m.length < 2 ∨ n = 0 from .inl (by omega))]
  · walk_at "d"
    by_cases z : n = 0
    · subst z
      rw [decide_eq_true (show m.length < 2 ∨ 0 = 0 from .inr rfl)]
      rfl
    · rw [decide_eq_false (show ¬ (m.length < 2 ∨ n = 0) by omega), decide_eq_false (show ¬ ((32 : Int) - n = 32) by omega)]
theorem ok_nd_step (T : Txt K mg) (n : Nat) (IH : FnOk P w K mg base CX0 (29 + 2 * n + 1) (He.fAd K ("node_input", none)) T.fd_node_input ["hasher", "entries", "depth"] (sp_ni K n)) : FnOk P w K mg base CX0 (29 + 2 * n + 1 + 1) (He.fAd K ("node_digest", none)) T.fd_node_digest ["hasher", "entries", "depth"] (sp_nd K n) := by
  refine T.node_digest.F.ok sc_node_digest (fun vs H Q E h => len_g h fun _ => rfl) (fun cdv A outer s H vs Q E hr h => ⟨_, PSs.nox (pss_cons (ps_asg (pe_call IH (hr.mono (by omega)) (by rfl) T.node_input.g T.node_input.F.kp T.node_input.b .nil pass0 (pa_cons (pv 0) (pa_cons (pv 1) (pa_cons (pv 2) pa_nil)))) (kg_tup (K := K) (n := 2) rfl (pgs_cons (pg_name (i := 3) sc_node_digest.nd rfl (Or.inl rfl)) (pgs_cons (pg_name (i := 4) sc_node_digest.nd rfl (Or.inl rfl)) pgs_nil))))
  (pss_one (ps_ret (pe_meth (pv 0) T.cl_Hasher T.me_Hasher_digest (ok_Hasher_digest T) (hr.mono (by omega)) T.Hasher_digest.b .nil pass0 (pa_cons (pv 3) (pa_cons (pv 4) pa_nil)))))), fn_g h fun x p => ?_⟩)
  change DS K _ (Wp.E.d _ :: (Wp.E.d _ :: (Wp.E.d _ :: (Wp.E.any :: (Wp.E.any :: []))))) _ _ _ _
  obtain ⟨wd, m, d⟩ := x
  obtain ⟨w4, w128, hd, h32, hl, hb⟩ := p
  dsimp only at w4 w128 hd h32 hl hb ⊢
  have hB := nodM_bd w4 w128 (n := d) hl hb
  walk_at "d"
  refine dc_g (wd, m, d) rfl ⟨w4, w128, hd, h32, hl, hb⟩ ?_
  walk_at "D"
  refine dc_digest (nodM wd d m).2 (.inr rfl) (by omega) w128 hB.2.2 ?_
  walk_at "d"
  rfl
theorem ok_ni_step (T : Txt K mg) (n : Nat) (IH : FnOk P w K mg base CX0 (29 + 2 * n + 1 + 1) (He.fAd K ("node_digest", none)) T.fd_node_digest ["hasher", "entries", "depth"] (sp_nd K n)) : FnOk P w K mg base CX0 (29 + 2 * (n + 1) + 1) (He.fAd K ("node_input", none)) T.fd_node_input ["hasher", "entries", "depth"] (sp_ni K (n + 1)) := by
  refine T.node_input.F.ok sc_node_input (fun vs H Q E h => len_g h fun _ => rfl) (fun cdv A outer s H vs Q E hr h => ⟨_, PSs.nox (pss_cons (ps_if (pt_cmpR (kp_eqB (K := K) hr.units) (pe_callB (kq_lenA (K := K)) (by rfl) T.z_len (by decide +kernel) (pa_cons (pv 1) pa_nil)) pe_int (nomark _)) (pss_one (ps_ret (pe_tup (pa_cons (pe_glob (v := .int 2) rfl T.c_LEAF_TAG_maps.choose_spec ⟨_, rfl⟩) (pa_cons (pe_tup pa_nil) pa_nil))))) pss_nil)
  (pss_cons (ps_if (pt_val (pe_call (ok_is_end T) (hr.mono (by omega)) (by rfl) T.is_end.g T.is_end.F.kp T.is_end.b .nil pass0 (pa_cons (pv 1) (pa_cons (pv 2) pa_nil)))) (pss_one (ps_ret (pe_tup (pa_cons (pe_glob (v := .int 2) rfl T.c_LEAF_TAG_maps.choose_spec ⟨_, rfl⟩) (pa_cons (pe_ix (kx_seq (K := K)) (pv 1) pe_int (fun _ _ => rfl)) pa_nil))))) pss_nil)
  (pss_cons (ps_asg (pe_call (ok_parted T) (hr.mono (by omega)) (by rfl) T.parted.g T.parted.F.kp T.parted.b .nil pass0 (pa_cons (pv 1) (pa_cons (pv 2) pa_nil))) (kg_tup (K := K) (n := 2) rfl (pgs_cons (pg_name (i := 3) sc_node_input.nd rfl (Or.inl rfl)) (pgs_cons (pg_name (i := 4) sc_node_input.nd rfl (Or.inl rfl)) pgs_nil))))
  (pss_cons (ps_set (i := 5) sc_node_input.nd rfl (Or.inl rfl) (pe_call IH (hr.mono (by omega)) (by rfl) T.node_digest.g T.node_digest.F.kp T.node_digest.b .nil pass0 (pa_cons (pv 0) (pa_cons (pv 3) (pa_cons (pe_op (kp_addA (K := K)) (pv 2) pe_int) pa_nil)))))
  (pss_cons (ps_set (i := 6) sc_node_input.nd rfl (Or.inl rfl) (pe_call IH (hr.mono (by omega)) (by rfl) T.node_digest.g T.node_digest.F.kp T.node_digest.b .nil pass0 (pa_cons (pv 0) (pa_cons (pv 4) (pa_cons (pe_op (kp_addA (K := K)) (pv 2) pe_int) pa_nil)))))
  (pss_one (ps_ret (pe_tup (pa_cons (pe_glob (v := .int 3) rfl T.c_NODE_TAG_maps.choose_spec ⟨_, rfl⟩) (pa_cons (pe_tup (pa_cons (pe_callB (kq_lenA (K := K)) (by rfl) T.z_len (by decide +kernel) (pa_cons (pv 3) pa_nil)) (pa_cons (pv 5) (pa_cons (pe_callB (kq_lenA (K := K)) (by rfl) T.z_len (by decide +kernel) (pa_cons (pv 4) pa_nil)) (pa_cons (pv 6) pa_nil))))) pa_nil)))))))))), fn_g h fun x p => ?_⟩)
  change DS K _ (Wp.E.d _ :: (Wp.E.d _ :: (Wp.E.d _ :: (Wp.E.any :: (Wp.E.any :: (Wp.E.any :: (Wp.E.any :: []))))))) _ _ _ _
  obtain ⟨wd, m, d⟩ := x
  obtain ⟨w4, w128, hd, h32, hl, hb⟩ := p
  dsimp only at w4 w128 hd h32 hl hb ⊢
  walk_at "d"
  refine ifd (fun h => ?_) (fun h => ?_)
  · walk_at "d"
    have : m = [] := List.length_eq_zero_iff.mp (by omega)
    subst this
    rw [nodM_end (.inl (by simp))]
    rfl
  walk_at "d"
  refine dc_g (m, d) rfl h32 ?_
  walk_at "D"
  refine ifd (fun h2 => ?_) (fun h2 => ?_)
  · walk_at "d"
    obtain ⟨p, r, rfl⟩ : ∃ p r, m = p :: r := by cases m with | nil => exact absurd rfl h | cons p r => exact ⟨p, r, rfl⟩
    refine ⟨_, atI_map (k := 0) (x := p) rfl, ?_⟩
    walk_at "d"
    rw [nodM_end h2]
    rfl
  obtain ⟨d, rfl⟩ : ∃ k, d = k + 1 := ⟨d - 1, by omega⟩
  walk_at "d"
  rw [show (32 - ((d + 1 : Nat) : Int)) = 31 - (d : Int) by omega]
  refine dc_g (m, d) rfl ⟨by show d ≤ 31; omega, by show m.length ≤ 100000; omega⟩ ?_
  walk_at "D"
  have eL := inL_len d m
  have eR := inR_len d m
  rw [show (31 - (d : Int) + 1) = 32 - (d : Int) by omega]
  refine dc_g (wd, inL d m, d) rfl ⟨w4, w128, by show d < n; omega, by show d ≤ 32; omega, by show (inL d m).length ≤ 1000; omega, fun p hp => hb p (inL_sub hp)⟩ ?_
  walk_at "D"
  rw [show (31 - (d : Int) + 1) = 32 - (d : Int) by omega]
  refine dc_g (wd, inR d m, d) rfl ⟨w4, w128, by show d < n; omega, by show d ≤ 32; omega, by show (inR d m).length ≤ 1000; omega, fun p hp => hb p (inR_sub hp)⟩ ?_
  walk_at "D"
  rw [nodM_in (by omega)]
  rfl
theorem ok_nx (T : Txt K mg) : ∀ n : Nat, FnOk P w K mg base CX0 (29 + 2 * n + 1 + 1) (He.fAd K ("node_digest", none)) T.fd_node_digest ["hasher", "entries", "depth"] (sp_nd K n)
  | 0 => ok_void fun x p => absurd p.2.2.1 (Nat.not_lt_zero _)
  | n + 1 => ok_nd_step T (n + 1) (ok_ni_step T n (ok_nx T n))
def sp_node_digest (K : PySem.W.Frag) : Sp := sp_nd K 33
def sp_node_input (K : PySem.W.Frag) : Sp := sp_ni K 33
theorem ok_node_digest (T : Txt K mg) : FnOk P w K mg base CX0 (98) (He.fAd K ("node_digest", none)) T.fd_node_digest ["hasher", "entries", "depth"] (sp_node_digest K) := (ok_nx T 33).mono (by omega)
theorem ok_node_input (T : Txt K mg) : FnOk P w K mg base CX0 (97) (He.fAd K ("node_input", none)) T.fd_node_input ["hasher", "entries", "depth"] (sp_node_input K) := (ok_ni_step T 32 (ok_nx T 32)).mono (by omega)
theorem items_I (m : Mp) : (mI m).map Wp.pairD = m.map pT := by unfold mI mM; rw [List.map_map]; rfl
def sp_map_root (K : PySem.W.Frag) : Sp := spG K (fun x : Int × Mp => [Hs K x.1, .dc (mI x.2)]) (fun x => 4 ≤ x.1 ∧ x.1 ≤ 128 ∧ x.2.length ≤ 1000 ∧ ∀ p ∈ x.2, EnB p) fun x => .int (digM x.1 32 x.2)
theorem ok_map_root (T : Txt K mg) : FnOk P w K mg base CX0 (99) (He.fAd K ("map_root", none)) T.fd_map_root ["hasher", "pairs"] (sp_map_root K) := by
  refine T.map_root.F.ok sc_map_root (fun vs H Q E h => len_g h fun _ => rfl) (fun cdv A outer s H vs Q E hr h => ⟨_, PSs.nox (pss_one (ps_ret (pe_call (ok_node_digest T) (hr.mono (by omega)) (by rfl) T.node_digest.g T.node_digest.F.kp T.node_digest.b .nil pass0 (pa_cons (pv 0) (pa_cons (pe_listItemsR (pv 1) (by rfl) T.z_list) (pa_cons pe_int pa_nil)))))), fn_g h fun x p => ?_⟩)
  change DS K _ (Wp.E.d _ :: (Wp.E.d _ :: [])) _ _ _ _
  obtain ⟨wd, m⟩ := x
  obtain ⟨w4, w128, hl, hb⟩ := p
  dsimp only at w4 w128 hl hb ⊢
  walk_at "d"
  refine de_new (dn_items ?_)
  walk_at "d"
  rw [items_I]
  walk_at "d"
  refine dc_g (wd, m, 32) rfl ⟨w4, w128, by show 32 < 33; omega, by show 32 ≤ 32; omega, hl, hb⟩ ?_
  walk_at "d"
  rfl

end
section
local macro_rules | `(tactic| walk_at "dr") => `(tactic| first | exact fun _ => .int _ | exact fun _ => .bl _ | exact fun _ => .str _ | exact fun _ => .non)
local macro_rules | `(tactic| walk_at "sz") => `(tactic| first | exact Nat.le_of_ble_eq_true rfl | (simp only [List.length_append, List.length_map, List.length_range, List.length_cons, List.length_nil, List.length_reverse]; exact sz6 (by omega)))
local macro_rules | `(tactic| walk_at "le") => `(tactic| ((repeat first | exact EnvLe.nil | with_reducible refine EnvLe.any ?_ | with_reducible refine EnvLe.same ?_ | refine EnvLe.sameE ?_ ?_); all_goals first | done | rfl | (simp; done) | (simp [List.map_append]; done) | skip))
local macro_rules | `(tactic| walk_at "d1") => `(tactic| first
  | with_reducible refine iteT ?_
  | with_reducible refine iteF ?_
  | with_reducible refine ifNT ?_
  | with_reducible refine ifNF ?_
  | with_reducible refine ds_seq ?_
  | refine ds_store ?_
  | ((with_reducible refine ds_own (dn_lst ?_)))
  | ((with_reducible refine ds_asg ?_))
  | ((with_reducible refine' dg_name ?fcc ?rcc ?_); (case fcc => rfl); (case rcc => first | (dsimp only [List.set]; done) | (dsimp only [List.set]; exact rfl)))
  | ((with_reducible refine' dg_tup ?lcc ?_); (case lcc => rfl))
  | ((with_reducible refine' dg_sqT ?lcc ?_); (case lcc => rfl))
  | ((with_reducible refine' dg_sqL ?lcc ?_); (case lcc => rfl))
  | with_reducible refine dgs_cons ?_
  | with_reducible refine dgs_nil ?_
  | ((with_reducible refine' set_to ?rcc ?_); (case rcc => first | (dsimp only [List.set]; done) | (dsimp only [List.set]; exact rfl)))
  | ((with_reducible refine' sz_ ?scc ?_); (case scc => walk_at "sz"))
  | ((with_reducible refine ds_aug ?_); refine ⟨_, rfl, ?_⟩)
  | with_reducible refine ds_next ?_
  | with_reducible refine ds_brk ?_
  | with_reducible refine ds_cont ?_
  | ((refine ds_retO ?_); refine ⟨_, rfl, ?_⟩)
  | with_reducible refine ds_ret ?_
  | with_reducible refine ds_retN ?_
  | ((refine ds_append ?_); refine ⟨_, rfl, ?_⟩)
  | ((refine ds_extend ?_); refine ⟨_, rfl, ?_⟩)
  | with_reducible refine ds_drop ?_
  | with_reducible refine ds_if ?_
  | with_reducible refine dt_test ?_
  | with_reducible refine dt_B ?_
  | with_reducible refine dt_and ?_
  | with_reducible refine dt_or ?_
  | with_reducible refine dt_not ?_
  | with_reducible refine dt_yes ?_
  | ((with_reducible refine de_var ?_); refine ⟨_, rfl, rfl, ?_⟩)
  | with_reducible refine de_cI ?_
  | with_reducible refine de_cB ?_
  | with_reducible refine de_cS ?_
  | with_reducible refine de_cN ?_
  | with_reducible refine de_op ?_
  | with_reducible refine de_un ?_
  | with_reducible refine de_chain ?_
  | ((with_reducible refine' dr_I0 ?dcc ?_); (case dcc => walk_at "dr"))
  | ((with_reducible refine' dr_I ?ccc ?dcc ?_); (case dcc => walk_at "dr"); (case ccc => walk_at "c"))
  | ((with_reducible refine' du_U ?dcc ?_); (case dcc => walk_at "dr"))
  | with_reducible refine dr_eqI ?_
  | with_reducible refine dr_neI ?_
  | with_reducible refine dr_eqS ?_
  | with_reducible refine dr_neS ?_
  | with_reducible refine dr_eqB ?_
  | with_reducible refine dr_neB ?_
  | with_reducible refine dr_isB ?_
  | with_reducible refine dr_notB ?_
  | with_reducible refine dr_isN ?_
  | with_reducible refine dr_notN ?_
  | with_reducible refine be ?_
  | with_reducible refine ie ?_
  | with_reducible refine dd ?_
  | with_reducible refine da_nil ?_
  | with_reducible refine da_cons ?_
  | with_reducible refine da_star ?_
  | with_reducible refine se_tup ?_
  | with_reducible refine se_lst ?_
  | with_reducible refine se_own ?_
  | with_reducible refine de_meth ?_
  | ((with_reducible refine' me ?ncc ?_); (case ncc => decide +kernel))
  | with_reducible refine de_fld ?_
  | ((with_reducible refine' fe ?ccc ?ncc ?lcc ?_); (case ccc => assumption); (case ncc => assumption); (case lcc => rfl))
  | with_reducible refine de_lst ?_
  | with_reducible refine de_tup ?_
  | ((with_reducible refine de_lenO ?_); refine ⟨_, rfl, ?_⟩)
  | with_reducible refine de_len ?_
  | with_reducible refine len_lM ?_
  | with_reducible refine len_tM ?_
  | with_reducible refine len_oM ?_
  | with_reducible refine len_dM ?_
  | with_reducible refine len_mM ?_
  | with_reducible refine len_l ?_
  | with_reducible refine len_t ?_
  | with_reducible refine len_o ?_
  | with_reducible refine len_d ?_
  | with_reducible refine len_m ?_
  | with_reducible refine sq_l ?_
  | with_reducible refine sq_t ?_
  | with_reducible refine ls_dM ?_
  | with_reducible refine ls_mM ?_
  | with_reducible refine ls_l ?_
  | with_reducible refine ls_t ?_
  | with_reducible refine ls_o ?_
  | with_reducible refine ls_d ?_
  | with_reducible refine ls_m ?_
  | with_reducible refine de_rev ?_
  | with_reducible refine rv_lM ?_
  | with_reducible refine rv_oM ?_
  | with_reducible refine rv_tM ?_
  | with_reducible refine rv_l ?_
  | with_reducible refine rv_o ?_
  | with_reducible refine rv_t ?_
  | with_reducible refine dt_tru ?_
  | with_reducible refine tr_n ?_
  | with_reducible refine tr_b ?_
  | with_reducible refine tr_i ?_
  | with_reducible refine tr_lM ?_
  | with_reducible refine tr_tM ?_
  | with_reducible refine tr_l ?_
  | with_reducible refine tr_t ?_
  | with_reducible refine de_dget ?_
  | with_reducible refine de_din ?_
  | with_reducible refine de_dnotin ?_
  | with_reducible refine de_dget1 ?_
  | with_reducible refine de_dget2 ?_
  | with_reducible refine dce_d ?_
  | with_reducible refine dce_o ?_
  | with_reducible refine kye_i ?_
  | with_reducible refine kye_s ?_
  | with_reducible refine ds_dput ?_
  | ((refine ds_dpop ?_); refine ⟨_, rfl, ?_⟩)
  | ((refine ds_popO ?_))
  | ((refine ds_retD ?_); refine ⟨_, _, rfl, ?_⟩)
  | with_reducible refine di_sq' ?_
  | with_reducible refine di_rng1 ?_
  | with_reducible refine di_rng2 ?_
  | with_reducible refine di_rng3 ?_
  | with_reducible refine di_rev1 ?_
  | with_reducible refine di_enumA ?_
  | with_reducible refine di_zip ?_
  | with_reducible refine dn_list ?_
  | with_reducible refine dn_items ?_
  | with_reducible refine dr_addI ?_
  | ((with_reducible refine' dr_addL ?scc ?_); (case scc => walk_at "sz"))
  | ((with_reducible refine' dr_addT ?scc ?_); (case scc => walk_at "sz"))
  | with_reducible refine dr_eqBI ?_
  | with_reducible refine dr_neBI ?_
  | with_reducible refine dr_eqBS ?_
  | with_reducible refine dr_neBS ?_
  | with_reducible refine dr_eqBB ?_
  | with_reducible refine dr_neBB ?_
  | with_reducible refine dr_eqBdd ?_
  | with_reducible refine dr_neBdd ?_
  | ((with_reducible refine dr_ixSO ?_); (try refine ⟨_, rfl, ?_⟩))
  | with_reducible refine dsl_SO ?_
  | ((with_reducible refine de_isTup ?_))
  | ((with_reducible refine de_isLst ?_))
  | with_reducible refine de_cb ?_
  | with_reducible refine de_bits ?_
  | refine de_callS (by exact rfl) (by exact rfl) ?_
  | with_reducible refine de_call ?_
  | with_reducible refine de_andV ?_
  | with_reducible refine de_orV ?_
  | with_reducible refine de_notV ?_
  | with_reducible refine de_if ?_
  | with_reducible refine db_lenM ?_
  | with_reducible refine db_lenMT ?_
  | with_reducible refine db_lenL ?_
  | with_reducible refine db_lenT ?_
  | with_reducible refine db_int ?_
  | with_reducible refine db_intB ?_
  | with_reducible refine db_max ?_
  | with_reducible refine db_min ?_
  | with_reducible refine db_listL ?_
  | with_reducible refine db_listT ?_
  | with_reducible refine db_tupL ?_
  | with_reducible refine db_tupT ?_
  | with_reducible refine db_sum ?_
  | with_reducible refine db_all ?_
  | with_reducible refine db_any ?_
  | with_reducible refine de_sl ?_
  | with_reducible refine do_none ?_
  | with_reducible refine do_some ?_
  | with_reducible refine dsl_L ?_
  | with_reducible refine dsl_O ?_
  | with_reducible refine dsl_A ?_
  | with_reducible refine dsl_SL ?_
  | with_reducible refine dsl_ST ?_
  | ((with_reducible refine dr_ixL ?_); (try refine ⟨_, rfl, ?_⟩))
  | ((with_reducible refine dr_ixO ?_); (try refine ⟨_, rfl, ?_⟩))
  | ((with_reducible refine dr_ixT ?_); (try refine ⟨_, rfl, ?_⟩))
  | ((with_reducible refine dr_ixSL ?_); (try refine ⟨_, rfl, ?_⟩))
  | ((with_reducible refine dr_ixST ?_); (try refine ⟨_, rfl, ?_⟩))
  | with_reducible refine dr_eqLI ?_
  | with_reducible refine dr_neLI ?_
  | with_reducible refine dr_eqTI ?_
  | with_reducible refine dr_neTI ?_)
local macro_rules | `(tactic| walk_at "d") => `(tactic| repeat walk_at "d1")
local macro_rules | `(tactic| walk_at "D") => `(tactic| ((try dsimp only); walk_at "d"))

section
variable {P : Program} {w : World} {K : PySem.W.Frag} {mg : Str → Option Value} {base : Heap}
theorem ds_thru {K : PySem.W.Frag} {ρ : List Wp.E} {ts : TS} {N B C : List Wp.E → Prop} {R : D → Prop} (h : DS K ts ρ N B C R) : DS K (Wp.tCut ts) ρ N B C R := fun U σ L G Dn o n b c r H j => ⟨Dn.nx, fun _ _ z => z, h U σ L G Dn o n b c r H j⟩
theorem ite_t {p : Prop} {i : Decidable p} {A B : Prop} (h : p) (a : A) : @ite Prop p i A B := by rw [if_pos h]; exact a
theorem ite_f {p : Prop} {i : Decidable p} {A B : Prop} (h : ¬ p) (b : B) : @ite Prop p i A B := by rw [if_neg h]; exact b
def vD : Option Int → D
  | none => .non
  | some v => .int v
def sD : Option Str → D
  | none => .non
  | some x => .str x

section
/-! ### lists: what they are -/
def lft (n : Nat) : Nat := 2 ^ (n - 1).log2
theorem lft_pos (n : Nat) : 0 < lft n := Nat.pow_pos (by decide)
theorem lft_lt {n : Nat} (h : 2 ≤ n) : lft n < n := by
  have := Nat.log2_self_le (n := n - 1) (by omega)
  unfold lft; omega
theorem lft_ge {n : Nat} (h : 2 ≤ n) : n ≤ 2 * lft n := by
  have := Nat.lt_log2_self (n := n - 1)
  rw [Nat.pow_succ] at this
  unfold lft; omega
theorem lft_uniq {n j : Nat} (h1 : 2 ^ j < n) (h2 : n ≤ 2 * 2 ^ j) : 2 ^ j = lft n := by
  unfold lft
  congr 1
  exact ((Nat.log2_eq_iff (by have := Nat.pow_pos (a := 2) (n := j) (by decide); omega)).mpr ⟨by omega, by rw [Nat.pow_succ]; omega⟩).symm
theorem bits_pos {n : Nat} (h : 1 ≤ n) : Builtin.Int.intBits (n : Int) = n.log2 + 1 := by
  unfold Builtin.Int.intBits
  rw [if_neg (show ¬ ((n : Int) == 0) = true by simp; omega)]
  rfl
def rootN (wd : Int) (xs : List Int) : Int := if h : xs.length < 2 then dgst wd 0 xs else dgst wd 1 [(xs.length : Int), rootN wd (xs.take (lft xs.length)), rootN wd (xs.drop (lft xs.length))]
termination_by xs.length
decreasing_by
  · rw [List.length_take]; have := lft_lt (n := xs.length) (by omega); omega
  · rw [List.length_drop]; have := lft_pos xs.length; omega
theorem rootN_lt {wd : Int} {xs : List Int} (h : xs.length < 2) : rootN wd xs = dgst wd 0 xs := by rw [rootN, dif_pos h]
theorem rootN_ge {wd : Int} {xs : List Int} (h : ¬ xs.length < 2) : rootN wd xs = dgst wd 1 [(xs.length : Int), rootN wd (xs.take (lft xs.length)), rootN wd (xs.drop (lft xs.length))] := by rw [rootN, dif_neg h]
def wayN (wd : Int) (xs : List Int) (k : Nat) : List Int := if h : xs.length < 2 then [] else if k < lft xs.length then wayN wd (xs.take (lft xs.length)) k ++ [rootN wd (xs.drop (lft xs.length))] else wayN wd (xs.drop (lft xs.length)) (k - lft xs.length) ++ [rootN wd (xs.take (lft xs.length))]
termination_by xs.length
decreasing_by
  · rw [List.length_take]; have := lft_lt (n := xs.length) (by omega); omega
  · rw [List.length_drop]; have := lft_pos xs.length; omega
def stepsN (s k : Nat) : List (Nat × Bool) := if h : s < 2 then [] else if k < lft s then (s, true) :: stepsN (lft s) k else (s, false) :: stepsN (s - lft s) (k - lft s)
termination_by s
decreasing_by
  · exact lft_lt (by omega)
  · have := lft_pos s; omega
theorem rootN_rng {wd : Int} (h4 : 4 ≤ wd) (h : wd ≤ 128) (xs : List Int) : 0 ≤ rootN wd xs ∧ rootN wd xs < 2 ^ wd.toNat := by
  rw [rootN]; split <;> exact dgst_rng h4 h _ _
theorem bd_root {wd : Int} (h4 : 4 ≤ wd) (h : wd ≤ 128) (xs : List Int) : Bd (rootN wd xs) := bd_rng (rootN_rng h4 h xs).1 (rootN_rng h4 h xs).2 (by omega)
def numsN (b p : Int) (st : Nat × Bool) : List Int := if st.2 then [(st.1 : Int), b, p] else [(st.1 : Int), p, b]
/-- the digest behind so many steps from below -/
def botN (wd : Int) (W : List (Nat × Bool)) (P : List Int) (e : Int) : Nat → Int
  | 0 => e
  | i + 1 => dgst wd 1 (numsN (botN wd W P e i) (P.getD i 0) (W.getD i (0, true)))
def upN (wd : Int) (W : List (Nat × Bool)) (P : List Int) (e : Int) (n : Nat) : List (Int × List Int) := (List.range n).map fun i => (1, numsN (botN wd W P e i) (P.getD i 0) (W.getD i (0, true)))
theorem upN_succ (wd : Int) (W : List (Nat × Bool)) (P : List Int) (e : Int) (n : Nat) : upN wd W P e (n + 1) = upN wd W P e n ++ [(1, numsN (botN wd W P e n) (P.getD n 0) (W.getD n (0, true)))] := by
  unfold upN; rw [List.range_succ, List.map_append]; rfl
theorem upN_len (wd : Int) (W : List (Nat × Bool)) (P : List Int) (e : Int) (n : Nat) : (upN wd W P e n).length = n := by unfold upN; simp
theorem bot_bd {wd : Int} (h4 : 4 ≤ wd) (h : wd ≤ 128) {W : List (Nat × Bool)} {P : List Int} {e : Int} (he : Bd e) : ∀ i, Bd (botN wd W P e i)
  | 0 => he
  | i + 1 => bd_dgst h4 h _ _
theorem nums_bd {s : Nat} {b p : Int} {l : Bool} (hs : s ≤ 1000) (hb : Bd b) (hp : Bd p) : (limbs (numsN b p (s, l))).length ≤ 99000 := by
  have h3 : Bd (s : Int) := bd_small (by omega) (by omega)
  refine limbs_bd ?_ ?_
  · unfold numsN; cases l <;> simp
  · unfold numsN
    cases l
    all_goals
      intro n hn
      simp at hn
      rcases hn with rfl | rfl | rfl <;> assumption
/-! ### lists: the program -/
abbrev stD (st : Nat × Bool) : D := .tup [.int (st.1 : Int), .bl st.2]
def sp_left_size (K : PySem.W.Frag) : Sp := spG K (fun n : Nat => [.int (n : Int)]) (fun n => 2 ≤ n ∧ n ≤ 1000) fun n => .int (lft n)
theorem ok_left_size (T : Txt K mg) : FnOk P w K mg base CX0 (1) (He.fAd K ("left_size", none)) T.fd_left_size ["size"] (sp_left_size K) := by
  refine T.left_size.F.ok sc_left_size (fun vs H Q E h => len_g h fun _ => rfl) (fun cdv A outer s H vs Q E hr h => ⟨_, PSs.nox (pss_one (ps_ret (pe_op op_shl pe_int (pe_op op_sub (pe_bits (pe_op op_sub (pv 0) pe_int)) pe_int)))), fn_g h fun x p => ?_⟩)
  change DS K _ (Wp.E.d _ :: []) _ _ _ _
  obtain ⟨h1, h2⟩ := p
  have hb : Builtin.Int.intBits ((x : Int) - 1) = (x - 1).log2 + 1 := by
    rw [show (x : Int) - 1 = ((x - 1 : Nat) : Int) by omega]; exact bits_pos (by omega)
  have hl : (x - 1).log2 < 10 := (Nat.log2_lt (by omega)).mpr (by omega)
  walk_at "d"
  rw [hb]
  have e1 : (((x - 1).log2 + 1 : Nat) : Int) - 1 = ((x - 1).log2 : Int) := by omega
  rw [e1, Int.toNat_natCast, Int.one_mul]
  show D.int (2 ^ (x - 1).log2) = D.int ((lft x : Nat) : Int)
  unfold lft
  rw [PySem.W.kbt_cast]
/-- items that a list may have -/
theorem itm_root {wd : Int} (h4 : 4 ≤ wd) (h : wd ≤ 128) (xs : List Int) : Itm (rootN wd xs) := ⟨(rootN_rng h4 h xs).1, bd_root h4 h xs⟩
theorem itm_small {n : Int} (h0 : 0 ≤ n) (h : n ≤ 1000000) : Itm n := ⟨h0, bd_small (by omega) h⟩
def sp_lr (K : PySem.W.Frag) (n : Nat) : Sp := spG K (fun x : Int × Bool × List Int => [Hs K x.1, sqD x.2.1 x.2.2]) (fun x => 4 ≤ x.1 ∧ x.1 ≤ 128 ∧ x.2.2.length < n ∧ x.2.2.length ≤ 100 ∧ ∀ y ∈ x.2.2, Itm y) fun x => .int (rootN x.1 x.2.2)
theorem ok_lr_step (T : Txt K mg) (n : Nat) (IH : FnOk P w K mg base CX0 (6 + n) (He.fAd K ("list_root", none)) T.fd_list_root ["hasher", "items"] (sp_lr K n)) : FnOk P w K mg base CX0 (6 + n + 1) (He.fAd K ("list_root", none)) T.fd_list_root ["hasher", "items"] (sp_lr K (n + 1)) := by
  refine T.list_root.F.ok sc_list_root (fun vs H Q E h => len_g h fun _ => rfl) (fun cdv A outer s H vs Q E hr h => ⟨_, PSs.nox (pss_cons (ps_set (i := 2) sc_list_root.nd rfl (Or.inl rfl) (pe_callB (kq_lenA (K := K)) (by rfl) T.z_len (by decide +kernel) (pa_cons (pv 1) pa_nil)))
  (pss_cons (ps_if (pt_cmpR (op_lt) (pv 2) pe_int (nomark _)) (pss_one (ps_ret (pe_meth (pv 0) T.cl_Hasher T.me_Hasher_digest (ok_Hasher_digest T) (hr.mono (by omega)) T.Hasher_digest.b .nil pass0 (pa_cons (pe_glob (v := .int 0) rfl T.c_LEAF_TAG_lists.choose_spec ⟨_, rfl⟩) (pa_cons (pv 1) pa_nil))))) pss_nil)
  (pss_cons (ps_set (i := 3) sc_list_root.nd rfl (Or.inl rfl) (pe_call (ok_left_size T) (hr.mono (by omega)) (by rfl) T.left_size.g T.left_size.F.kp T.left_size.b .nil pass0 (pa_cons (pv 2) pa_nil)))
  (pss_one (ps_ret (pe_meth (pv 0) T.cl_Hasher T.me_Hasher_digest (ok_Hasher_digest T) (hr.mono (by omega)) T.Hasher_digest.b .nil pass0 (pa_cons (pe_glob (v := .int 1) rfl T.c_NODE_TAG_lists.choose_spec ⟨_, rfl⟩) (pa_cons (pe_lst (pa_cons (pv 2) (pa_cons (pe_call IH (hr.mono (by omega)) (by rfl) T.list_root.g T.list_root.F.kp T.list_root.b .nil pass0 (pa_cons (pv 0) (pa_cons (pe_slice (kl_seq (K := K)) (pv 1) po_none (po_some (pv 3))) pa_nil))) (pa_cons (pe_call IH (hr.mono (by omega)) (by rfl) T.list_root.g T.list_root.F.kp T.list_root.b .nil pass0 (pa_cons (pv 0) (pa_cons (pe_slice (kl_seq (K := K)) (pv 1) (po_some (pv 3)) po_none) pa_nil))) pa_nil)))) pa_nil)))))))), fn_g h fun x p => ?_⟩)
  change DS K _ (Wp.E.d _ :: (Wp.E.d _ :: (Wp.E.any :: (Wp.E.any :: [])))) _ _ _ _
  obtain ⟨wd, b, xs⟩ := x
  obtain ⟨w4, w128, hn, hl, hi⟩ := p
  dsimp only at w4 w128 hn hl hi ⊢
  cases b
  · dsimp only [sqD]
    walk_at "d"
    refine ifd (fun h => ?_) (fun h => ?_)
    · walk_at "d"
      refine dc_digest xs (.inl rfl) (by omega) w128 (itms_bd (by omega) hi) ?_
      walk_at "d"
      rw [rootN_lt (by omega)]
    · walk_at "d"
      have h2 : 2 ≤ xs.length := by omega
      have hlt := lft_lt h2
      have hlp := lft_pos xs.length
      refine dc_g xs.length rfl ⟨h2, by omega⟩ ?_
      walk_at "d"
      rw [cut_to (by omega)]
      refine dc_g (wd, false, xs.take (lft xs.length)) rfl ⟨w4, w128, by rw [List.length_take]; omega, by rw [List.length_take]; omega, itms_take hi⟩ ?_
      walk_at "d"
      rw [cut_from (by omega)]
      refine dc_g (wd, false, xs.drop (lft xs.length)) rfl ⟨w4, w128, by rw [List.length_drop]; omega, by rw [List.length_drop]; omega, itms_drop hi⟩ ?_
      walk_at "d"
      refine dc_digest [(xs.length : Int), rootN wd (xs.take (lft xs.length)), rootN wd (xs.drop (lft xs.length))] (.inl rfl) (by omega) w128 (itms_bd (by show 3 ≤ 120; decide) (itms3 (itm_nat (by omega)) (itm_root w4 w128 _) (itm_root w4 w128 _))) ?_
      walk_at "d"
      rw [← rootN_ge (by omega)]
  · dsimp only [sqD]
    walk_at "d"
    refine ifd (fun h => ?_) (fun h => ?_)
    · walk_at "d"
      refine dc_digest xs (.inr rfl) (by omega) w128 (itms_bd (by omega) hi) ?_
      walk_at "d"
      rw [rootN_lt (by omega)]
    · walk_at "d"
      have h2 : 2 ≤ xs.length := by omega
      have hlt := lft_lt h2
      have hlp := lft_pos xs.length
      refine dc_g xs.length rfl ⟨h2, by omega⟩ ?_
      walk_at "d"
      rw [cut_to (by omega)]
      refine dc_g (wd, true, xs.take (lft xs.length)) rfl ⟨w4, w128, by rw [List.length_take]; omega, by rw [List.length_take]; omega, itms_take hi⟩ ?_
      walk_at "d"
      rw [cut_from (by omega)]
      refine dc_g (wd, true, xs.drop (lft xs.length)) rfl ⟨w4, w128, by rw [List.length_drop]; omega, by rw [List.length_drop]; omega, itms_drop hi⟩ ?_
      walk_at "d"
      refine dc_digest [(xs.length : Int), rootN wd (xs.take (lft xs.length)), rootN wd (xs.drop (lft xs.length))] (.inl rfl) (by omega) w128 (itms_bd (by show 3 ≤ 120; decide) (itms3 (itm_nat (by omega)) (itm_root w4 w128 _) (itm_root w4 w128 _))) ?_
      walk_at "d"
      rw [← rootN_ge (by omega)]
theorem ok_lr (T : Txt K mg) : ∀ n : Nat, FnOk P w K mg base CX0 (6 + n) (He.fAd K ("list_root", none)) T.fd_list_root ["hasher", "items"] (sp_lr K n)
  | 0 => ok_void fun x p => absurd p.2.2.1 (Nat.not_lt_zero _)
  | n + 1 => ok_lr_step T n (ok_lr T n)
def sp_list_root (K : PySem.W.Frag) : Sp := sp_lr K 34
theorem ok_list_root (T : Txt K mg) : FnOk P w K mg base CX0 (40) (He.fAd K ("list_root", none)) T.fd_list_root ["hasher", "items"] (sp_list_root K) := ok_lr T 34

end
end
section
variable {P : Program} {w : World} {K : PySem.W.Frag} {mg : Str → Option Value} {base : Heap}
section
def KeyB (k : Int) : Prop := 0 ≤ k ∧ k < 2 ^ 32
instance (k : Int) : Decidable (KeyB k) := inferInstanceAs (Decidable (_ ∧ _))
theorem items_pT (m : Mp) : m.map pT = (mI m).map Wp.pairD := by unfold mI mM; rw [List.map_map]; rfl
theorem merge_I {m : Mp} (h : (m.map (·.1)).Nodup) : mergeP [] (mI m) = mI m := by
  rw [mergeP_new]
  · rfl
  · rw [List.nil_append]; exact mM_nodup.mpr h
theorem de_dictI {K : PySem.W.Frag} {ρ : List E} {te : TE} {Q : E → Prop} (h : DN K te ρ fun ds => ∃ m : Mp, ds = m.map pT ∧ (m.map (·.1)).Nodup ∧ Q (.d (.dc (mI m)))) : DE K (tCB (rDictA K) (tCons te tNil)) ρ Q :=
  de_newD (dn_dictP (de_new fun U σ L G o => (h U σ L G o).w fun v G' ⟨p, vs, ds, G1, ev, e1, np, e2, gp, k, m, em, nd, q⟩ => ⟨p, vs, ds, G1, ev, e1, np, e2, gp, k, mI m, .inl (by rw [em, items_pT]), by rw [merge_I nd]; exact q⟩))
theorem de_sortDI {K : PySem.W.Frag} {ρ : List Wp.E} {te : TE} {Q : Wp.E → Prop} (h : DE K te ρ fun x => ∃ m : Mp, (x = .d (.dc (mI m)) ∨ x = .dm (mI m)) ∧ m.length < 64 ∧ Q (.d (lI (srt (m.map (·.1)))))) : DE K (tCB (rSortA K) (tCons te tNil)) ρ Q := de_new (dn_sortD h)
theorem ds_retM {K : PySem.W.Frag} {ρ : List Wp.E} {N B C : List Wp.E → Prop} {R : D → Prop} {i : Nat} (h : ∃ m, ρ[i]? = some (.dm m) ∧ R (.dc m)) : DS K (tRet (tVar i)) ρ N B C R := ds_retD (h.elim fun m ⟨a, b⟩ => ⟨_, _, a, b⟩)
theorem put_I {m : Mp} {k v : Int} : putP (mI m) (.inl k) (.int v) = mI (putP m k v) := put_mM
theorem putP_len {m : Mp} {k v : Int} : (putP m k v).length ≤ m.length + 1 := by
  have := congrArg List.length (putP_keys (m := m) (k := k) (v := v))
  rw [List.length_map] at this
  rw [this]
  split <;> simp
theorem mem_putP {m : Mp} {k v : Int} {p : Int × Int} (h : p ∈ putP m k v) : p = (k, v) ∨ p ∈ m := by
  unfold putP at h
  split at h
  · obtain ⟨q, hq, e⟩ := List.mem_map.mp h
    split at e
    · rename_i z; left; rw [← e, z]
    · right; rw [← e]; exact hq
  · rcases List.mem_append.mp h with h | h
    · exact .inr h
    · left; simpa using h
theorem pow_lt32 {n : Int} (h0 : 0 ≤ n) (h : n < 32) : 0 ≤ (1 : Int) * 2 ^ n.toNat ∧ (1 : Int) * 2 ^ n.toNat < 2 ^ 32 := by
  rw [Int.one_mul, ← PySem.W.kbt_cast, ← PySem.W.kbt_cast]
  exact ⟨Int.natCast_nonneg _, Int.ofNat_lt.mpr (Nat.pow_lt_pow_right (by decide) (by omega))⟩
def PaB (p : Int × Int) : Prop := KeyB p.1 ∧ 0 ≤ p.2 ∧ p.2 < 2 ^ 70
def MpB (m : Mp) (n : Nat) : Prop := (m.map (·.1)).Nodup ∧ m.length ≤ n ∧ ∀ p ∈ m, PaB p

end
section
/-! ### transfers -/
theorem ds_freezeM {K : PySem.W.Frag} {ρ ρ' : List Wp.E} {ts : TS} {N B C : List Wp.E → Prop} {R : D → Prop} (i : Nat) {m : List (Key × D)} (hi : ρ[i]? = some (.dm m)) (hr : ρ.set i (.d (.dc m)) = ρ') (h : DS K ts ρ' N B C R) : DS K ts ρ N B C R := ds_freezeD i hi hr h
local macro_rules | `(tactic| walk_at "d1") => `(tactic| with_reducible refine ds_thru ?_)
local macro_rules | `(tactic| walk_at "d1") => `(tactic| (refine ds_retM ?_; refine ⟨_, rfl, ?_⟩))
local macro_rules | `(tactic| walk_at "d1") => `(tactic| with_reducible refine ds_ownM (dn_copy ?_))
local macro_rules | `(tactic| walk_at "d1") => `(tactic| ((refine ds_dpop ?_); refine ⟨_, rfl, ?_⟩))
abbrev trT (t : Int × Int × Int) : D := .tup [.int t.1, .int t.2.1, .int t.2.2]
def pfM (t : Int × Int × Int) : Option Str := if ¬ KeyB t.1 ∨ ¬ KeyB t.2.1 then some (Str.ofString "key") else if t.1 = t.2.1 then some (Str.ofString "same") else if t.2.2 < 1 then some (Str.ofString "amount") else none
def tfM (m : Mp) (t : Int × Int × Int) : Option Str := match pfM t with
  | some x => some x
  | none => if (getP m t.1).getD 0 < t.2.2 then some (Str.ofString "balance") else none
theorem getD_I {m : Mp} {k d : Int} : (getP (mI m) (Sum.inl k)).getD (.int d) = .int ((getP m k).getD d) := by
  rw [show getP (mI m) (Sum.inl k) = (getP m k).map D.int from get_mM]; cases getP m k <;> rfl
def chsM (m : Mp) (cs : List (Int × Option Int)) : Mp := cs.foldl (fun m c => match c.2 with
  | none => dropP m c.1
  | some v => putP m c.1 v) m
abbrev chT (c : Int × Option Int) : D := .tup [.int c.1, vD c.2]
theorem drop_I {m : Mp} {k : Int} : dropP (mI m) (.inl k) = mI (dropP m k) := drop_mM
def sp_changed_map (K : PySem.W.Frag) : Sp := spG K (fun x : Mp × List (Int × Option Int) => [.dc (mI x.1), .lst (x.2.map chT)]) (fun x => x.1.length ≤ 100000 ∧ x.2.length ≤ 100000) fun x => .dc (mI (chsM x.1 x.2))
theorem ok_changed_map (T : Txt K mg) : FnOk P w K mg base CX0 (1) (He.fAd K ("changed_map", none)) T.fd_changed_map ["pairs", "changes"] (sp_changed_map K) := by
  refine T.changed_map.F.ok sc_changed_map (fun vs H Q E h => len_g h fun _ => rfl) (fun cdv A outer s H vs Q E hr h => ⟨_, PSs.nox (pss_cons (ps_set (i := 2) sc_changed_map.nd rfl (Or.inl rfl) (pe_callTy (kr_dict (K := K)) (by rfl) T.z_dict (by decide +kernel) (pa_cons (pv 0) pa_nil)))
  (pss_cons (ps_for PassesOwn.never rfl (ki_sq (K := K) (pv 1)) (kg_tup (K := K) (n := 2) rfl (pgs_cons (pg_name (i := 3) sc_changed_map.nd rfl (Or.inl rfl)) (pgs_cons (pg_name (i := 4) sc_changed_map.nd rfl (Or.inl rfl)) pgs_nil))) (pss_one (ps_if (pt_cmpR (op_isN1) (pv 4) pe_non (nomark _)) (pss_one (ps_expr (pe_dpop2 (pv 2) (pv 3) pe_non ⟨rfl, rfl, rfl, rfl⟩))) (pss_one (ps_dput (hu_of hr) (pv 2) (pv 3) (pv 4) rfl)))))
  (pss_one (ps_ret (pv 2))))), fn_g h fun x p => ?_⟩)
  change DS K _ (Wp.E.d _ :: (Wp.E.d _ :: (Wp.E.any :: (Wp.E.any :: (Wp.E.any :: []))))) _ _ _ _
  obtain ⟨m, cs⟩ := x
  obtain ⟨hm, hc⟩ := p
  dsimp only at hm hc ⊢
  walk_at "d"
  refine ds_for ?_
  walk_at "d"
  refine ⟨fun i ρ => ∃ m' e3 e4, m'.length ≤ 100000 + i ∧ chsM m' (cs.drop i) = chsM m cs ∧ ρ = [.d (.dc (mI m)), .d (.lst (cs.map chT)), .dm (mI m'), e3, e4], ⟨_, EnvLe.refl _, m, _, _, by omega, rfl, rfl⟩, ?_, ?_⟩
  · rintro i d ρ hi ⟨m', e3, e4, hl, he, rfl⟩
    rw [List.getElem?_map] at hi
    obtain ⟨c, hci, rfl⟩ := Option.map_eq_some_iff.mp hi
    have h1 := List.getElem?_eq_some_iff.mp hci
    rw [List.drop_eq_getElem_cons h1.1, h1.2] at he
    obtain ⟨k, ov⟩ := c
    have hil := h1.1
    cases ov with
    | none =>
      walk_at "d"
      rw [drop_I]
      have hdl : (dropP m' k).length ≤ m'.length := List.length_filter_le _ _
      exact ⟨_, EnvLe.refl _, dropP m' k, _, _, by omega, he, rfl⟩
    | some v =>
      walk_at "d"
      refine ite_f (show ¬ (vD (some v)).isN = true from Bool.false_ne_true) ?_
      dsimp only [vD]
      walk_at "d"
      refine ⟨_, rfl, ?_⟩
      walk_at "d"
      refine ⟨by rw [mM_len]; omega, ?_⟩
      walk_at "d"
      rw [put_I]
      have hpl := putP_len (m := m') (k := k) (v := v)
      exact ⟨_, EnvLe.refl _, putP m' k v, _, _, by omega, he, rfl⟩
  · rintro ρ ⟨m', e3, e4, hl, he, rfl⟩
    walk_at "d"
    rw [List.length_map, List.drop_length] at he
    rw [← he]
    rfl
def kbM (b : Int) : Option Int := if 0 < b then some b else none
def sp_kept_balance (K : PySem.W.Frag) : Sp := spG K (fun b : Int => [.int b]) (fun _ => True) fun b => vD (kbM b)
theorem ok_kept_balance (T : Txt K mg) : FnOk P w K mg base CX0 (1) (He.fAd K ("kept_balance", none)) T.fd_kept_balance ["balance"] (sp_kept_balance K) := by
  refine T.kept_balance.F.ok sc_kept_balance (fun vs H Q E h => len_g h fun _ => rfl) (fun cdv A outer s H vs Q E hr h => ⟨_, PSs.nox (pss_one (ps_ret (pe_ifExp (pt_cmpR (op_gt) (pv 0) pe_int (nomark _)) (pv 0) pe_non))), fn_g h fun x p => ?_⟩)
  change DS K _ (Wp.E.d _ :: []) _ _ _ _
  walk_at "d"
  unfold kbM
  refine ifd (fun h => ?_) (fun h => ?_)
  · rw [if_pos h]
    walk_at "d"
    rfl
  · rw [if_neg h]
    walk_at "d"
    rfl
def sentM (m : Mp) (t : Int × Int × Int) : Mp := chsM m [(t.1, kbM ((getP m t.1).getD 0 - t.2.2))]
def sp_sent (K : PySem.W.Frag) : Sp := spG K (fun x : Mp × Int × Int × Int => [.dc (mI x.1), trT x.2]) (fun x => x.1.length ≤ 1000 ∧ (getP x.1 x.2.1).isSome = true) fun x => .dc (mI (sentM x.1 x.2))
theorem ok_sent (T : Txt K mg) : FnOk P w K mg base CX0 (2) (He.fAd K ("sent", none)) T.fd_sent ["pairs", "transfer"] (sp_sent K) := by
  refine T.sent.F.ok sc_sent (fun vs H Q E h => len_g h fun _ => rfl) (fun cdv A outer s H vs Q E hr h => ⟨_, PSs.nox (pss_cons (ps_asg (pv 1) (kg_tup (K := K) (n := 3) rfl (pgs_cons (pg_name (i := 2) sc_sent.nd rfl (Or.inl rfl)) (pgs_cons (pg_name (i := 3) sc_sent.nd rfl (Or.inl rfl)) (pgs_cons (pg_name (i := 4) sc_sent.nd rfl (Or.inl rfl)) pgs_nil)))))
  (pss_one (ps_ret (pe_call (ok_changed_map T) (hr.mono (by omega)) (by rfl) T.changed_map.g T.changed_map.F.kp T.changed_map.b .nil pass0 (pa_cons (pv 0) (pa_cons (pe_lst (pa_cons (pe_tup (pa_cons (pv 2) (pa_cons (pe_call (ok_kept_balance T) (hr.mono (by omega)) (by rfl) T.kept_balance.g T.kept_balance.F.kp T.kept_balance.b .nil pass0 (pa_cons (pe_op op_sub (pe_dget (hu_of hr) (pv 0) (pv 2) (fun _ _ => rfl)) (pv 4)) pa_nil)) pa_nil))) pa_nil)) pa_nil)))))), fn_g h fun x p => ?_⟩)
  change DS K _ (Wp.E.d _ :: (Wp.E.d _ :: (Wp.E.any :: (Wp.E.any :: (Wp.E.any :: []))))) _ _ _ _
  obtain ⟨m, s, r, a⟩ := x
  obtain ⟨hl, hs⟩ := p
  dsimp only at hl hs ⊢
  obtain ⟨v, hv⟩ := Option.isSome_iff_exists.mp hs
  walk_at "d"
  refine get_some (v := v) hv ?_
  walk_at "d"
  refine dc_g (v - a) rfl trivial ?_
  walk_at "D"
  refine dc_g (m, [(s, kbM (v - a))]) rfl ⟨by show m.length ≤ 100000; omega, by show 1 ≤ 100000; decide⟩ ?_
  walk_at "D"
  unfold sentM
  dsimp only
  rw [hv]
  rfl
def movedM (m : Mp) (t : Int × Int × Int) : Mp := chsM (sentM m t) [(t.2.1, some ((getP m t.2.1).getD 0 + t.2.2))]
theorem chs1_len {m : Mp} {c : Int × Option Int} : (chsM m [c]).length ≤ m.length + 1 := by
  obtain ⟨k, ov⟩ := c
  cases ov with
  | none => exact Nat.le_trans (List.length_filter_le _ _) (by omega)
  | some v => exact putP_len
def sp_moved (K : PySem.W.Frag) : Sp := spG K (fun x : Mp × Int × Int × Int => [.dc (mI x.1), trT x.2]) (fun x => x.1.length ≤ 1000 ∧ (getP x.1 x.2.1).isSome = true) fun x => .dc (mI (movedM x.1 x.2))
theorem ok_moved (T : Txt K mg) : FnOk P w K mg base CX0 (3) (He.fAd K ("moved", none)) T.fd_moved ["pairs", "transfer"] (sp_moved K) := by
  refine T.moved.F.ok sc_moved (fun vs H Q E h => len_g h fun _ => rfl) (fun cdv A outer s H vs Q E hr h => ⟨_, PSs.nox (pss_cons (ps_asg (pv 1) (kg_tup (K := K) (n := 3) rfl (pgs_cons (pg_name (i := 2) sc_moved.nd rfl (Or.inl rfl)) (pgs_cons (pg_name (i := 3) sc_moved.nd rfl (Or.inl rfl)) (pgs_cons (pg_name (i := 4) sc_moved.nd rfl (Or.inl rfl)) pgs_nil)))))
  (pss_one (ps_ret (pe_call (ok_changed_map T) (hr.mono (by omega)) (by rfl) T.changed_map.g T.changed_map.F.kp T.changed_map.b .nil pass0 (pa_cons (pe_call (ok_sent T) (hr.mono (by omega)) (by rfl) T.sent.g T.sent.F.kp T.sent.b .nil pass0 (pa_cons (pv 0) (pa_cons (pv 1) pa_nil))) (pa_cons (pe_lst (pa_cons (pe_tup (pa_cons (pv 3) (pa_cons (pe_op (kp_addA (K := K)) (pe_dget2 (hu_of hr) (pv 0) (pv 3) pe_int ⟨rfl, rfl, rfl, rfl⟩) (pv 4)) pa_nil))) pa_nil)) pa_nil)))))), fn_g h fun x p => ?_⟩)
  change DS K _ (Wp.E.d _ :: (Wp.E.d _ :: (Wp.E.any :: (Wp.E.any :: (Wp.E.any :: []))))) _ _ _ _
  obtain ⟨m, s, r, a⟩ := x
  obtain ⟨hl, hs⟩ := p
  dsimp only at hl hs ⊢
  walk_at "d"
  refine dc_g (m, s, r, a) rfl ⟨hl, hs⟩ ?_
  walk_at "D"
  rw [getD_I]
  walk_at "d"
  have hsl : (sentM m (s, r, a)).length ≤ m.length + 1 := chs1_len
  refine dc_g (sentM m (s, r, a), [(r, some ((getP m r).getD 0 + a))]) rfl ⟨by show (sentM m (s, r, a)).length ≤ 100000; omega, by show 1 ≤ 100000; decide⟩ ?_
  walk_at "D"
  rfl
/-! a run -/
def runM : Mp → Nat → List (Int × Int × Int) → Sum (Nat × Str) Mp
  | m, _, [] => .inr m
  | m, i, t :: ts => match tfM m t with
    | some x => .inl (i, x)
    | none => runM (movedM m t) (i + 1) ts
theorem runM_some {m : Mp} {i : Nat} {t : Int × Int × Int} {ts : List (Int × Int × Int)} {x : Str} (h : tfM m t = some x) : runM m i (t :: ts) = .inl (i, x) := by rw [runM, h]
theorem runM_none {m : Mp} {i : Nat} {t : Int × Int × Int} {ts : List (Int × Int × Int)} (h : tfM m t = none) : runM m i (t :: ts) = runM (movedM m t) (i + 1) ts := by rw [runM, h]
def keyD (m : Mp) : Mp := (srt (m.map (·.1))).map fun k => (k, (getP m k).getD 0)
def runD : Sum (Nat × Str) Mp → D
  | .inl (i, x) => .tup [.str (Str.ofString "fault"), .int (i : Int), .str x]
  | .inr m => .tup [.str (Str.ofString "done"), .dc (mI (keyD m))]
theorem tf_some {m : Mp} {t : Int × Int × Int} (h : tfM m t = none) : (getP m t.1).isSome = true ∧ KeyB t.1 ∧ KeyB t.2.1 ∧ t.1 ≠ t.2.1 ∧ 1 ≤ t.2.2 ∧ t.2.2 ≤ (getP m t.1).getD 0 := by
  unfold tfM at h
  cases hp : pfM t with
  | some x => rw [hp] at h; cases h
  | none =>
    rw [hp] at h
    dsimp only at h
    unfold pfM at hp
    by_cases h1 : ¬ KeyB t.1 ∨ ¬ KeyB t.2.1
    · rw [if_pos h1] at hp; cases hp
    rw [if_neg h1] at hp
    by_cases h2 : t.1 = t.2.1
    · rw [if_pos h2] at hp; cases hp
    rw [if_neg h2] at hp
    by_cases h3 : t.2.2 < 1
    · rw [if_pos h3] at hp; cases hp
    have h4 : ¬ (getP m t.1).getD 0 < t.2.2 := fun z => by rw [if_pos z] at h; cases h
    refine ⟨?_, ?_, ?_, h2, by omega, by omega⟩
    · cases hg : getP m t.1 with
      | some v => rfl
      | none => rw [hg] at h4; simp at h4; omega
    · exact Classical.byContradiction fun z => h1 (.inl z)
    · exact Classical.byContradiction fun z => h1 (.inr z)
def Nd (m : Mp) : Prop := (m.map (·.1)).Nodup
theorem chs_nd {cs : List (Int × Option Int)} : ∀ {m : Mp}, Nd m → Nd (chsM m cs) := by
  induction cs with
  | nil => exact fun h => h
  | cons c cs ih =>
    intro m h
    obtain ⟨k, ov⟩ := c
    cases ov with
    | none => exact ih (dropP_nodup h)
    | some v => exact ih (putP_nodup h)
theorem moved_nd {m : Mp} {t : Int × Int × Int} (h : Nd m) : Nd (movedM m t) := chs_nd (chs_nd h)
theorem moved_len {m : Mp} {t : Int × Int × Int} : (movedM m t).length ≤ m.length + 2 := Nat.le_trans chs1_len (by have := chs1_len (m := m) (c := (t.1, kbM ((getP m t.1).getD 0 - t.2.2))); unfold sentM; omega)
theorem enum_at {ds : List D} {i : Nat} {d : D} (h : (pairsN ds)[i]? = some d) : ∃ e, ds[i]? = some e ∧ d = .tup [.int (i : Int), e] := by
  unfold pairsN at h
  rw [List.getElem?_map] at h
  obtain ⟨j, hj, rfl⟩ := Option.map_eq_some_iff.mp h
  have h1 : i < ds.length := by have := (List.getElem?_eq_some_iff.mp hj).1; simpa using this
  rw [List.getElem?_range h1] at hj
  cases hj
  exact ⟨ds[i], List.getElem?_eq_getElem h1, by rw [List.getD_eq_getElem?_getD, List.getElem?_eq_getElem h1]; rfl⟩
theorem key_keys {m : Mp} : (keyD m).map (·.1) = srt (m.map (·.1)) := by
  unfold keyD; rw [List.map_map]; exact List.map_id _
theorem srt_nd {m : Mp} (h : Nd m) : (srt (m.map (·.1))).Nodup := (srt_perm _).nodup_iff.mpr h
theorem key_take {m : Mp} (h : Nd m) {i : Nat} {k : Int} (hk : (srt (m.map (·.1)))[i]? = some k) : putP ((keyD m).take i) k ((getP m k).getD 0) = (keyD m).take (i + 1) := by
  have hki : (keyD m)[i]? = some (k, (getP m k).getD 0) := by unfold keyD; rw [List.getElem?_map, hk]; rfl
  rw [putP_new, List.take_add_one, hki]
  · rfl
  · rw [List.map_take, key_keys]
    intro z
    obtain ⟨j, hj⟩ := List.mem_iff_getElem?.mp z
    rw [List.getElem?_take] at hj
    split at hj
    · rename_i hji
      have n := srt_nd h
      obtain ⟨h1, e1⟩ := List.getElem?_eq_some_iff.mp hj
      obtain ⟨h2, e2⟩ := List.getElem?_eq_some_iff.mp hk
      exact List.pairwise_iff_getElem.mp n j i h1 h2 hji (e1.trans e2.symm)
    · cases hj
local macro_rules | `(tactic| walk_at "d1") => `(tactic| with_reducible refine de_new (dn_sortL ?_))
local macro_rules | `(tactic| walk_at "d1") => `(tactic| with_reducible refine de_new (dn_list ?_))
def sqT (b : Bool) (ts : List (Int × Int × Int)) : D := match b with | true => .tup (ts.map trT) | false => .lst (ts.map trT)

end
end
section
variable {P : Program} {w : World} {K : PySem.W.Frag} {mg : Str → Option Value} {base : Heap}
section
/-! ### the law's own transfers -/
def MpL (m : Mp) (n : Nat) : Prop := Nd m ∧ m.length ≤ n
theorem tf_key {m : Mp} {t : Int × Int × Int} (h : ¬ KeyB t.1 ∨ ¬ KeyB t.2.1) : tfM m t = some (Str.ofString "key") := by unfold tfM pfM; rw [if_pos h]
theorem tf_same {m : Mp} {t : Int × Int × Int} (h : ¬ (¬ KeyB t.1 ∨ ¬ KeyB t.2.1)) (h2 : t.1 = t.2.1) : tfM m t = some (Str.ofString "same") := by unfold tfM pfM; rw [if_neg h, if_pos h2]
theorem tf_amount {m : Mp} {t : Int × Int × Int} (h : ¬ (¬ KeyB t.1 ∨ ¬ KeyB t.2.1)) (h2 : ¬ t.1 = t.2.1) (h3 : t.2.2 < 1) : tfM m t = some (Str.ofString "amount") := by unfold tfM pfM; rw [if_neg h, if_neg h2, if_pos h3]
theorem tf_bal {m : Mp} {t : Int × Int × Int} (h : ¬ (¬ KeyB t.1 ∨ ¬ KeyB t.2.1)) (h2 : ¬ t.1 = t.2.1) (h3 : ¬ t.2.2 < 1) : tfM m t = if (getP m t.1).getD 0 < t.2.2 then some (Str.ofString "balance") else none := by unfold tfM pfM; rw [if_neg h, if_neg h2, if_neg h3]
def sp__law_fault (K : PySem.W.Frag) : Sp := spG K (fun x : Mp × Int × Int × Int => [.dc (mI x.1), trT x.2]) (fun _ => True) fun x => sD (tfM x.1 x.2)
theorem ok__law_fault (T : Txt K mg) : FnOk P w K mg base CX0 (1) (He.fAd K ("_law_fault", none)) T.fd__law_fault ["pairs", "transfer"] (sp__law_fault K) := by
  refine T._law_fault.F.ok sc__law_fault (fun vs H Q E h => len_g h fun _ => rfl) (fun cdv A outer s H vs Q E hr h => ⟨_, PSs.nox (pss_cons (ps_asg (pv 1) (kg_tup (K := K) (n := 3) rfl (pgs_cons (pg_name (i := 2) sc__law_fault.nd rfl (Or.inl rfl)) (pgs_cons (pg_name (i := 3) sc__law_fault.nd rfl (Or.inl rfl)) (pgs_cons (pg_name (i := 4) sc__law_fault.nd rfl (Or.inl rfl)) pgs_nil)))))
  (pss_cons (ps_if (PW.pt (pw_or (pt_cmpR (op_lt) (pv 2) pe_int (nomark _)) (pw_or (pt_cmpR (op_lt) (pv 3) pe_int (nomark _)) (pw_or1 (pt_cmpR (op_ge) (pe_callB cq_max (by rfl) T.z_max (by decide +kernel) (pa_cons (pv 2) (pa_cons (pv 3) pa_nil))) (pe_op op_shl pe_int pe_int) (nomark _)))))) (pss_one (ps_ret pe_str)) pss_nil)
  (pss_cons (ps_if (pt_cmpR (kp_eqB (K := K) hr.units) (pv 2) (pv 3) (nomark _)) (pss_one (ps_ret pe_str)) pss_nil)
  (pss_cons (ps_if (pt_cmpR (op_le) (pv 4) pe_int (nomark _)) (pss_one (ps_ret pe_str)) pss_nil)
  (pss_cons (ps_if (PW.pt (pw_or (pt_cmp (pc_dnotin (hu_of hr) (pv 2) (pv 0))) (pw_or1 (pt_cmpR (op_lt) (pe_dget (hu_of hr) (pv 0) (pv 2) (fun _ _ => rfl)) (pv 4) (nomark _))))) (pss_one (ps_ret pe_str)) pss_nil)
  (pss_one (ps_ret pe_non))))))), fn_g h fun x p => ?_⟩)
  change DS K _ (Wp.E.d _ :: (Wp.E.d _ :: (Wp.E.any :: (Wp.E.any :: (Wp.E.any :: []))))) _ _ _ _
  obtain ⟨m, s, r, a⟩ := x
  walk_at "d"
  dsimp only
  have key : ¬ KeyB s ∨ ¬ KeyB r → D.str (Str.ofString "key") = sD (tfM m (s, r, a)) := fun h => by rw [tf_key h]; rfl
  refine ifd (fun h1 => ?_) (fun h1 => ?_)
  · walk_at "d"
    exact key (.inl fun z => by have := z.1; omega)
  walk_at "d"
  refine ifd (fun h2 => ?_) (fun h2 => ?_)
  · walk_at "d"
    exact key (.inr fun z => by have := z.1; omega)
  walk_at "d"
  have e32 : (1 : Int) * 2 ^ Int.toNat 32 = 4294967296 := by decide
  rw [e32]
  have kb : ∀ k : Int, KeyB k ↔ 0 ≤ k ∧ k < 4294967296 := fun k => Iff.rfl
  refine ifd (fun h3 => ?_) (fun h3 => ?_)
  · walk_at "d"
    refine key ?_
    rw [kb, kb]
    split at h3 <;> omega
  have hk : ¬ (¬ KeyB (s, r, a).1 ∨ ¬ KeyB (s, r, a).2.1) := by
    dsimp only
    rw [kb, kb]
    split at h3 <;> omega
  walk_at "d"
  refine ifd (fun h4 => ?_) (fun h4 => ?_)
  · walk_at "d"
    rw [tf_same hk h4]
    rfl
  walk_at "d"
  refine ifd (fun h5 => ?_) (fun h5 => ?_)
  · walk_at "d"
    rw [tf_amount hk h4 (by show a < 1; omega)]
    rfl
  have ha : ¬ (s, r, a).2.2 < 1 := by show ¬ a < 1; omega
  rw [tf_bal hk h4 ha]
  dsimp only
  walk_at "d"
  rw [show getP (mI m) (Sum.inl s) = (getP m s).map D.int from get_mM]
  cases hg : getP m s with
  | none =>
    rw [if_pos (show ((none : Option Int).getD 0) < a by show (0 : Int) < a; omega)]
    refine ite_t (show (!(Option.map D.int none).isSome) = true from rfl) ?_
    walk_at "d"
    rfl
  | some v =>
    refine ite_f (show ¬ (!(Option.map D.int (some v)).isSome) = true from Bool.false_ne_true) ?_
    walk_at "d"
    refine get_some (v := v) hg ?_
    walk_at "d"
    refine ifd (fun h6 => ?_) (fun h6 => ?_)
    · rw [if_pos (show ((some v).getD 0) < a from h6)]
      walk_at "d"
      rfl
    · rw [if_neg (show ¬ ((some v).getD 0) < a from h6)]
      walk_at "d"
      rfl
/-- a map behind a right transfer, as the law has it -/
def lmvM (m : Mp) (t : Int × Int × Int) : Mp := ((m.map (·.1)) ++ [t.2.1]).foldl (fun f k => putP f k ((getP m k).getD 0 + t.2.2 * ((if k = t.2.1 then 1 else 0) - (if k = t.1 then 1 else 0)))) []
def lmvF (m : Mp) (t : Int × Int × Int) (f : Mp) (k : Int) : Mp := putP f k ((getP m k).getD 0 + t.2.2 * ((if k = t.2.1 then 1 else 0) - (if k = t.1 then 1 else 0)))
theorem lmvF_nd {m : Mp} {t : Int × Int × Int} {f : Mp} {k : Int} (h : Nd f) : Nd (lmvF m t f k) := putP_nodup h
local macro_rules | `(tactic| walk_at "d1") => `(tactic| with_reducible refine de_dictI ?_)
local macro_rules | `(tactic| walk_at "d1") => `(tactic| with_reducible refine ds_ownM (dn_dnew ?_))
local macro_rules | `(tactic| walk_at "d1") => `(tactic| with_reducible refine de_new (dn_list ?_))
def sp__law_moved (K : PySem.W.Frag) : Sp := spG K (fun x : Mp × Int × Int × Int => [.dc (mI x.1), trT x.2]) (fun x => x.1.length ≤ 1000 ∧ Nd x.1) fun x => .dc (mI ((lmvM x.1 x.2).filter fun p => decide (0 < p.2)))
theorem ok__law_moved (T : Txt K mg) : FnOk P w K mg base CX0 (1) (He.fAd K ("_law_moved", none)) T.fd__law_moved ["pairs", "transfer"] (sp__law_moved K) := by
  refine T._law_moved.F.ok sc__law_moved (fun vs H Q E h => len_g h fun _ => rfl) (fun cdv A outer s H vs Q E hr h => ⟨_, PSs.nox (pss_cons (ps_asg (pv 1) (kg_tup (K := K) (n := 3) rfl (pgs_cons (pg_name (i := 2) sc__law_moved.nd rfl (Or.inl rfl)) (pgs_cons (pg_name (i := 3) sc__law_moved.nd rfl (Or.inl rfl)) (pgs_cons (pg_name (i := 4) sc__law_moved.nd rfl (Or.inl rfl)) pgs_nil)))))
  (pss_cons (ps_set (i := 5) sc__law_moved.nd rfl (Or.inr rfl) pe_dnewK)
  (pss_cons (ps_for PassesOwn.never rfl (ki_sq (K := K) (pe_op (kp_addA (K := K)) (pe_callTy (kq_listA (K := K)) (by rfl) T.z_list (by decide +kernel) (pa_cons (pv 0) pa_nil)) (pe_lst (pa_cons (pv 3) pa_nil)))) (pg_name (i := 6) sc__law_moved.nd rfl (Or.inl rfl)) (pss_one (ps_dput (hu_of hr) (pv 5) (pv 6) (pe_op (kp_addA (K := K)) (pe_dget2 (hu_of hr) (pv 0) (pv 6) pe_int ⟨rfl, rfl, rfl, rfl⟩) (pe_op op_mul (pv 4) (pe_op op_sub (pe_callTy cq_int (by rfl) T.z_int (by decide +kernel) (pa_cons (pe_cmpR (kp_eqB (K := K) hr.units) (pv 6) (pv 3) (nomark _)) pa_nil)) (pe_callTy cq_int (by rfl) T.z_int (by decide +kernel) (pa_cons (pe_cmpR (kp_eqB (K := K) hr.units) (pv 6) (pv 2) (nomark _)) pa_nil))))) rfl)))
  (pss_one (ps_ret (pe_callTy (kr_dict (K := K)) (by rfl) T.z_dict (by decide +kernel) (pa_cons (pe_lck (pe_lc (own := [("key", 6)]) rfl sc__law_moved.nd (pi_keys (pv 5)) (blkOk_by (own := [("key", 6)]) (N := ["pairs", "transfer", "sender", "receiver", "amount", "found", "key"]) (sc := defScope s__law_moved) (by decide +kernel)) (fun _ _ _ _ _ => pg_name (i := 6) sc__law_moved.nd rfl (Or.inl rfl)) (fun _ _ _ _ _ => (pts_one (pt_cmpR (op_gt) (pe_dget (hu_of hr) (pv 5) (pv 6) (fun _ _ => rfl)) pe_int (nomark _)))) (fun _ _ _ _ _ => (pe_tup (pa_cons (pv 6) (pa_cons (pe_dget (hu_of hr) (pv 5) (pv 6) (fun _ _ => rfl)) pa_nil)))))) pa_nil))))))), fn_g h fun x p => ?_⟩)
  change DS K _ (Wp.E.d _ :: (Wp.E.d _ :: (Wp.E.any :: (Wp.E.any :: (Wp.E.any :: (Wp.E.any :: (Wp.E.any :: []))))))) _ _ _ _
  obtain ⟨m, s, r, a⟩ := x
  obtain ⟨hl, hn⟩ := p
  dsimp only at hl hn ⊢
  walk_at "d"
  refine ds_for ?_
  walk_at "d"
  have hks : (m.map (·.1)).map D.int ++ [D.int r] = (m.map (·.1) ++ [r]).map D.int := by rw [List.map_append]; rfl
  rw [hks]
  walk_at "d"
  refine ⟨fun i ρ => ∃ f e6, Nd f ∧ f.length ≤ i ∧ ((m.map (·.1) ++ [r]).drop i).foldl (lmvF m (s, r, a)) f = lmvM m (s, r, a) ∧ ρ = [.d (.dc (mI m)), .d (trT (s, r, a)), .d (.int s), .d (.int r), .d (.int a), .dm (mI f), e6], ⟨_, EnvLe.refl _, [], _, by simp [Nd], by simp, rfl, rfl⟩, ?_, ?_⟩
  · rintro i d ρ hi ⟨f, e6, hf, hfl, he, rfl⟩
    rw [List.getElem?_map] at hi
    obtain ⟨k, hk, rfl⟩ := Option.map_eq_some_iff.mp hi
    have h1 := List.getElem?_eq_some_iff.mp hk
    have hil := h1.1
    rw [List.length_append, List.length_map] at hil
    have hil : i < m.length + 1 := hil
    rw [List.drop_eq_getElem_cons h1.1, h1.2, List.foldl_cons] at he
    walk_at "d"
    rw [getD_I]
    walk_at "d"
    refine ⟨_, rfl, ?_⟩
    walk_at "d"
    refine ⟨by rw [mM_len]; omega, ?_⟩
    walk_at "d"
    rw [put_I]
    have hb : ∀ (x y : Int), (if decide (x = y) = true then (1 : Int) else 0) = if x = y then 1 else 0 := fun x y => by by_cases z : x = y <;> simp [z]
    rw [hb, hb]
    exact ⟨_, EnvLe.refl _, lmvF m (s, r, a) f k, _, lmvF_nd hf, Nat.le_trans putP_len (by omega), he, rfl⟩
  · rintro ρ ⟨f, e6, hf, hfl, he, rfl⟩
    rw [List.length_map] at he hfl
    rw [List.drop_length, List.foldl_nil] at he
    have hfl2 : f.length ≤ 1001 := by rw [List.length_append, List.length_map] at hfl; simp at hfl; omega
    refine ds_freezeM 5 rfl rfl ?_
    walk_at "d"
    refine dn_filtK D.int (fun p => decide (0 < p.2)) pT ?_
    refine ⟨f, rfl, by omega, fun p hp => dgw_name rfl (by decide) rfl ?_, ?_⟩
    · walk_at "d"
      refine get_some (v := p.2) (mem_getP hf hp) ?_
      walk_at "d"
      refine ⟨rfl, fun _ => ?_⟩
      walk_at "d"
      refine get_some (v := p.2) (mem_getP hf hp) ?_
      walk_at "d"
      rfl
    · refine ⟨f.filter fun p => decide (0 < p.2), rfl, (List.filter_sublist.map _).nodup hf, ?_⟩
      rw [he]
      walk_at "d"
      rfl
local macro_rules | `(tactic| walk_at "d1") => `(tactic| (refine ds_retM ?_; refine ⟨_, rfl, ?_⟩))
/-- an account's map: keys, and balances of one at least -/
def Acc (m : Mp) : Prop := Nd m ∧ ∀ p ∈ m, KeyB p.1 ∧ 1 ≤ p.2
def sp__law_pairs (K : PySem.W.Frag) : Sp := spS' K (fun _ : Unit => []) (fun _ => True) fun _ d => ∃ m, d = .dc (mI m) ∧ Acc m ∧ m.length ≤ 5 ∧ ∀ p ∈ m, p.2 ≤ 9
theorem ok__law_pairs (T : Txt K mg) : FnOk P w K mg base CX0 (2) (He.fAd K ("_law_pairs", none)) T.fd__law_pairs ["state", "script"] (sp__law_pairs K) := by
  refine T._law_pairs.F.ok sc__law_pairs (fun vs H Q E h => len_s h fun _ => rfl) (fun cdv A outer s H vs Q E hr h => ⟨_, PSs.nox (pss_cons (ps_set (i := 2) sc__law_pairs.nd rfl (Or.inl rfl) pe_dnewK)
  (pss_cons (ps_for PassesOwn.never rfl (pi_range1 rfl T.z_range (pa_cons (pe_call (ok__law_draw T) (hr.mono (by omega)) (by rfl) T._law_draw.g T._law_draw.F.kp T._law_draw.b .nil pass0 (pa_cons (pv 0) (pa_cons (pv 1) (pa_cons pe_int pa_nil)))) pa_nil)) (pg_name (i := 3) sc__law_pairs.nd rfl (Or.inl rfl)) (pss_one (ps_dput (hu_of hr) (pv 2) (pe_ix (kx_seq (K := K)) (pe_lst (pa_cons (pv 3) (pa_cons (pe_op op_shl pe_int pe_int) (pa_cons (pe_call (ok__law_draw T) (hr.mono (by omega)) (by rfl) T._law_draw.g T._law_draw.F.kp T._law_draw.b .nil pass0 (pa_cons (pv 0) (pa_cons (pv 1) (pa_cons pe_int pa_nil)))) (pa_cons (pe_op op_sub (pe_op op_sub (pe_op op_shl pe_int pe_int) pe_int) (pv 3)) pa_nil))))) (pe_call (ok__law_draw T) (hr.mono (by omega)) (by rfl) T._law_draw.g T._law_draw.F.kp T._law_draw.b .nil pass0 (pa_cons (pv 0) (pa_cons (pv 1) (pa_cons pe_int pa_nil)))) (fun _ _ => rfl)) (pe_op (kp_addA (K := K)) pe_int (pe_call (ok__law_draw T) (hr.mono (by omega)) (by rfl) T._law_draw.g T._law_draw.F.kp T._law_draw.b .nil pass0 (pa_cons (pv 0) (pa_cons (pv 1) (pa_cons pe_int pa_nil))))) rfl)))
  (pss_one (ps_ret (pv 2))))), fn_s h fun x p => ?_⟩)
  change DS K _ (Wp.E.st :: (Wp.E.sc :: (Wp.E.any :: (Wp.E.any :: [])))) _ _ _ _
  walk_at "d"
  refine ds_for ?_
  walk_at "d"
  refine dcs_draw (by decide) (by decide) fun n1 a1 b1 => ?_
  walk_at "d"
  refine ⟨n1, rfl, by unfold Big; omega, ?_⟩
  refine ⟨fun i ρ => ∃ m e3, Acc m ∧ m.length ≤ i ∧ (∀ p ∈ m, p.2 ≤ 9) ∧ ρ = [.st, .sc, .dm (mI m), e3], ⟨_, EnvLe.refl _, [], _, ⟨by simp [Nd], by simp⟩, by simp, by simp, rfl⟩, ?_, ?_⟩
  · rintro i d ρ hi ⟨m, e3, hm, hl, h9, rfl⟩
    rw [List.getElem?_map] at hi
    obtain ⟨l, hl', rfl⟩ := Option.map_eq_some_iff.mp hi
    obtain ⟨rfl, hi4⟩ := (show l = (i : Int) ∧ i < n1.toNat from by
      have h1 : i < n1.toNat := by have := (List.getElem?_eq_some_iff.mp hl').1; rwa [rgI_len] at this
      rw [rgI_at h1] at hl'
      exact ⟨by have := Option.some.inj hl'; omega, h1⟩)
    walk_at "d"
    refine dcs_draw (by decide) (by decide) fun n2 a2 b2 => ?_
    walk_at "d"
    refine ⟨_, rfl, ?_⟩
    walk_at "d"
    refine dcs_draw (by decide) (by decide) fun n3 a3 b3 => ?_
    walk_at "d"
    refine dcs_draw (by decide) (by decide) fun n4 a4 b4 => ?_
    walk_at "d"
    have e31 : (1 : Int) * 2 ^ Int.toNat 31 = 2147483648 := by decide
    have e32 : (1 : Int) * 2 ^ Int.toNat 32 = 4294967296 := by decide
    rw [e31, e32]
    refine pick4 a4 b4 fun k hk => ?_
    have hkb : KeyB k := by
      show 0 ≤ k ∧ k < 4294967296
      omega
    walk_at "d"
    refine ⟨by rw [mM_len]; omega, ?_⟩
    walk_at "d"
    rw [put_I]
    refine ⟨_, EnvLe.refl _, putP m k (1 + n2), _, ⟨putP_nodup hm.1, fun p hp => ?_⟩, Nat.le_trans putP_len (by omega), fun p hp => ?_, rfl⟩
    · rcases mem_putP hp with rfl | hp
      · exact ⟨hkb, by show 1 ≤ 1 + n2; omega⟩
      · exact hm.2 p hp
    · rcases mem_putP hp with rfl | hp
      · show 1 + n2 ≤ 9
        omega
      · exact h9 p hp
  · rintro ρ ⟨m, e3, hm, hl, h9, rfl⟩
    rw [List.length_map, rgI_len] at hl
    walk_at "d"
    exact ⟨m, rfl, hm, by omega, h9⟩



end
section
/-! ### the law's draws of transfers -/
local macro_rules | `(tactic| walk_at "d1") => `(tactic| with_reducible refine de_sortDI ?_)
def sp__law_transfer (K : PySem.W.Frag) : Sp := spS' K (fun m : Mp => [.dc (mI m)]) (fun m => m.length < 60) fun _ d => ∃ t, d = trT t
theorem ok__law_transfer (T : Txt K mg) : FnOk P w K mg base CX0 (2) (He.fAd K ("_law_transfer", none)) T.fd__law_transfer ["state", "script", "pairs"] (sp__law_transfer K) := by
  refine T._law_transfer.F.ok sc__law_transfer (fun vs H Q E h => len_s h fun _ => rfl) (fun cdv A outer s H vs Q E hr h => ⟨_, PSs.nox (pss_cons (ps_set (i := 3) sc__law_transfer.nd rfl (Or.inl rfl) (pe_op (kp_addA (K := K)) (pe_callB (kr_sortA (K := K)) (by rfl) T.z_sorted (by decide +kernel) (pa_cons (pv 2) pa_nil)) (pe_lst (pa_cons pe_int (pa_cons pe_int (pa_cons (pe_op op_sub (pe_op op_shl pe_int pe_int) pe_int) pa_nil))))))
  (pss_cons (ps_set (i := 4) sc__law_transfer.nd rfl (Or.inl rfl) (pe_ix (kx_seq (K := K)) (pv 3) (pe_call (ok__law_draw T) (hr.mono (by omega)) (by rfl) T._law_draw.g T._law_draw.F.kp T._law_draw.b .nil pass0 (pa_cons (pv 0) (pa_cons (pv 1) (pa_cons (pe_callB (kq_lenA (K := K)) (by rfl) T.z_len (by decide +kernel) (pa_cons (pv 3) pa_nil)) pa_nil)))) (fun _ _ => rfl)))
  (pss_cons (ps_set (i := 5) sc__law_transfer.nd rfl (Or.inl rfl) (pe_ix (kx_seq (K := K)) (pv 3) (pe_call (ok__law_draw T) (hr.mono (by omega)) (by rfl) T._law_draw.g T._law_draw.F.kp T._law_draw.b .nil pass0 (pa_cons (pv 0) (pa_cons (pv 1) (pa_cons (pe_callB (kq_lenA (K := K)) (by rfl) T.z_len (by decide +kernel) (pa_cons (pv 3) pa_nil)) pa_nil)))) (fun _ _ => rfl)))
  (pss_cons (ps_set (i := 6) sc__law_transfer.nd rfl (Or.inl rfl) (pe_ix (kx_seq (K := K)) (pe_lst (pa_cons (pe_op (kp_addA (K := K)) pe_int (pe_call (ok__law_draw T) (hr.mono (by omega)) (by rfl) T._law_draw.g T._law_draw.F.kp T._law_draw.b .nil pass0 (pa_cons (pv 0) (pa_cons (pv 1) (pa_cons pe_int pa_nil))))) (pa_cons (pe_dget2 (hu_of hr) (pv 2) (pv 4) pe_int ⟨rfl, rfl, rfl, rfl⟩) (pa_cons (pe_op op_sub (pe_call (ok__law_draw T) (hr.mono (by omega)) (by rfl) T._law_draw.g T._law_draw.F.kp T._law_draw.b .nil pass0 (pa_cons (pv 0) (pa_cons (pv 1) (pa_cons pe_int pa_nil)))) pe_int) pa_nil)))) (pe_call (ok__law_draw T) (hr.mono (by omega)) (by rfl) T._law_draw.g T._law_draw.F.kp T._law_draw.b .nil pass0 (pa_cons (pv 0) (pa_cons (pv 1) (pa_cons pe_int pa_nil)))) (fun _ _ => rfl)))
  (pss_cons (ps_cut (ps_if (pt_cmpR (kp_eqB (K := K) hr.units) (pe_call (ok__law_draw T) (hr.mono (by omega)) (by rfl) T._law_draw.g T._law_draw.F.kp T._law_draw.b .nil pass0 (pa_cons (pv 0) (pa_cons (pv 1) (pa_cons pe_int pa_nil)))) pe_int (nomark _)) (pss_one (ps_set (i := 4) sc__law_transfer.nd rfl (Or.inl rfl) (pe_ix (kx_seq (K := K)) (pe_lst (pa_cons (pe_un un_neg pe_int) (pa_cons (pe_op op_shl pe_int pe_int) pa_nil))) (pe_call (ok__law_draw T) (hr.mono (by omega)) (by rfl) T._law_draw.g T._law_draw.F.kp T._law_draw.b .nil pass0 (pa_cons (pv 0) (pa_cons (pv 1) (pa_cons pe_int pa_nil)))) (fun _ _ => rfl)))) pss_nil))
  (pss_cons (ps_cut (ps_if (pt_cmpR (kp_eqB (K := K) hr.units) (pe_call (ok__law_draw T) (hr.mono (by omega)) (by rfl) T._law_draw.g T._law_draw.F.kp T._law_draw.b .nil pass0 (pa_cons (pv 0) (pa_cons (pv 1) (pa_cons pe_int pa_nil)))) pe_int (nomark _)) (pss_one (ps_set (i := 5) sc__law_transfer.nd rfl (Or.inl rfl) (pe_ix (kx_seq (K := K)) (pe_lst (pa_cons (pe_un un_neg pe_int) (pa_cons (pe_op op_shl pe_int pe_int) pa_nil))) (pe_call (ok__law_draw T) (hr.mono (by omega)) (by rfl) T._law_draw.g T._law_draw.F.kp T._law_draw.b .nil pass0 (pa_cons (pv 0) (pa_cons (pv 1) (pa_cons pe_int pa_nil)))) (fun _ _ => rfl)))) pss_nil))
  (pss_one (ps_ret (pe_tup (pa_cons (pv 4) (pa_cons (pv 5) (pa_cons (pv 6) pa_nil)))))))))))), fn_s h fun x p => ?_⟩)
  change DS K _ (Wp.E.st :: (Wp.E.sc :: (Wp.E.d _ :: (Wp.E.any :: (Wp.E.any :: (Wp.E.any :: (Wp.E.any :: []))))))) _ _ _ _
  walk_at "d"
  refine ⟨x, .inl rfl, by omega, ?_⟩
  walk_at "d"
  have hsl : (srt (x.map fun p : Int × Int => p.1)).length = x.length := by rw [srt_len, List.length_map]
  refine dr_addL (by rw [List.length_map, hsl]; show x.length + 3 ≤ sizeLine; have : (2000 : Nat) ≤ sizeLine := by decide
                     omega) ?_
  have hks : (srt (x.map fun p : Int × Int => p.1)).map D.int ++ [D.int 0, D.int 3, D.int (1 * 2 ^ Int.toNat 32 - 1)] = (srt (x.map fun p : Int × Int => p.1) ++ [0, 3, 1 * 2 ^ Int.toNat 32 - 1]).map D.int := by rw [List.map_append]; rfl
  rw [hks]
  have hkl : (srt (x.map fun p : Int × Int => p.1) ++ [0, 3, 1 * 2 ^ Int.toNat 32 - 1]).length = x.length + 3 := by rw [List.length_append, hsl]; rfl
  generalize srt (x.map fun p : Int × Int => p.1) ++ [0, 3, 1 * 2 ^ Int.toNat 32 - 1] = ks at hkl ⊢
  walk_at "d"
  refine dcs_draw (by omega) (log_small (by omega) (by omega)) fun n1 a1 b1 => ?_
  walk_at "d"
  refine pickI a1 (by omega) fun s _ => ?_
  walk_at "d"
  refine dcs_draw (by omega) (log_small (by omega) (by omega)) fun n2 a2 b2 => ?_
  walk_at "d"
  refine pickI a2 (by omega) fun r _ => ?_
  walk_at "d"
  refine dcs_draw (by decide) (by decide) fun n3 a3 b3 => ?_
  walk_at "d"
  rw [getD_I]
  walk_at "d"
  refine dcs_draw (by decide) (by decide) fun n4 a4 b4 => ?_
  walk_at "d"
  refine dcs_draw (by decide) (by decide) fun n5 a5 b5 => ?_
  walk_at "d"
  refine pick3 a5 b5 fun a _ => ?_
  walk_at "d"
  refine ds_cut (fun ρ => ∃ s, ρ = [.st, .sc, .d (.dc (mI x)), .d (lI ks), .d (.int s), .d (.int r), .d (.int a)]) ?_ ?_
  · walk_at "d"
    refine dcs_draw (by decide) (by decide) fun n6 a6 b6 => ?_
    walk_at "d"
    refine ifd (fun h1 => ?_) (fun h1 => ?_)
    · walk_at "d"
      refine dcs_draw (by decide) (by decide) fun n7 a7 b7 => ?_
      walk_at "d"
      refine pick2 a7 b7 fun s2 _ => ?_
      walk_at "d"
      exact ⟨_, EnvLe.refl _, _, rfl⟩
    · walk_at "d"
      exact ⟨_, EnvLe.refl _, _, rfl⟩
  rintro ρ ⟨s', rfl⟩
  walk_at "d"
  refine ds_cut (fun ρ => ∃ r, ρ = [.st, .sc, .d (.dc (mI x)), .d (lI ks), .d (.int s'), .d (.int r), .d (.int a)]) ?_ ?_
  · walk_at "d"
    refine dcs_draw (by decide) (by decide) fun n6 a6 b6 => ?_
    walk_at "d"
    refine ifd (fun h1 => ?_) (fun h1 => ?_)
    · walk_at "d"
      refine dcs_draw (by decide) (by decide) fun n7 a7 b7 => ?_
      walk_at "d"
      refine pick2 a7 b7 fun s2 _ => ?_
      walk_at "d"
      exact ⟨_, EnvLe.refl _, _, rfl⟩
    · walk_at "d"
      exact ⟨_, EnvLe.refl _, _, rfl⟩
  rintro ρ ⟨r', rfl⟩
  walk_at "d"
  exact ⟨(s', r', a), rfl⟩


end
section
/-! ### one transfer, two ways -/
theorem get_chs1 {m : Mp} {k j : Int} {ov : Option Int} : getP (chsM m [(k, ov)]) j = if j = k then ov else getP m j := by
  cases ov with
  | none => exact getP_drop
  | some v => exact getP_put
theorem get_moved {m : Mp} {t : Int × Int × Int} {j : Int} : getP (movedM m t) j = if j = t.2.1 then some ((getP m t.2.1).getD 0 + t.2.2) else if j = t.1 then kbM ((getP m t.1).getD 0 - t.2.2) else getP m j := by
  unfold movedM sentM
  rw [get_chs1, get_chs1]
theorem get_fold {m : Mp} {t : Int × Int × Int} {j : Int} : ∀ (ks : List Int) (f : Mp), getP (ks.foldl (lmvF m t) f) j = if j ∈ ks then some ((getP m j).getD 0 + t.2.2 * ((if j = t.2.1 then 1 else 0) - (if j = t.1 then 1 else 0))) else getP f j
  | [], f => by simp
  | k :: ks, f => by
    rw [List.foldl_cons, get_fold ks]
    by_cases h : j ∈ ks
    · rw [if_pos h, if_pos (List.mem_cons_of_mem _ h)]
    · rw [if_neg h]
      unfold lmvF
      rw [getP_put]
      by_cases z : j = k
      · subst z
        rw [if_pos rfl, if_pos List.mem_cons_self]
      · rw [if_neg z, if_neg (by simp [z, h])]
theorem get_filter {m : Mp} (h : Nd m) {j : Int} : getP (m.filter fun p => decide (0 < p.2)) j = match getP m j with
  | some v => if 0 < v then some v else none
  | none => none := by
  have hf : Nd (m.filter fun p => decide (0 < p.2)) := (List.filter_sublist.map _).nodup h
  cases hg : getP m j with
  | none =>
    refine getP_none.mpr fun z => ?_
    obtain ⟨p, hp, e⟩ := List.mem_map.mp z
    exact getP_none.mp hg (List.mem_map.mpr ⟨p, (List.mem_filter.mp hp).1, e⟩)
  | some v =>
    have hm := getP_mem hg
    dsimp only
    by_cases hv : 0 < v
    · rw [if_pos hv]
      exact mem_getP hf (List.mem_filter.mpr ⟨hm, by simpa using hv⟩)
    · rw [if_neg hv]
      refine getP_none.mpr fun z => ?_
      obtain ⟨p, hp, e⟩ := List.mem_map.mp z
      obtain ⟨hp1, hp2⟩ := List.mem_filter.mp hp
      have h2 := mem_getP h (show (p.1, p.2) ∈ m from hp1)
      rw [e, hg] at h2
      have := Option.some.inj h2
      simp at hp2
      omega
/-- a right transfer: the program's map and the law's, key by key -/
theorem moved_same {m : Mp} {t : Int × Int × Int} (h : Nd m) (hb : ∀ p ∈ m, 1 ≤ p.2) (ht : tfM m t = none) (hn : Nd (lmvM m t)) (j : Int) : getP (movedM m t) j = getP ((lmvM m t).filter fun p => decide (0 < p.2)) j := by
  obtain ⟨h1, _, _, hne, h2, h3⟩ := tf_some ht
  obtain ⟨s, r, a⟩ := t
  dsimp only at h1 hne h2 h3
  have hval : ∀ k v, getP m k = some v → 1 ≤ v := fun k v e => hb _ (getP_mem e)
  have hl : ∀ j, getP (lmvM m (s, r, a)) j = if j ∈ m.map (·.1) ++ [r] then some ((getP m j).getD 0 + a * ((if j = r then 1 else 0) - (if j = s then 1 else 0))) else none := fun j => by
    have := get_fold (m := m) (t := (s, r, a)) (j := j) (m.map (·.1) ++ [r]) []
    rw [getP_nil] at this
    exact this
  rw [get_moved, get_filter hn, hl]
  dsimp only
  have hmem : j ∈ m.map (·.1) ↔ (getP m j).isSome = true := getP_isSome.symm
  by_cases zr : j = r
  · subst zr
    rw [if_pos rfl, if_pos (by simp), if_pos rfl, if_neg (fun e => hne e.symm)]
    dsimp only
    have : 0 < (getP m j).getD 0 + a * (1 - 0) := by
      cases hg : getP m j with
      | none => show 0 < (0 : Int) + a * (1 - 0); omega
      | some v => have := hval _ _ hg; show 0 < v + a * (1 - 0); omega
    rw [if_pos this]
    congr 1
    omega
  rw [if_neg zr]
  by_cases zs : j = s
  · subst zs
    rw [if_pos rfl, if_pos (List.mem_append.mpr (.inl (hmem.mpr h1))), if_neg zr, if_pos rfl]
    dsimp only
    unfold kbM
    have e : (getP m j).getD 0 - a = (getP m j).getD 0 + a * (0 - 1) := by omega
    rw [e]
  rw [if_neg zs, if_neg zr, if_neg zs]
  cases hg : getP m j with
  | none =>
    rw [if_neg (by rw [List.mem_append, hmem, hg]; simp [zr])]
  | some v =>
    rw [if_pos (List.mem_append.mpr (.inl (hmem.mpr (by rw [hg]; rfl))))]
    dsimp only
    have := hval _ _ hg
    have e : (some v).getD 0 + a * (0 - 0) = v := by show v + a * (0 - 0) = v; omega
    rw [e, if_pos (by omega)]


end
section
/-! ### sums, and the law's run -/
def sumP (m : Mp) : Int := (m.map (·.2)).sum
theorem putP_cons {p : Int × Int} {m : Mp} {k v : Int} (h : p.1 ≠ k) : putP (p :: m) k v = p :: putP m k v := by
  unfold putP
  rw [List.any_cons, decide_eq_false h, Bool.false_or]
  split
  · rw [List.map_cons, if_neg h]
  · rfl
theorem putP_head {p : Int × Int} {m : Mp} {v : Int} (h : Nd (p :: m)) : putP (p :: m) p.1 v = (p.1, v) :: m := by
  obtain ⟨hn, h2⟩ := List.nodup_cons.mp (show (p.1 :: m.map (·.1)).Nodup from h)
  rw [putP_in List.mem_cons_self, List.map_cons, if_pos rfl]
  congr 1
  conv => rhs; rw [← List.map_id m]
  exact List.map_congr_left fun q hq => by
    rw [if_neg (fun z => hn (List.mem_map.mpr ⟨q, hq, z⟩))]; rfl
theorem sum_put {k v : Int} : ∀ {m : Mp}, Nd m → sumP (putP m k v) = sumP m + v - (getP m k).getD 0
  | [], _ => by simp [sumP, putP, getP_nil]
  | p :: m, h => by
    obtain ⟨hn, h2⟩ := List.nodup_cons.mp (show (p.1 :: m.map (·.1)).Nodup from h)
    rw [getP_cons]
    by_cases z : p.1 = k
    · subst z
      rw [putP_head h, if_pos rfl]
      show v + sumP m = p.2 + sumP m + v - p.2
      omega
    · rw [putP_cons z, if_neg z]
      have := sum_put (k := k) (v := v) h2
      show p.2 + sumP (putP m k v) = p.2 + sumP m + v - (getP m k).getD 0
      omega
theorem sum_drop {k : Int} : ∀ {m : Mp}, Nd m → sumP (dropP m k) = sumP m - (getP m k).getD 0
  | [], _ => rfl
  | p :: m, h => by
    obtain ⟨hn, h2⟩ := List.nodup_cons.mp (show (p.1 :: m.map (·.1)).Nodup from h)
    have ih := sum_drop (k := k) h2
    rw [getP_cons]
    by_cases z : p.1 = k
    · rw [if_pos z]
      have hg : getP m k = none := getP_none.mpr (z ▸ hn)
      rw [hg] at ih
      have e : dropP (p :: m) k = dropP m k := List.filter_cons_of_neg (by simp [z])
      rw [e]
      show sumP (dropP m k) = p.2 + sumP m - p.2
      have : sumP (dropP m k) = sumP m - 0 := ih
      omega
    · rw [if_neg z]
      have e : dropP (p :: m) k = p :: dropP m k := List.filter_cons_of_pos (by simpa using z)
      rw [e]
      show p.2 + sumP (dropP m k) = p.2 + sumP m - (getP m k).getD 0
      omega
theorem sum_chs1 {m : Mp} {k : Int} {ov : Option Int} (h : Nd m) : sumP (chsM m [(k, ov)]) = sumP m + ov.getD 0 - (getP m k).getD 0 := by
  cases ov with
  | none => have := sum_drop (k := k) h; show sumP (dropP m k) = sumP m + 0 - (getP m k).getD 0; omega
  | some v => exact sum_put h
theorem kb_getD {b : Int} (h : 0 ≤ b) : (kbM b).getD 0 = b := by
  unfold kbM
  by_cases z : 0 < b
  · rw [if_pos z]; rfl
  · rw [if_neg z]; show (0 : Int) = b; omega
theorem moved_sum {m : Mp} {t : Int × Int × Int} (h : Nd m) (ht : tfM m t = none) : sumP (movedM m t) = sumP m := by
  obtain ⟨h1, _, _, hne, h2, h3⟩ := tf_some ht
  unfold movedM
  rw [sum_chs1 (show Nd (sentM m t) from chs_nd h)]
  unfold sentM
  rw [sum_chs1 h, get_chs1, if_neg (fun e => hne e.symm), kb_getD (by omega)]
  show sumP m + ((getP m t.1).getD 0 - t.2.2) - (getP m t.1).getD 0 + ((getP m t.2.1).getD 0 + t.2.2) - (getP m t.2.1).getD 0 = sumP m
  omega
theorem acc_get {m : Mp} (h : Acc m) (k : Int) : 0 ≤ (getP m k).getD 0 := by
  cases hg : getP m k with
  | none => exact Int.le_refl 0
  | some v => have := (h.2 _ (getP_mem hg)).2; show 0 ≤ v; dsimp only at this; omega
theorem moved_acc {m : Mp} {t : Int × Int × Int} (h : Acc m) (ht : tfM m t = none) : Acc (movedM m t) := by
  obtain ⟨h1, k1, k2, hne, h2, h3⟩ := tf_some ht
  refine ⟨moved_nd h.1, fun p hp => ?_⟩
  have hs : ∀ p ∈ sentM m t, KeyB p.1 ∧ 1 ≤ p.2 := fun p hp => by
    unfold sentM at hp
    have hk : kbM ((getP m t.1).getD 0 - t.2.2) = if 0 < (getP m t.1).getD 0 - t.2.2 then some ((getP m t.1).getD 0 - t.2.2) else none := rfl
    rw [hk] at hp
    split at hp
    · rename_i z
      rcases mem_putP (show p ∈ putP m t.1 ((getP m t.1).getD 0 - t.2.2) from hp) with rfl | hp
      · exact ⟨k1, by show 1 ≤ (getP m t.1).getD 0 - t.2.2; omega⟩
      · exact h.2 p hp
    · exact h.2 p (List.mem_filter.mp (show p ∈ dropP m t.1 from hp)).1
  rcases mem_putP (show p ∈ putP (sentM m t) t.2.1 ((getP m t.2.1).getD 0 + t.2.2) from hp) with rfl | hp
  · have := acc_get h t.2.1
    exact ⟨k2, by show 1 ≤ (getP m t.2.1).getD 0 + t.2.2; omega⟩
  · exact hs p hp
theorem moved_ne {m : Mp} {t : Int × Int × Int} (h : Nd m) (ht : tfM m t = none) : meq m (movedM m t) = false := by
  obtain ⟨h1, k1, k2, hne, h2, h3⟩ := tf_some ht
  refine Bool.eq_false_iff.mpr fun z => ?_
  have := (meq_iff h (moved_nd h)).mp z t.2.1
  rw [get_moved, if_pos rfl] at this
  cases hg : getP m t.2.1 with
  | none => rw [hg] at this; cases this
  | some v =>
    rw [hg] at this
    have e : v = v + t.2.2 := Option.some.inj this
    omega
theorem lmv_nd {m : Mp} {t : Int × Int × Int} : Nd (lmvM m t) := by
  have : ∀ (ks : List Int) (f : Mp), Nd f → Nd (ks.foldl (lmvF m t) f) := by
    intro ks
    induction ks with
    | nil => exact fun f h => h
    | cons k ks ih => exact fun f h => ih _ (lmvF_nd h)
  exact this _ [] (by simp [Nd])
theorem moved_law {m : Mp} {t : Int × Int × Int} (h : Acc m) (ht : tfM m t = none) : meq (movedM m t) ((lmvM m t).filter fun p => decide (0 < p.2)) = true :=
  (meq_iff (moved_nd h.1) ((List.filter_sublist.map _).nodup lmv_nd)).mpr (moved_same h.1 (fun p hp => (h.2 p hp).2) ht lmv_nd)
theorem get_key {m : Mp} (h : Nd m) (j : Int) : getP (keyD m) j = getP m j := by
  have nk : Nd (keyD m) := by unfold Nd; rw [key_keys]; exact srt_nd h
  cases hg : getP m j with
  | none =>
    refine getP_none.mpr fun z => ?_
    rw [key_keys] at z
    exact getP_none.mp hg (mem_srt.mp z)
  | some v =>
    refine mem_getP nk ?_
    unfold keyD
    refine List.mem_map.mpr ⟨j, mem_srt.mpr (getP_isSome.mp (by rw [hg]; rfl)), ?_⟩
    rw [hg]; rfl
theorem key_eq {m : Mp} (h : Nd m) : meq (keyD m) m = true := (meq_iff (by rw [key_keys]; exact srt_nd h) h).mpr (get_key h)
def runS : Sum (Nat × Str) Mp → Nat → Int × Int × Int → Sum (Nat × Str) Mp
  | .inl y, _, _ => .inl y
  | .inr m, i, t => match tfM m t with
    | some x => .inl (i, x)
    | none => .inr (movedM m t)
theorem runS_some {m : Mp} {i : Nat} {t : Int × Int × Int} {x : Str} (h : tfM m t = some x) : runS (.inr m) i t = .inl (i, x) := by show (match tfM m t with | some x => Sum.inl (i, x) | none => Sum.inr (movedM m t)) = _; rw [h]
theorem runS_none {m : Mp} {i : Nat} {t : Int × Int × Int} (h : tfM m t = none) : runS (.inr m) i t = .inr (movedM m t) := by show (match tfM m t with | some x => Sum.inl (i, x) | none => Sum.inr (movedM m t)) = _; rw [h]
theorem run_snoc : ∀ (ts : List (Int × Int × Int)) (m : Mp) (i : Nat) (t : Int × Int × Int), runM m i (ts ++ [t]) = runS (runM m i ts) (i + ts.length) t
  | [], m, i, t => by
    show runM m i [t] = runS (.inr m) (i + 0) t
    cases h : tfM m t with
    | some x => rw [runM_some h, runS_some h]; rfl
    | none => rw [runM_none h, runS_none h]; rfl
  | u :: ts, m, i, t => by
    rw [List.cons_append]
    cases h : tfM m u with
    | some x => rw [runM_some h, runM_some h]; rfl
    | none =>
      rw [runM_none h, runM_none h, run_snoc ts, List.length_cons]
      congr 1
      omega
def dueD : Option (Nat × Str) → D
  | none => .non
  | some y => .tup [.str (Str.ofString "fault"), .int (y.1 : Int), .str y.2]
def runO (m : Mp) : Option (Nat × Str) → Sum (Nat × Str) Mp
  | none => .inr m
  | some y => .inl y


end
end
section
variable {P : Program} {w : World} {K : PySem.W.Frag} {mg : Str → Option Value} {base : Heap}
section
def sp_are_digests (K : PySem.W.Frag) : Sp := spG K (fun x : Int × Bool × List Int => [Hs K x.1, sqD x.2.1 x.2.2]) (fun x => 4 ≤ x.1 ∧ x.1 ≤ 128 ∧ x.2.2.length ≤ 10000) fun x => .bl (x.2.2.all (isD x.1))
theorem ok_are_digests (T : Txt K mg) : FnOk P w K mg base CX0 (2) (He.fAd K ("are_digests", none)) T.fd_are_digests ["hasher", "numbers"] (sp_are_digests K) := by
  refine T.are_digests.F.ok sc_are_digests (fun vs H Q E h => len_g h fun _ => rfl) (fun cdv A outer s H vs Q E hr h => ⟨_, PSs.nox (pss_one (ps_ret (pe_callB (kr_all (K := K)) (by rfl) T.z_all (by decide +kernel) (pa_cons (pe_lc (own := [("number", 2)]) rfl sc_are_digests.nd (ki_sq (K := K) (pv 1)) (blkOk_by (own := [("number", 2)]) (N := ["hasher", "numbers", "number"]) (sc := defScope s_are_digests) (by decide +kernel)) (fun _ _ _ _ _ => pg_name (i := 2) sc_are_digests.nd rfl (Or.inl rfl)) (fun _ _ _ _ _ => pts_nil) (fun _ _ _ _ _ => (pe_meth (pv 0) T.cl_Hasher T.me_Hasher_is_digest (ok_Hasher_is_digest T) (hr.mono (by omega)) T.Hasher_is_digest.b .nil pass0 (pa_cons (pv 2) pa_nil)))) pa_nil)))), fn_g h fun x p => ?_⟩)
  change DS K _ (Wp.E.d _ :: (Wp.E.d _ :: (Wp.E.any :: []))) _ _ _ _
  obtain ⟨wd, b, ns⟩ := x
  obtain ⟨w4, w128, hl⟩ := p
  dsimp only at w4 w128 hl ⊢
  have el : (ns.map (isD wd)).all id = ns.all (isD wd) := by rw [List.all_map]; rfl
  have em : ns.map (fun n => D.bl (isD wd n)) = (ns.map (isD wd)).map D.bl := by rw [List.map_map]; rfl
  cases b
  all_goals
    dsimp only [sqD]
    walk_at "d"
    refine de_new (dn_map D.int (fun n => D.bl (isD wd n)) ?_)
    walk_at "d"
    refine ⟨ns, rfl, by omega, fun i n hn => dgw_name rfl (by decide) rfl ?_, ?_⟩
    · walk_at "d"
      refine dc_isdig (by omega) (by omega) ?_
      rfl
    · rw [em]
      walk_at "d"
      rw [el]

end
section
theorem flat_nil : FlatE [] := fun e h => by cases h
theorem flat_any {ρ : List Wp.E} (h : FlatE ρ) : FlatE (.any :: ρ) := fun e he => by
  rcases List.mem_cons.mp he with rfl | he
  · exact .inl rfl
  · exact h e he
theorem flat_d {ρ : List Wp.E} {d : D} (h : FlatE ρ) : FlatE (.d d :: ρ) := fun e he => by
  rcases List.mem_cons.mp he with rfl | he
  · exact .inr ⟨d, rfl⟩
  · exact h e he
abbrev Tr := Int × Int × Int
abbrev bdK : List Str := [Str.ofString "transfers", Str.ofString "roots"]
abbrev bdD (K : PySem.W.Frag) (ts : List Tr) (rs : List Int) : D := .obj (He.ga K "Body") bdK [.tup (ts.map trT), tI rs]
def sp_Body___init__ (K : PySem.W.Frag) : Sp := spO K (fun _ : (Bool × List Tr) × (Bool × List Int) => .ins (He.ga K "Body") [] []) (fun _ => []) (fun x => [sqT x.1.1 x.1.2, sqD x.2.1 x.2.2]) (fun _ => True) fun x d w' => d = .non ∧ w' = .ins (He.ga K "Body") bdK [.tup (x.1.2.map trT), tI x.2.2]
section
local macro_rules | `(tactic| walk_at "d1") => `(tactic| first
  | with_reducible refine dsx_seq ?_
  | with_reducible refine dsx_if ?_
  | with_reducible refine dsx_next ?_
  | with_reducible refine dsx_retN ?_
  | (refine dsx_asg (ds_asgMO ⟨_, _, _, rfl, by decide +kernel, ?_⟩))
  | (refine dsx_asg (ds_asgCO ?_))
  | with_reducible refine dsx_asg ?_
  | with_reducible refine dae_cons ?_
  | with_reducible refine dae_nil ?_
  | (refine dsx_retMO ⟨_, _, _, rfl, by decide +kernel, ?_⟩)
  | (refine dsx_retCO ?_)
  | with_reducible refine dsx_ret ?_
  | (with_reducible refine dsx_fld ?_; refine ds_fldO ?_)
  | (refine ⟨_, _, _, _, rfl, by assumption, by assumption, Nat.le_of_ble_eq_true rfl, ?_⟩; show InsTo _ _ _ _ _ _)
  | ((with_reducible refine' insTo_new ?hncc ?hlcc ?e1cc ?e2cc ?_); (case hncc => decide +kernel); (case hlcc => rfl); (case e1cc => first | (dsimp only [List.cons_append, List.nil_append]; done) | (dsimp only [List.cons_append, List.nil_append]; exact rfl)); (case e2cc => first | (dsimp only [List.cons_append, List.nil_append]; done) | (dsimp only [List.cons_append, List.nil_append]; exact rfl)))
  | (with_reducible refine dsx_fldaug ?_; refine ds_fldaugO ⟨_, _, _, _, _, rfl, by assumption, by assumption, rfl, Nat.le_of_ble_eq_true rfl, ?_⟩)
  | (with_reducible refine dsx_dput ?_; refine ds_dputA ?_)
  | with_reducible refine dsx_drop ?_
  | (refine de_fldO ⟨_, _, _, _, _, rfl, by assumption, by assumption, rfl, ?_⟩))

theorem ok_Body___init__ (T : Txt K mg) : FnOk P w K mg base CX0 (1) (He.fAd K ("Body", some "__init__")) T.fd_Body___init__ ["self", "transfers", "roots"] (sp_Body___init__ K) := by
  refine T.Body___init__.F.ok sc_Body___init__ (fun vs H Q E h => len_oa h fun _ => rfl) (fun cdv A outer s H vs Q E hr h => ⟨_, PSs.nox (pss_cons (ks_fld (K := K) (pv 0) (pe_callTy (kq_tuple (K := K)) (by rfl) T.z_tuple (by decide +kernel) (pa_cons (pv 1) pa_nil)) rfl)
  (pss_one (ks_fld (K := K) (pv 0) (pe_callTy (kq_tuple (K := K)) (by rfl) T.z_tuple (by decide +kernel) (pa_cons (pv 2) pa_nil)) rfl))), fn_o h fun x a p => ?_⟩)
  change DSX K _ (Wp.E.oa _ _ :: (Wp.E.d _ :: (Wp.E.d _ :: []))) _ _
  obtain ⟨⟨b1, ts⟩, ⟨b2, rs⟩⟩ := x
  have c0 := T.cl_Body
  have n1 := T.n_Body_transfers
  have n2 := T.n_Body_roots
  cases b1 <;> cases b2
  all_goals
    dsimp only [sqT, sqD]
    walk_at "d"
    exact ⟨_, rfl, rfl, rfl⟩
end
theorem de_body {K : PySem.W.Frag} {ρ : List Wp.E} {Q : Wp.E → Prop} {E' : XK} {tas : TA} (h : DA K tas ρ fun as => ∃ (b1 b2 : Bool) (ts : List Tr) (rs : List Int), as = [sqT b1 ts, sqD b2 rs] ∧ Q (.d (bdD K ts rs))) : DE K (tMake (He.ga K "Body") (sp_Body___init__ K) [] E' tas) ρ Q :=
  de_makeO (fun _ => rfl) (fun _ => rfl) fun U σ L G o => (h U σ L G o).w fun vs G1 ⟨e1, ds, sd, b1, b2, ts, rs, ed, k⟩ => ⟨e1, ds, sd, ((b1, ts), (b2, rs)), ed, trivial, fun d w' h => h.1, fun w' h => ⟨_, _, h.2, k⟩⟩
/-! ### items -/
abbrev trN (t : Tr) : List Int := [t.1, t.2.1, t.2.2]
def TrB (t : Tr) : Prop := Bd t.1 ∧ Bd t.2.1 ∧ Bd t.2.2
theorem tr_bd {t : Tr} (h : TrB t) : ∀ n ∈ trN t, Bd n := fun n hn => by
  simp only [List.mem_cons, List.mem_nil_iff, or_false] at hn
  rcases hn with rfl | rfl | rfl
  · exact h.1
  · exact h.2.1
  · exact h.2.2
def itW (wd : Int) (t : Tr) : Int := dgst wd 12 (trN t)
def sp_transfer_item (K : PySem.W.Frag) : Sp := spG K (fun x : Int × Tr => [Hs K x.1, trT x.2]) (fun x => 4 ≤ x.1 ∧ x.1 ≤ 128 ∧ TrB x.2) fun x => .int (itW x.1 x.2)
theorem ok_transfer_item (T : Txt K mg) : FnOk P w K mg base CX0 (3) (He.fAd K ("transfer_item", none)) T.fd_transfer_item ["hasher", "transfer"] (sp_transfer_item K) := by
  refine T.transfer_item.F.ok sc_transfer_item (fun vs H Q E h => len_g h fun _ => rfl) (fun cdv A outer s H vs Q E hr h => ⟨_, PSs.nox (pss_one (ps_ret (pe_meth (pv 0) T.cl_Hasher T.me_Hasher_digest (ok_Hasher_digest T) (hr.mono (by omega)) T.Hasher_digest.b .nil pass0 (pa_cons (pe_glob (v := .int 12) rfl T.c_TRANSFER_TAG.choose_spec ⟨_, rfl⟩) (pa_cons (pv 1) pa_nil))))), fn_g h fun x p => ?_⟩)
  change DS K _ (Wp.E.d _ :: (Wp.E.d _ :: [])) _ _ _ _
  obtain ⟨wd, t⟩ := x
  obtain ⟨w4, w128, hb⟩ := p
  dsimp only at w4 w128 hb ⊢
  walk_at "d"
  refine dc_digest (trN t) (.inr rfl) (by omega) w128 (limbs_bd (show 3 ≤ 120 by decide) (tr_bd hb)) ?_
  walk_at "D"
  rfl
def sp_items_of (K : PySem.W.Frag) : Sp := spG K (fun x : Int × Bool × List Tr => [Hs K x.1, sqT x.2.1 x.2.2]) (fun x => 4 ≤ x.1 ∧ x.1 ≤ 128 ∧ x.2.2.length ≤ 90 ∧ ∀ t ∈ x.2.2, TrB t) fun x => lI (x.2.2.map (itW x.1))
theorem ok_items_of (T : Txt K mg) : FnOk P w K mg base CX0 (4) (He.fAd K ("items_of", none)) T.fd_items_of ["hasher", "transfers"] (sp_items_of K) := by
  refine T.items_of.F.ok sc_items_of (fun vs H Q E h => len_g h fun _ => rfl) (fun cdv A outer s H vs Q E hr h => ⟨_, PSs.nox (pss_one (ps_ret (pe_lc (own := [("transfer", 2)]) rfl sc_items_of.nd (ki_sq (K := K) (pv 1)) (blkOk_by (own := [("transfer", 2)]) (N := ["hasher", "transfers", "transfer"]) (sc := defScope s_items_of) (by decide +kernel)) (fun _ _ _ _ _ => pg_name (i := 2) sc_items_of.nd rfl (Or.inl rfl)) (fun _ _ _ _ _ => pts_nil) (fun _ _ _ _ _ => (pe_call (ok_transfer_item T) (hr.mono (by omega)) (by rfl) T.transfer_item.g T.transfer_item.F.kp T.transfer_item.b .nil pass0 (pa_cons (pv 0) (pa_cons (pv 2) pa_nil))))))), fn_g h fun x p => ?_⟩)
  change DS K _ (Wp.E.d _ :: (Wp.E.d _ :: (Wp.E.any :: []))) _ _ _ _
  obtain ⟨wd, b, ts⟩ := x
  obtain ⟨w4, w128, hl, hb⟩ := p
  dsimp only at w4 w128 hl hb ⊢
  cases b
  all_goals
    dsimp only [sqT]
    refine ds_ret (de_new (dn_map trT (fun t => D.int (itW wd t)) ?_))
    walk_at "d"
    refine ⟨ts, rfl, by omega, fun i t ht => dgw_name rfl (by decide) rfl ?_, ?_⟩
    · walk_at "d"
      refine dc_g (wd, t) rfl ⟨w4, w128, hb t (List.mem_of_getElem? ht)⟩ ?_
      rfl
    refine ⟨_, rfl, ?_⟩
    show D.lst (ts.map fun t => D.int (itW wd t)) = lI (ts.map (itW wd))
    rw [show lI (ts.map (itW wd)) = D.lst ((ts.map (itW wd)).map D.int) from rfl, List.map_map]
    rfl
/-! ### bodies -/
def stP (m : Mp) (ts : List Tr) : Mp := ts.foldl movedM m
def okP : Mp → List Tr → Prop
  | _, [] => True
  | m, t :: ts => tfM m t = none ∧ okP (movedM m t) ts
def rtsP (wd : Int) (m : Mp) (ts : List Tr) : List Int := (List.range (ts.length + 1)).map fun i => digM wd 32 (stP m (ts.take i))
theorem okP_at : ∀ {ts : List Tr} {m : Mp} {i : Nat} {t : Tr}, okP m ts → ts[i]? = some t → tfM (stP m (ts.take i)) t = none
  | [], _, _, _, _, h => by simp at h
  | u :: ts, m, 0, t, ⟨h, _⟩, e => by simp at e; subst e; exact h
  | u :: ts, m, i + 1, t, ⟨_, h⟩, e => by
    rw [List.getElem?_cons_succ] at e
    rw [List.take_succ_cons]
    exact okP_at h e
theorem stP_acc : ∀ {ts : List Tr} {m : Mp}, Acc m → okP m ts → Acc (stP m ts)
  | [], _, h, _ => h
  | t :: ts, m, h, ⟨h1, h2⟩ => stP_acc (ts := ts) (moved_acc h h1) h2
theorem okP_take : ∀ {ts : List Tr} {m : Mp} (i : Nat), okP m ts → okP m (ts.take i)
  | [], _, i, _ => by simp; trivial
  | t :: ts, m, 0, _ => trivial
  | t :: ts, m, i + 1, ⟨h1, h2⟩ => ⟨h1, okP_take i h2⟩
theorem stP_len : ∀ (ts : List Tr) (m : Mp), (stP m ts).length ≤ m.length + 2 * ts.length
  | [], m => Nat.le_refl _
  | t :: ts, m => by
    have h1 := stP_len ts (movedM m t)
    have h2 := moved_len (m := m) (t := t)
    show (stP (movedM m t) ts).length ≤ _
    rw [List.length_cons]
    omega
theorem stP_sum : ∀ {ts : List Tr} {m : Mp}, Acc m → okP m ts → sumP (stP m ts) = sumP m
  | [], _, _, _ => rfl
  | t :: ts, m, h, ⟨h1, h2⟩ => (stP_sum (ts := ts) (moved_acc h h1) h2).trans (moved_sum h.1 h1)
theorem acc_en {m : Mp} {s : Int} (h : Acc m) (hs : sumP m = s) (h2 : s ≤ 1000000) : ∀ p ∈ m, EnB p ∧ PaB p := fun p hp => by
  obtain ⟨hk, h1⟩ := h.2 p hp
  have hle : ∀ (l : Mp), (∀ q ∈ l, 1 ≤ q.2) → ∀ q ∈ l, 0 ≤ q.2 ∧ q.2 ≤ (l.map (·.2)).sum ∧ 0 ≤ (l.map (·.2)).sum := fun l => by
    induction l with
    | nil => intro _ q hq; cases hq
    | cons a l ih =>
      intro hl q hq
      have nn : 0 ≤ (l.map (·.2)).sum := by
        cases l with
        | nil => exact Int.le_refl 0
        | cons b l => exact (ih (fun q hq => hl q (List.mem_cons_of_mem _ hq)) b List.mem_cons_self).2.2
      have ha := hl a List.mem_cons_self
      rw [List.map_cons, List.sum_cons]
      rcases List.mem_cons.mp hq with rfl | hq
      · omega
      · have := ih (fun q hq => hl q (List.mem_cons_of_mem _ hq)) q hq
        omega
  have hm := hle m (fun q hq => (h.2 q hq).2) p hp
  have hs' : (m.map (·.2)).sum = s := hs
  exact ⟨⟨bd_rng (k := 32) hk.1 hk.2 (by decide), bd_small (by omega) (by omega)⟩, hk, by omega, Int.lt_of_le_of_lt (show p.2 ≤ 1000000 by omega) (by decide)⟩
def MbX (x : Int × Mp × Bool × List Tr) : Prop := 4 ≤ x.1 ∧ x.1 ≤ 128 ∧ Acc x.2.1 ∧ okP x.2.1 x.2.2.2 ∧ x.2.1.length ≤ 100 ∧ x.2.2.2.length ≤ 90 ∧ sumP x.2.1 ≤ 1000000
def sp_made_body (K : PySem.W.Frag) : Sp := spG K (fun x : Int × Mp × Bool × List Tr => [Hs K x.1, .dc (mI x.2.1), sqT x.2.2.1 x.2.2.2]) MbX fun x => bdD K x.2.2.2 (rtsP x.1 x.2.1 x.2.2.2)
local macro_rules | `(tactic| walk_at "d1") => `(tactic| with_reducible refine de_body ?_)
theorem ok_made_body (T : Txt K mg) : FnOk P w K mg base CX0 (100) (He.fAd K ("made_body", none)) T.fd_made_body ["hasher", "pairs", "transfers"] (sp_made_body K) := by
  refine T.made_body.F.ok sc_made_body (fun vs H Q E h => len_g h fun _ => rfl) (fun cdv A outer s H vs Q E hr h => ⟨_, PSs.nox (pss_cons (ps_set (i := 3) sc_made_body.nd rfl (Or.inl rfl) (pv 1))
  (pss_cons (ps_set (i := 4) sc_made_body.nd rfl (Or.inl rfl) (pe_lst (pa_cons (pe_call (ok_map_root T) (hr.mono (by omega)) (by rfl) T.map_root.g T.map_root.F.kp T.map_root.b .nil pass0 (pa_cons (pv 0) (pa_cons (pv 3) pa_nil))) pa_nil)))
  (pss_cons (ps_for PassesOwn.never rfl (ki_sq (K := K) (pv 2)) (pg_name (i := 5) sc_made_body.nd rfl (Or.inl rfl)) (pss_cons (ps_set (i := 3) sc_made_body.nd rfl (Or.inl rfl) (pe_call (ok_moved T) (hr.mono (by omega)) (by rfl) T.moved.g T.moved.F.kp T.moved.b .nil pass0 (pa_cons (pv 3) (pa_cons (pv 5) pa_nil))))
  (pss_one (ps_expr (pe_bm PySem.F.plainAttrs_list PySem.F.slot_list_append PySem.F.type_list_append mt_append (pv 4) (pa_cons (pe_call (ok_map_root T) (hr.mono (by omega)) (by rfl) T.map_root.g T.map_root.F.kp T.map_root.b .nil pass0 (pa_cons (pv 0) (pa_cons (pv 3) pa_nil))) pa_nil))))))
  (pss_one (ps_ret (pe_make T.mk_Body (ok_Body___init__ T) (hr.mono (by omega)) (by rfl) T.g_Body T.Body___init__.b .nil pass0 (pa_cons (pv 2) (pa_cons (pv 4) pa_nil)))))))), fn_g h fun x p => ?_⟩)
  change DS K _ (Wp.E.d _ :: (Wp.E.d _ :: (Wp.E.d _ :: (Wp.E.any :: (Wp.E.any :: (Wp.E.any :: [])))))) _ _ _ _
  obtain ⟨wd, m, b, ts⟩ := x
  obtain ⟨w4, w128, hm, hok, hml, htl, hsm⟩ := p
  dsimp only at w4 w128 hm hok hml htl hsm ⊢
  have good : ∀ i, Acc (stP m (ts.take i)) ∧ (stP m (ts.take i)).length ≤ 300 ∧ ∀ p ∈ stP m (ts.take i), EnB p := fun i => by
    have a := stP_acc hm (okP_take i hok)
    refine ⟨a, ?_, fun p hp => (acc_en a (stP_sum hm (okP_take i hok)) hsm p hp).1⟩
    have h1 := stP_len (ts.take i) m
    rw [List.length_take] at h1
    omega
  walk_at "d"
  refine dc_g (wd, m) rfl ⟨w4, w128, by show m.length ≤ 1000; omega, (good 0).2.2⟩ ?_
  walk_at "D"
  refine ds_for ?_
  walk_at "d"
  refine ⟨ts.map trT, by cases b; exact .inl rfl; exact .inr rfl, ?_⟩
  have grow : ∀ i, ((List.range (i + 1)).map fun i => digM wd 32 (stP m (ts.take i))) ++ [digM wd 32 (stP m (ts.take (i + 1)))] = (List.range (i + 1 + 1)).map fun i => digM wd 32 (stP m (ts.take i)) := fun i => by rw [List.range_succ (n := i + 1), List.map_append]; rfl
  refine ⟨fun i ρ => ∃ e5, ρ = [.d (Hs K wd), .d (.dc (mI m)), .d (sqT b ts), .d (.dc (mI (stP m (ts.take i)))), .own (((List.range (i + 1)).map fun i => digM wd 32 (stP m (ts.take i))).map D.int), e5], ⟨_, EnvLe.refl _, _, rfl⟩, ?_, ?_⟩
  · rintro i d ρ hi ⟨e5, rfl⟩
    rw [List.getElem?_map] at hi
    obtain ⟨t, hti, rfl⟩ := Option.map_eq_some_iff.mp hi
    have hil := (List.getElem?_eq_some_iff.mp hti).1
    have ht := okP_at hok hti
    obtain ⟨ga, gl, ge⟩ := good i
    have hst : stP m (ts.take (i + 1)) = movedM (stP m (ts.take i)) t := by unfold stP; rw [List.take_add_one, hti, List.foldl_append]; rfl
    obtain ⟨_, gl2, ge2⟩ := good (i + 1)
    walk_at "d"
    refine dc_g (stP m (ts.take i), t) rfl ⟨by show (stP m (ts.take i)).length ≤ 1000; omega, (tf_some ht).1⟩ ?_
    walk_at "D"
    rw [← hst]
    refine dc_g (wd, stP m (ts.take (i + 1))) rfl ⟨w4, w128, by show (stP m (ts.take (i + 1))).length ≤ 1000; omega, ge2⟩ ?_
    walk_at "D"
    refine ⟨by rw [List.length_map, List.length_map, List.length_range]; exact Nat.lt_of_le_of_lt (show i + 1 ≤ 1000 by omega) (by decide), ?_⟩
    walk_at "d"
    refine' ⟨_, EnvLe.refl _, _, by rw [← grow i, List.map_append]; exact rfl⟩
  · rintro ρ ⟨e5, rfl⟩
    rw [List.length_map, List.take_length]
    refine ds_freeze 4 rfl rfl ?_
    walk_at "d"
    refine ⟨b, false, ts, rtsP wd m ts, rfl, ?_⟩
    walk_at "d"
    rfl
/-! ### what a state tells of a body -/
abbrev mtM (wd root : Int) (ts : List Tr) (rs : List Int) : Mp := [(1, root), (2, rootN wd (ts.map (itW wd))), (3, (ts.length : Int)), (4, rootN wd rs)]
theorem itm_it {wd : Int} (w4 : 4 ≤ wd) (w128 : wd ≤ 128) (ts : List Tr) : ∀ y ∈ ts.map (itW wd), Itm y := fun y hy => by
  obtain ⟨t, _, rfl⟩ := List.mem_map.mp hy
  exact itm_root' w4 w128 12 (trN t)
def sp_meta_of (K : PySem.W.Frag) : Sp := spG K (fun x : Int × Int × List Tr × List Int => [Hs K x.1, .int x.2.1, bdD K x.2.2.1 x.2.2.2]) (fun x => 4 ≤ x.1 ∧ x.1 ≤ 128 ∧ x.2.2.1.length ≤ 30 ∧ (∀ t ∈ x.2.2.1, TrB t) ∧ x.2.2.2.length ≤ 32 ∧ ∀ y ∈ x.2.2.2, Itm y) fun x => .dc (mI (mtM x.1 x.2.1 x.2.2.1 x.2.2.2))
theorem ok_meta_of (T : Txt K mg) : FnOk P w K mg base CX0 (41) (He.fAd K ("meta_of", none)) T.fd_meta_of ["hasher", "root", "body"] (sp_meta_of K) := by
  refine T.meta_of.F.ok sc_meta_of (fun vs H Q E h => len_g h fun _ => rfl) (fun cdv A outer s H vs Q E hr h => ⟨_, PSs.nox (pss_one (ps_ret (pe_disp (pps_cons (pe_glob (v := .int 1) rfl T.c_ACCOUNTS_KEY.choose_spec ⟨_, rfl⟩) (pv 1) (pps_cons (pe_glob (v := .int 2) rfl T.c_ITEMS_KEY.choose_spec ⟨_, rfl⟩) (pe_call (ok_list_root T) (hr.mono (by omega)) (by rfl) T.list_root.g T.list_root.F.kp T.list_root.b .nil pass0 (pa_cons (pv 0) (pa_cons (pe_call (ok_items_of T) (hr.mono (by omega)) (by rfl) T.items_of.g T.items_of.F.kp T.items_of.b .nil pass0 (pa_cons (pv 0) (pa_cons (ke_fld (K := K) (pv 2)) pa_nil))) pa_nil))) (pps_cons (pe_glob (v := .int 3) rfl T.c_COUNT_KEY.choose_spec ⟨_, rfl⟩) (pe_callB (kq_lenA (K := K)) (by rfl) T.z_len (by decide +kernel) (pa_cons (ke_fld (K := K) (pv 2)) pa_nil)) (pps_cons (pe_glob (v := .int 4) rfl T.c_ROOTS_KEY.choose_spec ⟨_, rfl⟩) (pe_call (ok_list_root T) (hr.mono (by omega)) (by rfl) T.list_root.g T.list_root.F.kp T.list_root.b .nil pass0 (pa_cons (pv 0) (pa_cons (ke_fld (K := K) (pv 2)) pa_nil))) pps_nil)))) rfl rfl (by simp) (by decide)))), fn_g h fun x p => ?_⟩)
  change DS K _ (Wp.E.d _ :: (Wp.E.d _ :: (Wp.E.d _ :: []))) _ _ _ _
  obtain ⟨wd, root, ts, rs⟩ := x
  obtain ⟨w4, w128, htl, htb, hrl, hrb⟩ := p
  dsimp only at w4 w128 htl htb hrl hrb ⊢
  have c0 := T.cl_Body
  have n1 := T.n_Body_transfers
  have n2 := T.n_Body_roots
  walk_at "d"
  refine de_newD (dn_disp (by show 4 ≤ 15; decide) ?_)
  unfold DPs
  walk_at "d"
  unfold DPs
  walk_at "d"
  refine dc_g (wd, true, ts) rfl ⟨w4, w128, by show ts.length ≤ 90; omega, htb⟩ ?_
  walk_at "D"
  refine dc_g (wd, false, ts.map (itW wd)) rfl ⟨w4, w128, by rw [List.length_map]; omega, by rw [List.length_map]; omega, itm_it w4 w128 ts⟩ ?_
  walk_at "D"
  unfold DPs
  walk_at "d"
  unfold DPs
  walk_at "d"
  refine dc_g (wd, true, rs) rfl ⟨w4, w128, by show rs.length < 34; omega, by show rs.length ≤ 100; omega, hrb⟩ ?_
  walk_at "D"
  unfold DPs
  exact dd rfl
def bfX (wd : Int) (me : Mp) (ts : List Tr) (rs : List Int) : Option Str :=
  if ¬ srt (me.map (·.1)) = [1, 2, 3, 4] then some (Str.ofString "keys") else if (ts.flatMap fun t => (trN t).map fun n => decide (n < 0)).any id = true then some (Str.ofString "transfers")
  else if ¬ (getP me 3).getD 0 = (ts.length : Int) then some (Str.ofString "transfers") else if ¬ (getP me 2).getD 0 = rootN wd (ts.map (itW wd)) then some (Str.ofString "transfers")
  else if ¬ rs.all (isD wd) = true then some (Str.ofString "roots") else if ¬ (rs.length : Int) = (ts.length : Int) + 1 then some (Str.ofString "roots")
  else if ¬ (getP me 4).getD 0 = rootN wd rs then some (Str.ofString "roots") else none
theorem key_some {me : Mp} (h : srt (me.map (·.1)) = [1, 2, 3, 4]) {k : Int} (hk : k = 2 ∨ k = 3 ∨ k = 4) : getP me k = some ((getP me k).getD 0) := by
  have : k ∈ srt (me.map (·.1)) := by rw [h]; rcases hk with rfl | rfl | rfl <;> simp
  have := getP_isSome.mpr (mem_srt.mp this)
  cases z : getP me k with
  | none => rw [z] at this; cases this
  | some v => rfl
theorem isD_itm {wd : Int} (w128 : wd ≤ 128) {rs : List Int} (h : rs.all (isD wd) = true) : ∀ y ∈ rs, Itm y := fun y hy => by
  have := of_decide_eq_true (List.all_eq_true.mp h y hy)
  exact ⟨this.1, bd_rng (k := wd.toNat) this.1 this.2 (by omega)⟩
def sp_body_fault (K : PySem.W.Frag) : Sp := spG K (fun x : Int × Mp × List Tr × List Int => [Hs K x.1, .dc (mI x.2.1), bdD K x.2.2.1 x.2.2.2]) (fun x => 4 ≤ x.1 ∧ x.1 ≤ 128 ∧ x.2.1.length ≤ 60 ∧ x.2.2.1.length ≤ 30 ∧ (∀ t ∈ x.2.2.1, TrB t) ∧ x.2.2.2.length ≤ 32) fun x => sD (bfX x.1 x.2.1 x.2.2.1 x.2.2.2)
local macro_rules | `(tactic| walk_at "d1") => `(tactic| with_reducible refine de_new (dn_sortL ?_))
local macro_rules | `(tactic| walk_at "d1") => `(tactic| with_reducible refine de_new (dn_list ?_))
theorem ok_body_fault (T : Txt K mg) : FnOk P w K mg base CX0 (41) (He.fAd K ("body_fault", none)) T.fd_body_fault ["hasher", "meta", "body"] (sp_body_fault K) := by
  refine T.body_fault.F.ok sc_body_fault (fun vs H Q E h => len_g h fun _ => rfl) (fun cdv A outer s H vs Q E hr h => ⟨_, PSs.nox (pss_cons (ps_if (pt_cmpR (kp_neB (K := K) hr.units) (pe_callB (kr_sortA (K := K)) (by rfl) T.z_sorted (by decide +kernel) (pa_cons (pe_callTy (kq_listA (K := K)) (by rfl) T.z_list (by decide +kernel) (pa_cons (pv 1) pa_nil)) pa_nil)) (pe_callTy (kq_listA (K := K)) (by rfl) T.z_list (by decide +kernel) (pa_cons (pe_glob (v := .ref (He.ga K "META_KEYS")) (by rfl) T.g_META_KEYS rfl) pa_nil)) (nomark _)) (pss_one (ps_ret pe_str)) pss_nil)
  (pss_cons (ps_if (pt_val (pe_callB (kr_any (K := K)) (by rfl) T.z_any (by decide +kernel) (pa_cons (pe_lc2 (own := [("transfer", 3), ("number", 4)]) (vs1 := [4]) rfl sc_body_fault.nd (ki_sq (K := K) (ke_fld (K := K) (pv 2))) (blkOk_by (own := [("transfer", 3), ("number", 4)]) (N := ["hasher", "meta", "body", "transfer", "number"]) (sc := defScope s_body_fault) (by decide +kernel)) (by decide) (fun _ _ _ _ _ => pg_name (i := 3) sc_body_fault.nd rfl (Or.inl rfl)) (fun _ _ _ _ _ => pts_nil) (fun _ _ _ _ _ => (ki_sq (K := K) (pv 3))) (fun _ _ _ _ _ => pg_name (i := 4) sc_body_fault.nd rfl (Or.inl rfl)) (fun _ _ _ _ _ => pts_nil) (fun _ _ _ _ _ => (pe_cmpR (op_lt) (pv 4) pe_int (nomark _)))) pa_nil))) (pss_one (ps_ret pe_str)) pss_nil)
  (pss_cons (ps_if (pt_cmpR (kp_neB (K := K) hr.units) (pe_dget (hu_of hr) (pv 1) (pe_glob (v := .int 3) rfl T.c_COUNT_KEY.choose_spec ⟨_, rfl⟩) (fun _ _ => rfl)) (pe_callB (kq_lenA (K := K)) (by rfl) T.z_len (by decide +kernel) (pa_cons (ke_fld (K := K) (pv 2)) pa_nil)) (nomark _)) (pss_one (ps_ret pe_str)) pss_nil)
  (pss_cons (ps_if (pt_cmpR (kp_neB (K := K) hr.units) (pe_dget (hu_of hr) (pv 1) (pe_glob (v := .int 2) rfl T.c_ITEMS_KEY.choose_spec ⟨_, rfl⟩) (fun _ _ => rfl)) (pe_call (ok_list_root T) (hr.mono (by omega)) (by rfl) T.list_root.g T.list_root.F.kp T.list_root.b .nil pass0 (pa_cons (pv 0) (pa_cons (pe_call (ok_items_of T) (hr.mono (by omega)) (by rfl) T.items_of.g T.items_of.F.kp T.items_of.b .nil pass0 (pa_cons (pv 0) (pa_cons (ke_fld (K := K) (pv 2)) pa_nil))) pa_nil))) (nomark _)) (pss_one (ps_ret pe_str)) pss_nil)
  (pss_cons (ps_if (PW.pt (pw_or (pt_not (pt_val (pe_call (ok_are_digests T) (hr.mono (by omega)) (by rfl) T.are_digests.g T.are_digests.F.kp T.are_digests.b .nil pass0 (pa_cons (pv 0) (pa_cons (ke_fld (K := K) (pv 2)) pa_nil))))) (pw_or1 (pt_cmpR (kp_neB (K := K) hr.units) (pe_callB (kq_lenA (K := K)) (by rfl) T.z_len (by decide +kernel) (pa_cons (ke_fld (K := K) (pv 2)) pa_nil)) (pe_op (kp_addA (K := K)) (pe_callB (kq_lenA (K := K)) (by rfl) T.z_len (by decide +kernel) (pa_cons (ke_fld (K := K) (pv 2)) pa_nil)) pe_int) (nomark _))))) (pss_one (ps_ret pe_str)) pss_nil)
  (pss_cons (ps_if (pt_cmpR (kp_neB (K := K) hr.units) (pe_dget (hu_of hr) (pv 1) (pe_glob (v := .int 4) rfl T.c_ROOTS_KEY.choose_spec ⟨_, rfl⟩) (fun _ _ => rfl)) (pe_call (ok_list_root T) (hr.mono (by omega)) (by rfl) T.list_root.g T.list_root.F.kp T.list_root.b .nil pass0 (pa_cons (pv 0) (pa_cons (ke_fld (K := K) (pv 2)) pa_nil))) (nomark _)) (pss_one (ps_ret pe_str)) pss_nil)
  (pss_one (ps_ret pe_non)))))))), fn_g h fun x p => ?_⟩)
  change DS K _ (Wp.E.d _ :: (Wp.E.d _ :: (Wp.E.d _ :: (Wp.E.any :: (Wp.E.any :: []))))) _ _ _ _
  obtain ⟨wd, me, ts, rs⟩ := x
  obtain ⟨w4, w128, hml, htl, htb, hrl⟩ := p
  dsimp only at w4 w128 hml htl htb hrl ⊢
  have c0 := T.cl_Body
  have n1 := T.n_Body_transfers
  have n2 := T.n_Body_roots
  walk_at "d"
  refine ⟨me.map (·.1), .inl rfl, ?_⟩
  walk_at "d"
  refine de_cT T.t_META_KEYS ?_
  walk_at "d"
  refine dr_neBX (decide (srt (me.map (·.1)) = [1, 2, 3, 4])) ⟨fun z => by rw [of_decide_eq_true z], fun z => by injection z with z; exact decide_eq_true (ints_inj z)⟩ (plains_map (fun _ => rfl) _) (plains_map (fun _ => rfl) _) (lI_dep _) (lI_dep _) ?_
  walk_at "d"
  unfold bfX
  refine ifn (fun g1 => ?_) (fun g1 => ?_)
  · rw [if_pos g1]
    walk_at "d"
    rfl
  rw [if_neg (fun z : ¬ _ => z g1)]
  walk_at "d"
  refine de_new (dn_flat trT D.int trN (fun _ n => D.bl (decide (n < 0))) ?_)
  walk_at "d"
  refine ⟨ts, rfl, by omega, fun t _ => by show 3 ≤ 1000; decide, fun i t ht => dgw_name rfl (by decide) rfl ?_, ?_⟩
  · refine ⟨?_, ?_⟩
    · show FlatE [.d _, .d _, .d _, .d _, .any]
      exact flat_d (flat_d (flat_d (flat_d (flat_any flat_nil))))
    walk_at "d"
    refine ⟨rfl, fun j n hn => dgw_name rfl (by decide) rfl ?_⟩
    walk_at "d"
    rfl
  rw [show (ts.flatMap fun x => (trN x).map fun n => D.bl (decide (n < 0))) = (ts.flatMap fun t => (trN t).map fun n => decide (n < 0)).map D.bl by rw [List.map_flatMap]; congr 1]
  walk_at "d"
  generalize hany : (ts.flatMap fun t => (trN t).map fun n => decide (n < 0)).any id = an
  cases an with
  | true =>
    refine ite_t rfl ?_
    rw [if_pos rfl]
    walk_at "d"
    rfl
  | false =>
  refine ite_f Bool.false_ne_true ?_
  rw [if_neg Bool.false_ne_true]
  walk_at "d"
  refine get_some (v := (getP me 3).getD 0) (key_some g1 (.inr (.inl rfl))) ?_
  walk_at "d"
  refine ifn (fun g2 => ?_) (fun g2 => ?_)
  · rw [if_pos g2]
    walk_at "d"
    rfl
  rw [if_neg (fun z : ¬ _ => z g2)]
  walk_at "d"
  refine get_some (v := (getP me 2).getD 0) (key_some g1 (.inl rfl)) ?_
  walk_at "d"
  refine dc_g (wd, true, ts) rfl ⟨w4, w128, by show ts.length ≤ 90; omega, htb⟩ ?_
  walk_at "D"
  refine dc_g (wd, false, ts.map (itW wd)) rfl ⟨w4, w128, by rw [List.length_map]; omega, by rw [List.length_map]; omega, itm_it w4 w128 ts⟩ ?_
  walk_at "D"
  refine ifn (fun g3 => ?_) (fun g3 => ?_)
  · rw [if_pos g3]
    walk_at "d"
    rfl
  rw [if_neg (fun z : ¬ _ => z g3)]
  walk_at "d"
  refine dc_g (wd, true, rs) rfl ⟨w4, w128, by show rs.length ≤ 10000; omega⟩ ?_
  dsimp only
  cases hd : rs.all (isD wd) with
  | false =>
    rw [if_pos Bool.false_ne_true]
    walk_at "d"
    rfl
  | true =>
  rw [if_neg (fun z : ¬ _ => z rfl)]
  walk_at "d"
  refine ifn (fun g4 => ?_) (fun g4 => ?_)
  · rw [if_pos g4]
    walk_at "d"
    rfl
  rw [if_neg (fun z : ¬ _ => z g4)]
  walk_at "d"
  refine get_some (v := (getP me 4).getD 0) (key_some g1 (.inr (.inr rfl))) ?_
  walk_at "d"
  refine dc_g (wd, true, rs) rfl ⟨w4, w128, by show rs.length < 34; omega, by show rs.length ≤ 100; omega, isD_itm w128 hd⟩ ?_
  walk_at "D"
  refine ifn (fun g5 => ?_) (fun g5 => ?_)
  · rw [if_pos g5]
    walk_at "d"
    rfl
  rw [if_neg (fun z : ¬ _ => z g5)]
  walk_at "d"
  rfl

end
end
section
variable {P : Program} {w : World} {K : PySem.W.Frag} {mg : Str → Option Value} {base : Heap}
section
theorem getP_perm {m n : Mp} (nd : (m.map (·.1)).Nodup) (p : m.Perm n) (k : Int) : getP m k = getP n k := by
  have nd2 : (n.map (·.1)).Nodup := (p.map _).nodup_iff.mp nd
  cases h : getP m k with
  | some v => exact (mem_getP nd2 (p.mem_iff.mp (getP_mem h))).symm
  | none =>
    cases h2 : getP n k with
    | none => rfl
    | some v => rw [mem_getP nd (p.mem_iff.mpr (getP_mem h2))] at h; cases h
/-! ### the law's own moves -/
def lmW (m : Mp) (t : Tr) : Mp := (lmvM m t).filter fun p => decide (0 < p.2)
def stL (m : Mp) (ts : List Tr) : Mp := ts.foldl lmW m
def okL : Mp → List Tr → Prop
  | _, [] => True
  | m, t :: ts => tfM m t = none ∧ okL (lmW m t) ts
theorem stL_snoc (m : Mp) (ts : List Tr) (t : Tr) : stL m (ts ++ [t]) = lmW (stL m ts) t := by unfold stL; rw [List.foldl_append]; rfl
theorem okL_snoc : ∀ {ts : List Tr} {m : Mp} {t : Tr}, okL m ts → tfM (stL m ts) t = none → okL m (ts ++ [t])
  | [], _, _, _, h => ⟨h, trivial⟩
  | u :: ts, m, t, ⟨h1, h2⟩, h => ⟨h1, okL_snoc (ts := ts) h2 h⟩
theorem okL_at : ∀ {ts : List Tr} {m : Mp} {i : Nat} {t : Tr}, okL m ts → ts[i]? = some t → tfM (stL m (ts.take i)) t = none
  | [], _, _, _, _, h => by simp at h
  | u :: ts, m, 0, t, ⟨h, _⟩, e => by simp at e; subst e; exact h
  | u :: ts, m, i + 1, t, ⟨_, h⟩, e => by
    rw [List.getElem?_cons_succ] at e
    rw [List.take_succ_cons]
    exact okL_at h e
theorem nd_of : ∀ {a : Mp}, Nd a → a.Nodup
  | [], _ => List.nodup_nil
  | p :: a, h => by
    have h' := List.nodup_cons.mp (show (p.1 :: a.map (·.1)).Nodup from h)
    exact List.nodup_cons.mpr ⟨fun z => h'.1 (List.mem_map.mpr ⟨p, z, rfl⟩), nd_of h'.2⟩
theorem perm_of_getP {a b : Mp} (na : Nd a) (nb : Nd b) (h : ∀ k, getP a k = getP b k) : a.Perm b := by
  have da : a.Nodup := nd_of na
  have db : b.Nodup := nd_of nb
  refine (List.perm_ext_iff_of_nodup da db).mpr fun p => ⟨fun hp => ?_, fun hp => ?_⟩
  · have := mem_getP na hp
    rw [h] at this
    exact getP_mem this
  · have := mem_getP nb hp
    rw [← h] at this
    exact getP_mem this
theorem tf_perm {a b : Mp} (na : Nd a) (p : a.Perm b) (t : Tr) : tfM a t = tfM b t := by
  unfold tfM
  rw [getP_perm na p t.1]
theorem nd_perm {a b : Mp} (na : Nd a) (p : a.Perm b) : Nd b := (p.map _).nodup_iff.mp na
theorem acc_perm {a b : Mp} (h : Acc a) (p : a.Perm b) : Acc b := ⟨nd_perm h.1 p, fun x hx => h.2 x (p.mem_iff.mpr hx)⟩
theorem lm_nd (m : Mp) (t : Tr) : Nd (lmW m t) := (List.filter_sublist.map _).nodup lmv_nd
theorem mv_perm {a b : Mp} {t : Tr} (ha : Acc a) (hb : Acc b) (p : a.Perm b) (h : tfM b t = none) : (movedM a t).Perm (lmW b t) := by
  refine perm_of_getP (moved_nd ha.1) (lm_nd b t) fun k => ?_
  have e := (meq_iff (moved_nd hb.1) (lm_nd b t)).mp (moved_law hb h) k
  rw [← e, get_moved, get_moved, getP_perm ha.1 p, getP_perm ha.1 p, getP_perm ha.1 p]
theorem st_perm : ∀ {ts : List Tr} {a b : Mp}, Acc a → Acc b → a.Perm b → okL b ts → okP a ts ∧ (stP a ts).Perm (stL b ts) ∧ Acc (stL b ts)
  | [], a, b, ha, hb, p, _ => ⟨trivial, p, hb⟩
  | t :: ts, a, b, ha, hb, p, ⟨h1, h2⟩ => by
    have ta : tfM a t = none := by rw [tf_perm ha.1 p]; exact h1
    have q := mv_perm ha hb p h1
    have h := st_perm (ts := ts) (moved_acc ha ta) (acc_perm (moved_acc ha ta) q) q h2
    exact ⟨⟨ta, h.1⟩, h.2⟩
theorem sum_permI {a b : List Int} (p : a.Perm b) : a.sum = b.sum := by
  induction p with
  | nil => rfl
  | cons x _ ih => rw [List.sum_cons, List.sum_cons, ih]
  | swap x y l => rw [List.sum_cons, List.sum_cons, List.sum_cons, List.sum_cons]; omega
  | trans _ _ h1 h2 => exact h1.trans h2
theorem sum_perm {a b : Mp} (p : a.Perm b) : sumP a = sumP b := sum_permI (p.map (·.2))
theorem stL_good {m : Mp} {ts : List Tr} (h : Acc m) (ho : okL m ts) : Acc (stL m ts) ∧ (stL m ts).length ≤ m.length + 2 * ts.length ∧ sumP (stL m ts) = sumP m := by
  obtain ⟨h1, h2, h3⟩ := st_perm h h (List.Perm.refl m) ho
  exact ⟨h3, by rw [← h2.length_eq]; exact stP_len ts m, (sum_perm h2).symm.trans (stP_sum h h1)⟩

end
section
/-! ### what the law draws -/
def sp__law_right (K : PySem.W.Frag) : Sp := spSL K (fun x : Mp × Int => [.dc (mI x.1), .int x.2]) (fun x => Acc x.1 ∧ x.1.length ≤ 5 ∧ 0 ≤ x.2 ∧ x.2 ≤ 8) fun x es => ∃ ts : List Tr, es = [.own (ts.map trT), .d (.dc (mI (stL x.1 ts)))] ∧ okL x.1 ts ∧ (ts.length : Int) ≤ x.2
section
local macro_rules | `(tactic| walk_at "d1") => `(tactic| with_reducible refine dsl_seq ?_)
theorem ok__law_right (T : Txt K mg) : FnOk P w K mg base CX0 (3) (He.fAd K ("_law_right", none)) T.fd__law_right ["state", "script", "pairs", "most"] (sp__law_right K) := by
  refine T._law_right.F.ok sc__law_right (fun vs H Q E h => len_sl h fun _ => rfl) (fun cdv A outer s H vs Q E hr h => ⟨_, PSs.nox (pss_cons (ps_set (i := 4) sc__law_right.nd rfl (Or.inl rfl) (pe_lst pa_nil))
  (pss_cons (ps_for PassesOwn.never rfl (pi_range1 rfl T.z_range (pa_cons (pe_call (ok__law_draw T) (hr.mono (by omega)) (by rfl) T._law_draw.g T._law_draw.F.kp T._law_draw.b .nil pass0 (pa_cons (pv 0) (pa_cons (pv 1) (pa_cons (pe_op (kp_addA (K := K)) (pv 3) pe_int) pa_nil)))) pa_nil)) (pg_name (i := 5) sc__law_right.nd rfl (Or.inl rfl)) (pss_cons (ps_set (i := 6) sc__law_right.nd rfl (Or.inl rfl) (pe_call (ok__law_transfer T) (hr.mono (by omega)) (by rfl) T._law_transfer.g T._law_transfer.F.kp T._law_transfer.b .nil pass0 (pa_cons (pv 0) (pa_cons (pv 1) (pa_cons (pv 2) pa_nil)))))
  (pss_one (ps_if (pt_cmpR (op_isN1) (pe_call (ok__law_fault T) (hr.mono (by omega)) (by rfl) T._law_fault.g T._law_fault.F.kp T._law_fault.b .nil pass0 (pa_cons (pv 2) (pa_cons (pv 6) pa_nil))) pe_non (nomark _)) (pss_cons (ps_expr (pe_bm PySem.F.plainAttrs_list PySem.F.slot_list_append PySem.F.type_list_append mt_append (pv 4) (pa_cons (pv 6) pa_nil)))
  (pss_one (ps_set (i := 2) sc__law_right.nd rfl (Or.inl rfl) (pe_call (ok__law_moved T) (hr.mono (by omega)) (by rfl) T._law_moved.g T._law_moved.F.kp T._law_moved.b .nil pass0 (pa_cons (pv 2) (pa_cons (pv 6) pa_nil)))))) pss_nil))))
  (pss_one (ps_ret (pe_tup (pa_cons (pv 4) (pa_cons (pv 2) pa_nil))))))), fn_sl h fun x p => ?_⟩)
  change DSL K _ (Wp.E.st :: (Wp.E.sc :: (Wp.E.d _ :: (Wp.E.d _ :: (Wp.E.any :: (Wp.E.any :: (Wp.E.any :: []))))))) _
  obtain ⟨m, most⟩ := x
  obtain ⟨hm, hml, h0, h8⟩ := p
  dsimp only at hm hml h0 h8 ⊢
  walk_at "d"
  refine ds_for ?_
  walk_at "d"
  refine dcs_draw (by omega) (log_small (by omega) (by omega)) fun n1 a1 b1 => ?_
  walk_at "d"
  refine ⟨n1, rfl, by unfold Big; omega, ?_⟩
  refine ⟨fun i ρ => ∃ (ts : List Tr) (e5 e6 : Wp.E), okL m ts ∧ ts.length ≤ i ∧ ρ = [.st, .sc, .d (.dc (mI (stL m ts))), .d (.int most), .own (ts.map trT), e5, e6], ⟨_, EnvLe.refl _, [], _, _, trivial, Nat.le_refl _, rfl⟩, ?_, ?_⟩
  · rintro i d ρ hi ⟨ts, e5, e6, hok, hl, rfl⟩
    rw [List.getElem?_map] at hi
    obtain ⟨l, hl', rfl⟩ := Option.map_eq_some_iff.mp hi
    obtain ⟨rfl, hi4⟩ := (show l = (i : Int) ∧ i < n1.toNat from by
      have h1 : i < n1.toNat := by have := (List.getElem?_eq_some_iff.mp hl').1; rwa [rgI_len] at this
      rw [rgI_at h1] at hl'
      exact ⟨by have := Option.some.inj hl'; omega, h1⟩)
    obtain ⟨ga, gl, _⟩ := stL_good hm hok
    walk_at "d"
    refine dcs_f (stL m ts) rfl (by omega) ?_
    rintro _ ⟨t, rfl⟩
    walk_at "d"
    refine dc_g (stL m ts, t) rfl trivial ?_
    walk_at "D"
    cases hf : tfM (stL m ts) t with
    | some x =>
      dsimp only [sD]
      refine ite_f (show ¬ (D.str x).isN = true from Bool.false_ne_true) ?_
      walk_at "d"
      exact ⟨_, EnvLe.refl _, ts, _, _, hok, by omega, rfl⟩
    | none =>
      dsimp only [sD]
      refine ite_t (show D.non.isN = true from rfl) ?_
      walk_at "d"
      refine ⟨by rw [List.length_map]; exact Nat.lt_of_le_of_lt (show ts.length ≤ 1000 by omega) (by decide), ?_⟩
      walk_at "d"
      refine dc_g (stL m ts, t) rfl ⟨by show (stL m ts).length ≤ 1000; omega, ga.1⟩ ?_
      walk_at "D"
      refine' ⟨_, EnvLe.refl _, ts ++ [t], _, _, okL_snoc hok hf, by rw [List.length_append]; show ts.length + 1 ≤ _; omega, by rw [stL_snoc, List.map_append]; exact rfl⟩
  · rintro ρ ⟨ts, e5, e6, hok, hl, rfl⟩
    rw [List.length_map, rgI_len] at hl
    exact dsl_ret (is := [4, 2]) (es := [.own (ts.map trT), .d (.dc (mI (stL m ts)))]) rfl (by decide) (by decide) ⟨rfl, .inr ⟨_, rfl⟩, rfl, .inl ⟨_, rfl⟩, trivial⟩ ⟨ts, rfl, hok, by omega⟩
end
/-! ### what the law spoils -/
structure SpX where
  wd : Int
  am : Addr
  at_ : Addr
  ar : Addr
  me : Mp
  ts : List Tr
  rs : List Int
abbrev SpX.ws (x : SpX) (me : Mp) (ts : List Tr) (rs : List Int) : List (Addr × OD) := [(x.am, .dm (mI me)), (x.at_, .lst (ts.map trT)), (x.ar, .lst (rs.map D.int))]
structure SpP (x : SpX) : Prop where
  w4 : 4 ≤ x.wd
  w128 : x.wd ≤ 128
  nd : Nd x.me
  ml : x.me.length ≤ 10
  mh : ∀ k : Int, 1 ≤ k → k ≤ 4 → (getP x.me k).isSome = true
  tl : x.ts.length ≤ 10
  tb : ∀ t ∈ x.ts, TrB t
  rl : x.rs.length ≤ 11
  r1 : 1 ≤ x.rs.length
structure SpR (me : Mp) (ts : List Tr) (rs : List Int) : Prop where
  nd : Nd me
  ml : me.length ≤ 11
  tl : ts.length ≤ 11
  tb : ∀ t ∈ ts, TrB t
  rl : rs.length ≤ 12
theorem SpP.r {x : SpX} (h : SpP x) : SpR x.me x.ts x.rs := ⟨h.nd, Nat.le_trans h.ml (by decide), Nat.le_trans h.tl (by decide), h.tb, Nat.le_trans h.rl (by decide)⟩
def sp__law_spoilt (K : PySem.W.Frag) : Sp := spWS K (fun x : SpX => [Hs K x.wd, .adr x.am, .adr x.at_, .adr x.ar]) (fun x => x.ws x.me x.ts x.rs) SpP fun x d ws => d = .non ∧ ∃ me ts rs, ws = x.ws me ts rs ∧ SpR me ts rs

end
section
def Hold (P : Prop) : Prop := P
local macro_rules | `(tactic| walk_at "d1") => `(tactic| first
  | with_reducible refine dsx_seq ?_
  | with_reducible refine dsx_if ?_
  | with_reducible refine dsx_next ?_
  | with_reducible refine dsx_retN ?_
  | (refine dsx_asg (ds_asgMO ⟨_, _, _, rfl, by decide +kernel, ?_⟩))
  | (refine dsx_asg (ds_asgCO ?_))
  | with_reducible refine dsx_asg ?_
  | with_reducible refine dae_cons ?_
  | with_reducible refine dae_nil ?_
  | (refine dsx_retMO ⟨_, _, _, rfl, by decide +kernel, ?_⟩)
  | (refine dsx_retCO ?_)
  | with_reducible refine dsx_ret ?_
  | (with_reducible refine dsx_fld ?_; refine ds_fldO ?_)
  | (refine ⟨_, _, _, _, rfl, by assumption, by assumption, Nat.le_of_ble_eq_true rfl, ?_⟩; show InsTo _ _ _ _ _ _)
  | ((with_reducible refine' insTo_new ?hncc ?hlcc ?e1cc ?e2cc ?_); (case hncc => decide +kernel); (case hlcc => rfl); (case e1cc => first | (dsimp only [List.cons_append, List.nil_append]; done) | (dsimp only [List.cons_append, List.nil_append]; exact rfl)); (case e2cc => first | (dsimp only [List.cons_append, List.nil_append]; done) | (dsimp only [List.cons_append, List.nil_append]; exact rfl)))
  | (with_reducible refine dsx_fldaug ?_; refine ds_fldaugO ⟨_, _, _, _, _, rfl, by assumption, by assumption, rfl, Nat.le_of_ble_eq_true rfl, ?_⟩)
  | (with_reducible refine dsx_dput ?_; refine ds_dputA ?_)
  | with_reducible refine dsx_drop ?_
  | (refine de_fldO ⟨_, _, _, _, _, rfl, by assumption, by assumption, rfl, ?_⟩))

theorem hold_dput {K : PySem.W.Frag} {td tk tv : TE} {ρ : List Wp.E} {N : List Wp.E → Prop} {R : D → List Wp.E → Prop} (h : Hold (DSX K (sDPut td tk tv) ρ N R)) : DSX K (sDPut td tk tv) ρ N R := h
theorem hold_drop {K : PySem.W.Frag} {te : TE} {ρ : List Wp.E} {N : List Wp.E → Prop} {R : D → List Wp.E → Prop} (h : Hold (DSX K (tDrop te) ρ N R)) : DSX K (tDrop te) ρ N R := h
theorem hold_st4 {K : PySem.W.Frag} {te ti : TE} {ts : TSet} {ρ : List Wp.E} {N : List Wp.E → Prop} {R : D → List Wp.E → Prop} (h : Hold (DSX K (tAsg te (gSub (tVar 4) ti ts)) ρ N R)) : DSX K (tAsg te (gSub (tVar 4) ti ts)) ρ N R := h
theorem hold_st5 {K : PySem.W.Frag} {te ti : TE} {ts : TSet} {ρ : List Wp.E} {N : List Wp.E → Prop} {R : D → List Wp.E → Prop} (h : Hold (DSX K (tAsg te (gSub (tVar 5) ti ts)) ρ N R)) : DSX K (tAsg te (gSub (tVar 5) ti ts)) ρ N R := h
theorem pickD3 {n : Int} {PD : D → Prop} {a b c : D} (h0 : 0 ≤ n) (h1 : n < 3) (k : ∀ d, d = a ∨ d = b ∨ d = c → PD d) : ∃ d, atI [a, b, c] n = some d ∧ PD d := at_some h0 (by simpa using h1) fun d hd => k d (by simpa using hd)
theorem bd10 (x : Int) (h1 : -10 ≤ x) (h2 : x ≤ 10) : Bd x := bd_small (by omega) (by omega)
theorem lenA {K : PySem.W.Frag} {ρ : List Wp.E} {Q : Wp.E → Prop} {a : Addr} {ds : List D} (i : Nat) (hi : ρ[i]? = some (.oa a (.lst ds))) (k : Q (.d (.int (ds.length : Int)))) : DE K (tCB (rLenA K) (tCons (tVar i) tNil)) ρ Q := de_seeL i hi rfl (de_len (de_var ⟨.own ds, by rw [List.getElem?_set_self (List.getElem?_eq_some_iff.mp hi).1], rfl, len_o k⟩))
local macro_rules | `(tactic| walk_at "d1") => `(tactic| first
  | ((with_reducible refine' lenA _ ?hicc ?_); (case hicc => exact rfl))
  | with_reducible refine hold_dput ?_
  | with_reducible refine hold_drop ?_
  | with_reducible refine hold_st4 ?_
  | with_reducible refine hold_st5 ?_)
theorem ok__law_spoilt (T : Txt K mg) : FnOk P w K mg base CX0 (2) (He.fAd K ("_law_spoilt", none)) T.fd__law_spoilt ["state", "script", "hasher", "meta", "transfers", "roots"] (sp__law_spoilt K) := by
  refine T._law_spoilt.F.ok sc__law_spoilt (fun vs H Q E h => len_ws h fun _ => rfl) (fun cdv A outer s H vs Q E hr h => ⟨_, PSs.nox (pss_cons (ps_set (i := 6) sc__law_spoilt.nd rfl (Or.inl rfl) (pe_call (ok__law_draw T) (hr.mono (by omega)) (by rfl) T._law_draw.g T._law_draw.F.kp T._law_draw.b .nil pass0 (pa_cons (pv 0) (pa_cons (pv 1) (pa_cons pe_int pa_nil)))))
  (pss_one (ps_if (pt_cmpR (kp_eqB (K := K) hr.units) (pv 6) pe_int (nomark _)) (pss_one (ps_dput (hu_of hr) (pv 3) (pe_ix (kx_seq (K := K)) (pe_lst (pa_cons pe_int (pa_cons pe_int (pa_cons pe_int (pa_cons pe_int (pa_cons pe_int pa_nil)))))) (pe_call (ok__law_draw T) (hr.mono (by omega)) (by rfl) T._law_draw.g T._law_draw.F.kp T._law_draw.b .nil pass0 (pa_cons (pv 0) (pa_cons (pv 1) (pa_cons pe_int pa_nil)))) (fun _ _ => rfl)) (pe_call (ok__law_draw T) (hr.mono (by omega)) (by rfl) T._law_draw.g T._law_draw.F.kp T._law_draw.b .nil pass0 (pa_cons (pv 0) (pa_cons (pv 1) (pa_cons (pe_op op_shl pe_int (ke_fld (K := K) (pv 2))) pa_nil)))) rfl)) (pss_one (ps_if (pt_cmpR (kp_eqB (K := K) hr.units) (pv 6) pe_int (nomark _)) (pss_one (ps_expr (pe_dpop1 (pv 3) (pe_op (kp_addA (K := K)) pe_int (pe_call (ok__law_draw T) (hr.mono (by omega)) (by rfl) T._law_draw.g T._law_draw.F.kp T._law_draw.b .nil pass0 (pa_cons (pv 0) (pa_cons (pv 1) (pa_cons pe_int pa_nil))))) ⟨rfl, rfl, rfl, rfl⟩))) (pss_one (ps_if (pt_cmpR (kp_eqB (K := K) hr.units) (pv 6) pe_int (nomark _)) (pss_one (ps_expr (pe_bm PySem.F.plainAttrs_list PySem.F.slot_list_append PySem.F.type_list_append mt_append (pv 4) (pa_cons (pe_tup (pa_cons pe_int (pa_cons (pe_ix (kx_seq (K := K)) (pe_lst (pa_cons pe_int (pa_cons (pe_un un_neg pe_int) pa_nil))) (pe_call (ok__law_draw T) (hr.mono (by omega)) (by rfl) T._law_draw.g T._law_draw.F.kp T._law_draw.b .nil pass0 (pa_cons (pv 0) (pa_cons (pv 1) (pa_cons pe_int pa_nil)))) (fun _ _ => rfl)) (pa_cons pe_int pa_nil)))) pa_nil)))) (pss_one (ps_if (PW.pt (pw_and (pt_cmpR (kp_eqB (K := K) hr.units) (pv 6) pe_int (nomark _)) (pw_and1 (pt_cmpR (op_gt) (pe_callB (kq_lenA (K := K)) (by rfl) T.z_len (by decide +kernel) (pa_cons (pv 4) pa_nil)) pe_int (nomark _))))) (pss_cons (ps_set (i := 7) sc__law_spoilt.nd rfl (Or.inl rfl) (pe_call (ok__law_draw T) (hr.mono (by omega)) (by rfl) T._law_draw.g T._law_draw.F.kp T._law_draw.b .nil pass0 (pa_cons (pv 0) (pa_cons (pv 1) (pa_cons (pe_callB (kq_lenA (K := K)) (by rfl) T.z_len (by decide +kernel) (pa_cons (pv 4) pa_nil)) pa_nil)))))
  (pss_one (ps_asg (pe_ix (kx_seq (K := K)) (pe_lst (pa_cons (pe_revS (K := K) (pe_ix (kx_seq (K := K)) (pv 4) (pv 7) (fun _ _ => rfl))) (pa_cons (pe_tup (pa_cons (pe_un un_neg pe_int) (pa_cons pe_int (pa_cons pe_int pa_nil)))) (pa_cons (pe_ix (kx_seq (K := K)) (pv 4) pe_int (fun _ _ => rfl)) pa_nil)))) (pe_call (ok__law_draw T) (hr.mono (by omega)) (by rfl) T._law_draw.g T._law_draw.F.kp T._law_draw.b .nil pass0 (pa_cons (pv 0) (pa_cons (pv 1) (pa_cons pe_int pa_nil)))) (fun _ _ => rfl)) (pg_sub (pv 4) (pv 7) set_list)))) (pss_one (ps_if (pt_cmpR (kp_eqB (K := K) hr.units) (pv 6) pe_int (nomark _)) (pss_cons (ps_set (i := 7) sc__law_spoilt.nd rfl (Or.inl rfl) (pe_call (ok__law_draw T) (hr.mono (by omega)) (by rfl) T._law_draw.g T._law_draw.F.kp T._law_draw.b .nil pass0 (pa_cons (pv 0) (pa_cons (pv 1) (pa_cons (pe_callB (kq_lenA (K := K)) (by rfl) T.z_len (by decide +kernel) (pa_cons (pv 5) pa_nil)) pa_nil)))))
  (pss_one (ps_asg (pe_ix (kx_seq (K := K)) (pe_lst (pa_cons (pe_op op_xor (pe_ix (kx_seq (K := K)) (pv 5) (pv 7) (fun _ _ => rfl)) pe_int) (pa_cons (pe_un un_neg pe_int) (pa_cons (pe_op op_shl pe_int (ke_fld (K := K) (pv 2))) (pa_cons (pe_ix (kx_seq (K := K)) (pv 5) pe_int (fun _ _ => rfl)) pa_nil))))) (pe_call (ok__law_draw T) (hr.mono (by omega)) (by rfl) T._law_draw.g T._law_draw.F.kp T._law_draw.b .nil pass0 (pa_cons (pv 0) (pa_cons (pv 1) (pa_cons pe_int pa_nil)))) (fun _ _ => rfl)) (pg_sub (pv 5) (pv 7) set_list)))) (pss_one (ps_if (pt_cmpR (kp_eqB (K := K) hr.units) (pv 6) pe_int (nomark _)) (pss_one (ps_expr (pe_bm PySem.F.plainAttrs_list PySem.F.slot_list_append PySem.F.type_list_append mt_append (pv 5) (pa_cons (pe_ix (kx_seq (K := K)) (pv 5) pe_int (fun _ _ => rfl)) pa_nil)))) (pss_one (ps_if (pt_cmpR (kp_eqB (K := K) hr.units) (pv 6) pe_int (nomark _)) (pss_cons (ps_expr (pe_bm0 PySem.F.plainAttrs_list PySem.F.slot_list_pop PySem.F.type_list_pop mt_pop (pv 5)))
  (pss_one (ps_if (pt_cmpR (op_gt) (pe_callB (kq_lenA (K := K)) (by rfl) T.z_len (by decide +kernel) (pa_cons (pv 4) pa_nil)) pe_int (nomark _)) (pss_one (ps_expr (pe_bm0 PySem.F.plainAttrs_list PySem.F.slot_list_pop PySem.F.type_list_pop mt_pop (pv 4)))) pss_nil))) pss_nil))))))))))))))), fn_ws [3,4,5] h (fun _ => ⟨by decide, rfl, ⟨by decide, rfl, ⟨by decide, rfl, trivial⟩⟩⟩) fun x p => ?_⟩)
  change DSX K _ (Wp.E.st :: (Wp.E.sc :: (Wp.E.d _ :: (Wp.E.oa _ _ :: (Wp.E.oa _ _ :: (Wp.E.oa _ _ :: (Wp.E.any :: (Wp.E.any :: [])))))))) _ _
  obtain ⟨wd, am, at_, ar, me, ts, rs⟩ := x
  obtain ⟨⟨w4, w128, hnd, hml, hmk, htl, htb, hrl, hr1⟩, hna⟩ := p
  dsimp only at w4 w128 hnd hml hmk htl htb hrl hr1 hna ⊢
  dsimp only [setOA, List.set, SpX.ws]
  have hcl := T.cl_Hasher
  have hnw := T.n_Hasher_width
  walk_at "d"
  refine dcs_draw (by decide) (by decide) fun kd k0 k8 => ?_
  walk_at "d"
  have hP : SpR me ts rs := ⟨hnd, by omega, by omega, htb, by omega⟩
  have pw0 : (0 : Int) < 1 * 2 ^ wd.toNat := by rw [Int.one_mul]; exact Int.pow_pos (by decide)
  have pw1 : ((1 : Int) * 2 ^ wd.toNat).natAbs.log2 < 9000 := by
    rw [Int.one_mul, Int.natAbs_pow]
    show (2 ^ wd.toNat).log2 < 9000
    rw [Nat.log2_two_pow]; omega
  have fin : ∀ (me' : Mp) (ts' : List Tr) (rs' : List Int) (ρ' : List Wp.E), ρ'[3]? = some (.oa am (.dm (mI me'))) → ρ'[4]? = some (.oa at_ (.lst (ts'.map trT))) → ρ'[5]? = some (.oa ar (.lst (rs'.map D.int))) → SpR me' ts' rs' → ∃ ws', OaAt ρ' [3, 4, 5] ws' ∧ ws'.map (·.1) = [(am, OD.dm (mI me)), (at_, OD.lst (ts.map trT)), (ar, OD.lst (rs.map D.int))].map (·.1) ∧ D.non = D.non ∧ ∃ me ts rs, ws' = [(am, OD.dm (mI me)), (at_, OD.lst (ts.map trT)), (ar, OD.lst (rs.map D.int))] ∧ SpR me ts rs :=
    fun me' ts' rs' ρ' h3 h4 h5 hr => ⟨[(am, .dm (mI me')), (at_, .lst (ts'.map trT)), (ar, .lst (rs'.map D.int))], ⟨h3, h4, h5, trivial⟩, rfl, rfl, me', ts', rs', rfl, hr⟩
  refine ifd (fun g0 => ?_) (fun g0 => ?_)
  · walk_at "d"
    unfold Hold
    refine dsx_dput (ds_dputA ?_)
    walk_at "d"
    refine dcs_draw pw0 pw1 fun n1 a1 b1 => ?_
    walk_at "d"
    refine ⟨_, _, rfl, ?_⟩
    walk_at "d"
    refine dcs_draw (by decide) (by decide) fun n2 a2 b2 => ?_
    walk_at "d"
    refine pick5 a2 b2 fun k hk => ?_
    walk_at "d"
    refine ⟨by rw [mM_len]; exact Nat.lt_of_le_of_lt (show me.length ≤ 1000 by omega) (by decide), ?_⟩
    walk_at "d"
    rw [put_I]
    have hpl := putP_len (m := me) (k := k) (v := n1)
    exact fin (putP me k n1) ts rs _ rfl rfl rfl ⟨putP_nodup hnd, by omega, hP.tl, htb, hP.rl⟩
  walk_at "d"
  refine ifd (fun g1 => ?_) (fun g1 => ?_)
  · walk_at "d"
    unfold Hold
    refine dsx_drop (ds_dpop1A ⟨_, _, rfl, ?_⟩)
    walk_at "d"
    refine dcs_draw (by decide) (by decide) fun n1 a1 b1 => ?_
    walk_at "d"
    refine ⟨by rw [get_mM]; have := hmk (1 + n1) (by omega) (by omega); cases h : getP me (1 + n1) with | none => rw [h] at this; cases this | some v => rfl, ?_⟩
    walk_at "d"
    rw [drop_I]
    exact fin (dropP me (1 + n1)) ts rs _ rfl rfl rfl ⟨dropP_nodup hnd, by have : (dropP me (1 + n1)).length ≤ me.length := List.length_filter_le _ _; omega, hP.tl, htb, hP.rl⟩
  walk_at "d"
  refine ifd (fun g2 => ?_) (fun g2 => ?_)
  · walk_at "d"
    unfold Hold
    refine dsx_drop (ds_appendA ⟨_, _, rfl, ?_⟩)
    walk_at "d"
    refine dcs_draw (by decide) (by decide) fun n1 a1 b1 => ?_
    walk_at "d"
    refine pick2 a1 b1 fun v hv => ?_
    walk_at "d"
    refine ⟨by rw [List.length_map]; exact Nat.lt_of_le_of_lt (show ts.length ≤ 1000 by omega) (by decide), ?_⟩
    walk_at "d"
    refine fin me (ts ++ [(1, v, 3)]) rs _ rfl (by rw [List.map_append]; rfl) rfl ⟨hP.nd, hP.ml, by rw [List.length_append, List.length_singleton]; omega, fun t ht => ?_, hP.rl⟩
    rcases List.mem_append.mp ht with ht | ht
    · exact htb t ht
    · rw [List.mem_singleton.mp ht]
      have hb : ∀ x : Int, -10 ≤ x → x ≤ 10 → Bd x := fun x h1 h2 => bd_small (by omega) (by omega)
      exact ⟨hb _ (by show (-10 : Int) ≤ 1; decide) (by show (1 : Int) ≤ 10; decide), hb _ (by show -10 ≤ v; rcases hv with rfl | rfl <;> decide) (by show v ≤ 10; rcases hv with rfl | rfl <;> decide), hb _ (by show (-10 : Int) ≤ 3; decide) (by show (3 : Int) ≤ 10; decide)⟩
  walk_at "d"
  have hts : ∀ (i : Nat) (t : Tr), ts[i]? = some t → TrB t := fun i t h => htb t (List.mem_of_getElem? h)
  by_cases g3 : kd = 3
  · subst g3
    rw [decide_eq_true (rfl : (3 : Int) = 3)]
    refine ite_t rfl ?_
    walk_at "d"
    rw [List.length_map]
    refine ifd (fun g4 => ?_) (fun g4 => ?_)
    · walk_at "d"
      refine dcs_draw (by rw [List.length_map]; exact g4) (by rw [List.length_map]; exact log_small (by omega) (by omega)) fun n1 a1 b1 => ?_
      rw [List.length_map] at b1
      obtain ⟨n, rfl⟩ := Int.eq_ofNat_of_zero_le a1
      obtain ⟨t, ht⟩ : ∃ t, ts[n]? = some t := ⟨_, List.getElem?_eq_getElem (by omega)⟩
      obtain ⟨t0, ht0⟩ : ∃ t, ts[0]? = some t := ⟨_, List.getElem?_eq_getElem (by omega)⟩
      walk_at "d"
      unfold Hold
      refine dsx_asg (ds_storeA ?_)
      refine de_seeL 4 rfl (by dsimp only [List.set]) ?_
      walk_at "d"
      refine ⟨_, atI_map ht, ?_⟩
      walk_at "d"
      refine ⟨_, atI_map (k := 0) ht0, ?_⟩
      walk_at "d"
      refine dcs_draw (by decide) (by decide) fun n2 a2 b2 => ?_
      walk_at "d"
      refine pickD3 a2 b2 fun d hd => ?_
      obtain ⟨t', rfl, hb'⟩ : ∃ t', d = trT t' ∧ TrB t' := by
        rcases hd with rfl | rfl | rfl
        · exact ⟨(t.2.2, t.2.1, t.1), rfl, (hts n t ht).2.2, (hts n t ht).2.1, (hts n t ht).1⟩
        · exact ⟨(-1, 2, 3), rfl, bd10 _ (by decide) (by decide), bd10 _ (by decide) (by decide), bd10 _ (by decide) (by decide)⟩
        · exact ⟨t0, rfl, hts 0 t0 ht0⟩
      walk_at "d"
      refine ⟨_, _, rfl, ?_⟩
      walk_at "d"
      refine ⟨n, ixN_nat (by rw [List.length_map]; omega), ?_⟩
      walk_at "d"
      refine fin me (ts.set n t') rs _ rfl (by rw [List.map_set]; rfl) rfl ⟨hP.nd, hP.ml, by rw [List.length_set]; omega, fun x hx => ?_, hP.rl⟩
      rcases List.mem_or_eq_of_mem_set hx with hx | rfl
      · exact htb x hx
      · exact hb'
    · walk_at "d"
      refine ite_f (by decide) ?_
      walk_at "d"
      refine ite_f (by decide) ?_
      walk_at "d"
      refine ite_f (by decide) ?_
      walk_at "d"
      exact fin me ts rs _ rfl rfl rfl hP
  rw [decide_eq_false g3]
  refine ite_f Bool.false_ne_true ?_
  walk_at "d"
  refine ifd (fun g4 => ?_) (fun g4 => ?_)
  · walk_at "d"
    refine dcs_draw (by rw [List.length_map]; omega) (by rw [List.length_map]; exact log_small (by omega) (by omega)) fun n1 a1 b1 => ?_
    rw [List.length_map] at b1
    obtain ⟨n, rfl⟩ := Int.eq_ofNat_of_zero_le a1
    obtain ⟨t, ht⟩ : ∃ t, rs[n]? = some t := ⟨_, List.getElem?_eq_getElem (by omega)⟩
    obtain ⟨t0, ht0⟩ : ∃ t, rs[0]? = some t := ⟨_, List.getElem?_eq_getElem (by omega)⟩
    walk_at "d"
    unfold Hold
    refine dsx_asg (ds_storeA ?_)
    refine de_seeL 5 rfl (by dsimp only [List.set]) ?_
    walk_at "d"
    refine ⟨_, atI_map ht, ?_⟩
    walk_at "d"
    refine ⟨_, atI_map (k := 0) ht0, ?_⟩
    walk_at "d"
    refine dcs_draw (by decide) (by decide) fun n2 a2 b2 => ?_
    walk_at "d"
    refine pick4 a2 b2 fun r' _ => ?_
    walk_at "d"
    refine ⟨_, _, rfl, ?_⟩
    walk_at "d"
    refine ⟨n, ixN_nat (by rw [List.length_map]; omega), ?_⟩
    walk_at "d"
    exact fin me ts (rs.set n r') _ rfl rfl (by rw [List.map_set]; rfl) ⟨hP.nd, hP.ml, hP.tl, htb, by rw [List.length_set]; omega⟩
  walk_at "d"
  refine ifd (fun g5 => ?_) (fun g5 => ?_)
  · walk_at "d"
    unfold Hold
    refine dsx_drop (ds_appendA ⟨_, _, rfl, ?_⟩)
    obtain ⟨t0, ht0⟩ : ∃ t, rs[0]? = some t := ⟨_, List.getElem?_eq_getElem (by omega)⟩
    refine de_seeL 5 rfl (by dsimp only [List.set]) ?_
    walk_at "d"
    refine ⟨_, atI_map (k := 0) ht0, ?_⟩
    walk_at "d"
    refine ⟨by rw [List.length_map]; exact Nat.lt_of_le_of_lt (show rs.length ≤ 1000 by omega) (by decide), ?_⟩
    walk_at "d"
    exact fin me ts (rs ++ [t0]) _ rfl rfl (by rw [List.map_append]; rfl) ⟨hP.nd, hP.ml, hP.tl, htb, by rw [List.length_append, List.length_singleton]; omega⟩
  walk_at "d"
  refine ifd (fun g6 => ?_) (fun g6 => ?_)
  · walk_at "d"
    unfold Hold
    obtain ⟨rs', r, rfl⟩ : ∃ rs' r, rs = rs' ++ [r] := ⟨rs.dropLast, rs.getLast (by intro z; rw [z] at hr1; simp at hr1), (List.dropLast_concat_getLast _).symm⟩
    rw [List.length_append, List.length_singleton] at hrl
    refine dsx_drop (ds_popA ⟨_, rs'.map D.int, .int r, by rw [List.map_append]; rfl, ?_⟩)
    walk_at "d"
    rw [List.length_map]
    refine ifd (fun g7 => ?_) (fun g7 => ?_)
    · obtain ⟨ts', t, rfl⟩ : ∃ ts' t, ts = ts' ++ [t] := ⟨ts.dropLast, ts.getLast (by intro z; rw [z] at g7; simp at g7), (List.dropLast_concat_getLast _).symm⟩
      rw [List.length_append, List.length_singleton] at htl
      walk_at "d"
      unfold Hold
      refine dsx_drop (ds_popA ⟨_, ts'.map trT, trT t, by rw [List.map_append]; rfl, ?_⟩)
      walk_at "d"
      exact fin me ts' rs' _ rfl rfl rfl ⟨hP.nd, hP.ml, by omega, fun x hx => htb x (List.mem_append_left _ hx), by omega⟩
    · walk_at "d"
      exact fin me ts rs' _ rfl rfl rfl ⟨hP.nd, hP.ml, hP.tl, htb, by omega⟩
  walk_at "d"
  exact fin me ts rs _ rfl rfl rfl hP

end
end
section
variable {P : Program} {w : World} {K : PySem.W.Frag} {mg : Str → Option Value} {base : Heap}
section
/-! ### bodies compared -/
def flatD (d : D) : Prop := (∃ i, d = .int i) ∨ ∃ ds, d = .tup ds
theorem flat_tyf {C : Addr} {d : D} (h : flatD d) : d.tyf C := by
  rcases h with ⟨i, rfl⟩ | ⟨ds, rfl⟩ <;> trivial
theorem flat_isf {d : D} (h : flatD d) : d.isO = false := by
  rcases h with ⟨i, rfl⟩ | ⟨ds, rfl⟩ <;> rfl
def bdOr (K : PySem.W.Frag) : (List Tr × List Int) ⊕ D → D
  | .inl c => bdD K c.1 c.2
  | .inr d => d
def bdQ (b : List Tr × List Int) : (List Tr × List Int) ⊕ D → Bool
  | .inl c => decide (b.1 = c.1 ∧ b.2 = c.2)
  | .inr _ => false
theorem trT_inj : ∀ {a b : List Tr}, a.map trT = b.map trT → a = b
  | [], [], _ => rfl
  | [], _ :: _, h => by simp at h
  | _ :: _, [], h => by simp at h
  | (a1, a2, a3) :: a, (b1, b2, b3) :: b, h => by
    rw [List.map_cons, List.map_cons] at h
    injection h with h1 h2
    rw [trT_inj h2]
    injection h1 with h1
    simp at h1
    obtain ⟨rfl, rfl, rfl⟩ := h1
    rfl
theorem tr_plain (a : List Tr) : (D.tup (a.map trT)).plain = true := plains_map (fun _ => rfl) a
theorem tr_dep (a : List Tr) : (D.tup (a.map trT)).dep ≤ 60 := by
  show D.deps (a.map trT) + 1 ≤ 60
  have := deps_map (f := trT) (n := 1) (fun _ => Nat.le_refl _) a
  omega
theorem dr_eqTr {K : PySem.W.Frag} {Q : Wp.E → Prop} {a b : List Tr} (k : Q (.d (.bl (decide (a = b))))) : DR K (rEqB K) (.d (.tup (a.map trT))) (.d (.tup (b.map trT))) Q := dr_eqBX (decide (a = b)) (by rw [decide_eq_true_iff]; exact ⟨fun z => by rw [z], fun z => by injection z with z; exact trT_inj z⟩) (tr_plain a) (tr_plain b) (tr_dep a) (tr_dep b) k
theorem dr_eqTi {K : PySem.W.Frag} {Q : Wp.E → Prop} {a b : List Int} (k : Q (.d (.bl (decide (a = b))))) : DR K (rEqB K) (.d (tI a)) (.d (tI b)) Q := dr_eqBX (decide (a = b)) ⟨fun z => by rw [of_decide_eq_true z], fun z => decide_eq_true (tI_ne.mp z)⟩ (tI_plain _) (tI_plain _) (tI_dep _) (tI_dep _) k
def sp_Body___eq__ (K : PySem.W.Frag) : Sp := spG K (fun x : (List Tr × List Int) × ((List Tr × List Int) ⊕ D) => [bdD K x.1.1 x.1.2, bdOr K x.2]) (fun x => ∀ d, x.2 = .inr d → flatD d) fun x => .bl (bdQ x.1 x.2)
section
local macro_rules | `(tactic| walk_at "d1") => `(tactic| first
  | with_reducible refine de_isOwn (by assumption) (by assumption) ?_
  | with_reducible refine dr_eqTr ?_
  | with_reducible refine dr_eqTi ?_)
theorem ok_Body___eq__ (T : Txt K mg) : FnOk P w K mg base CX0 (1) (He.fAd K ("Body", some "__eq__")) T.fd_Body___eq__ ["self", "other"] (sp_Body___eq__ K) := by
  refine T.Body___eq__.F.ok sc_Body___eq__ (fun vs H Q E h => len_g h fun _ => rfl) (fun cdv A outer s H vs Q E hr h => ⟨_, PSs.nox (pss_one (ps_ret (pe_and (pe_callB (kr_isi (K := K)) (by rfl) T.z_isinstance (by decide +kernel) (pa_cons (pv 1) (pa_cons (pe_glob (v := .ref (He.ga K "Body")) (by rfl) T.g_Body rfl) pa_nil))) (pe_and (pe_cmpR (kp_eqB (K := K) hr.units) (ke_fld (K := K) (pv 0)) (ke_fld (K := K) (pv 1)) (nomark _)) (pe_one (pe_cmpR (kp_eqB (K := K) hr.units) (ke_fld (K := K) (pv 0)) (ke_fld (K := K) (pv 1)) (nomark _))))))), fn_g h fun x p => ?_⟩)
  change DS K _ (Wp.E.d _ :: (Wp.E.d _ :: [])) _ _ _ _
  obtain ⟨⟨ts, rs⟩, o⟩ := x
  have c0 := T.cl_Body
  have n1 := T.n_Body_transfers
  have n2 := T.n_Body_roots
  have e0 := T.eq_Body
  cases o with
  | inr d =>
    have hf : flatD d := p d rfl
    dsimp only [bdOr, bdQ]
    walk_at "d"
    refine ⟨flat_tyf hf, ?_⟩
    rw [flat_isf hf]
    walk_at "d"
    rfl
  | inl c =>
    obtain ⟨ts', rs'⟩ := c
    dsimp only [bdOr, bdQ]
    walk_at "d"
    refine ⟨rfl, ?_⟩
    rw [show (bdD K ts' rs').isO = true from rfl]
    walk_at "d"
    refine ifd (fun g1 => ?_) (fun g1 => ?_)
    rotate_left
    · exact dd (by show D.bl false = D.bl (decide _); rw [decide_eq_false (fun z => g1 z.1)])
    walk_at "d"
    exact congrArg D.bl (decide_eq_decide.mpr ⟨fun z => ⟨g1, z⟩, fun z => z.2⟩)
end
/-! ### what is due -/
def negT (t : Tr) : Prop := t.1 < 0 ∨ t.2.1 < 0 ∨ t.2.2 < 0
theorem any_neg {ts : List Tr} : (ts.flatMap fun t => (trN t).map fun n => decide (n < 0)).any id = true ↔ ∃ t ∈ ts, negT t := by
  rw [List.any_eq_true]
  constructor
  · rintro ⟨b, hb, e⟩
    obtain ⟨t, ht, hn⟩ := List.mem_flatMap.mp hb
    obtain ⟨n, hm, rfl⟩ := List.mem_map.mp hn
    have e : n < 0 := of_decide_eq_true e
    simp only [List.mem_cons, List.mem_nil_iff, or_false] at hm
    rcases hm with rfl | rfl | rfl
    · exact ⟨t, ht, .inl e⟩
    · exact ⟨t, ht, .inr (.inl e)⟩
    · exact ⟨t, ht, .inr (.inr e)⟩
  · rintro ⟨t, ht, h⟩
    have key : ∀ n ∈ trN t, n < 0 → ∃ x ∈ (ts.flatMap fun t => (trN t).map fun n => decide (n < 0)), id x = true := fun n hn h => ⟨decide (n < 0), List.mem_flatMap.mpr ⟨t, ht, List.mem_map.mpr ⟨n, hn, rfl⟩⟩, decide_eq_true h⟩
    rcases h with h | h | h
    · exact key _ (by simp) h
    · exact key _ (by simp) h
    · exact key _ (by simp) h
def sp__law_due (K : PySem.W.Frag) : Sp := spG K (fun x : Int × Mp × List Tr × List Int => [Hs K x.1, .dc (mI x.2.1), .lst (x.2.2.1.map trT), .lst (x.2.2.2.map D.int)]) (fun x => 4 ≤ x.1 ∧ x.1 ≤ 128 ∧ SpR x.2.1 x.2.2.1 x.2.2.2) fun x => sD (bfX x.1 x.2.1 x.2.2.1 x.2.2.2)
section
local macro_rules | `(tactic| walk_at "d1") => `(tactic| first
  | with_reducible refine de_sortDI ?_
  | with_reducible refine de_new (dn_list ?_))
theorem ok__law_due (T : Txt K mg) : FnOk P w K mg base CX0 (41) (He.fAd K ("_law_due", none)) T.fd__law_due ["hasher", "meta", "transfers", "roots"] (sp__law_due K) := by
  refine T._law_due.F.ok sc__law_due (fun vs H Q E h => len_g h fun _ => rfl) (fun cdv A outer s H vs Q E hr h => ⟨_, PSs.nox (pss_cons (ps_if (pt_cmpR (kp_neB (K := K) hr.units) (pe_callB (kr_sortA (K := K)) (by rfl) T.z_sorted (by decide +kernel) (pa_cons (pv 1) pa_nil)) (pe_lst (pa_cons pe_int (pa_cons pe_int (pa_cons pe_int (pa_cons pe_int pa_nil))))) (nomark _)) (pss_one (ps_ret pe_str)) pss_nil)
  (pss_cons (ps_for PassesOwn.never rfl (ki_sq (K := K) (pv 2)) (pg_name (i := 4) sc__law_due.nd rfl (Or.inl rfl)) (pss_one (ps_if (PW.pt (pw_or (pt_cmpR (op_lt) (pe_ix (kx_seq (K := K)) (pv 4) pe_int (fun _ _ => rfl)) pe_int (nomark _)) (pw_or (pt_cmpR (op_lt) (pe_ix (kx_seq (K := K)) (pv 4) pe_int (fun _ _ => rfl)) pe_int (nomark _)) (pw_or1 (pt_cmpR (op_lt) (pe_ix (kx_seq (K := K)) (pv 4) pe_int (fun _ _ => rfl)) pe_int (nomark _)))))) (pss_one (ps_ret pe_str)) pss_nil)))
  (pss_cons (ps_if (PW.pt (pw_or (pt_cmpR (kp_neB (K := K) hr.units) (pe_callB (kq_lenA (K := K)) (by rfl) T.z_len (by decide +kernel) (pa_cons (pv 2) pa_nil)) (pe_dget (hu_of hr) (pv 1) pe_int (fun _ _ => rfl)) (nomark _)) (pw_or1 (pt_cmpR (kp_neB (K := K) hr.units) (pe_call (ok_list_root T) (hr.mono (by omega)) (by rfl) T.list_root.g T.list_root.F.kp T.list_root.b .nil pass0 (pa_cons (pv 0) (pa_cons (pe_lc (own := [("one", 4)]) rfl sc__law_due.nd (ki_sq (K := K) (pv 2)) (blkOk_by (own := [("one", 4)]) (N := ["hasher", "meta", "transfers", "roots", "one", "root"]) (sc := defScope s__law_due) (by decide +kernel)) (fun _ _ _ _ _ => pg_name (i := 4) sc__law_due.nd rfl (Or.inl rfl)) (fun _ _ _ _ _ => pts_nil) (fun _ _ _ _ _ => (pe_meth (pv 0) T.cl_Hasher T.me_Hasher_digest (ok_Hasher_digest T) (hr.mono (by omega)) T.Hasher_digest.b .nil pass0 (pa_cons pe_int (pa_cons (pe_callTy (kq_listA (K := K)) (by rfl) T.z_list (by decide +kernel) (pa_cons (pv 4) pa_nil)) pa_nil))))) pa_nil))) (pe_dget (hu_of hr) (pv 1) pe_int (fun _ _ => rfl)) (nomark _))))) (pss_one (ps_ret pe_str)) pss_nil)
  (pss_cons (ps_for PassesOwn.never rfl (ki_sq (K := K) (pv 3)) (pg_name (i := 5) sc__law_due.nd rfl (Or.inl rfl)) (pss_one (ps_if (pt_not (pt_chain (op_le) (op_lt) pe_int (pv 5) (pe_op op_shl pe_int (ke_fld (K := K) (pv 0))))) (pss_one (ps_ret pe_str)) pss_nil)))
  (pss_cons (ps_if (PW.pt (pw_or (pt_cmpR (kp_neB (K := K) hr.units) (pe_callB (kq_lenA (K := K)) (by rfl) T.z_len (by decide +kernel) (pa_cons (pv 3) pa_nil)) (pe_op (kp_addA (K := K)) (pe_callB (kq_lenA (K := K)) (by rfl) T.z_len (by decide +kernel) (pa_cons (pv 2) pa_nil)) pe_int) (nomark _)) (pw_or1 (pt_cmpR (kp_neB (K := K) hr.units) (pe_call (ok_list_root T) (hr.mono (by omega)) (by rfl) T.list_root.g T.list_root.F.kp T.list_root.b .nil pass0 (pa_cons (pv 0) (pa_cons (pe_callTy (kq_listA (K := K)) (by rfl) T.z_list (by decide +kernel) (pa_cons (pv 3) pa_nil)) pa_nil))) (pe_dget (hu_of hr) (pv 1) pe_int (fun _ _ => rfl)) (nomark _))))) (pss_one (ps_ret pe_str)) pss_nil)
  (pss_one (ps_ret pe_non))))))), fn_g h fun x p => ?_⟩)
  change DS K _ (Wp.E.d _ :: (Wp.E.d _ :: (Wp.E.d _ :: (Wp.E.d _ :: (Wp.E.any :: (Wp.E.any :: [])))))) _ _ _ _
  obtain ⟨wd, me, ts, rs⟩ := x
  obtain ⟨w4, w128, hnd, hml, htl, htb, hrl⟩ := p
  dsimp only at w4 w128 hnd hml htl htb hrl ⊢
  have hcl := T.cl_Hasher
  have hnw := T.n_Hasher_width
  walk_at "d"
  refine ⟨me, .inl rfl, by omega, ?_⟩
  walk_at "d"
  refine dr_neBX (decide (srt (me.map (·.1)) = [1, 2, 3, 4])) ⟨fun z => by rw [of_decide_eq_true z]; rfl, fun z => by injection z with z; exact decide_eq_true (ints_inj (b := [1, 2, 3, 4]) z)⟩ (lI_plain _) (lI_plain [1, 2, 3, 4]) (lI_dep _) (lI_dep [1, 2, 3, 4]) ?_
  walk_at "d"
  unfold bfX
  refine ifn (fun g1 => ?_) (fun g1 => ?_)
  · rw [if_pos g1]
    walk_at "d"
    rfl
  rw [if_neg (fun z : ¬ _ => z g1)]
  walk_at "d"
  refine ds_for ?_
  walk_at "d"
  refine ⟨fun i ρ => (∀ t ∈ ts.take i, ¬ negT t) ∧ ∃ e4 e5, ρ = [.d (Hs K wd), .d (.dc (mI me)), .d (.lst (ts.map trT)), .d (.lst (rs.map D.int)), e4, e5], ⟨_, EnvLe.refl _, fun t ht => by simp at ht, _, _, rfl⟩, ?_, ?_⟩
  · rintro i d ρ hi ⟨hno, e4, e5, rfl⟩
    rw [List.getElem?_map] at hi
    obtain ⟨t, ht, rfl⟩ := Option.map_eq_some_iff.mp hi
    have yes : negT t → D.str (Str.ofString "transfers") = sD (if (ts.flatMap fun t => (trN t).map fun n => decide (n < 0)).any id = true then some (Str.ofString "transfers") else if ¬ (getP me 3).getD 0 = (ts.length : Int) then some (Str.ofString "transfers") else if ¬ (getP me 2).getD 0 = rootN wd (ts.map (itW wd)) then some (Str.ofString "transfers")
      else if ¬ rs.all (isD wd) = true then some (Str.ofString "roots") else if ¬ (rs.length : Int) = (ts.length : Int) + 1 then some (Str.ofString "roots")
      else if ¬ (getP me 4).getD 0 = rootN wd rs then some (Str.ofString "roots") else none) := fun h => by
      rw [if_pos (any_neg.mpr ⟨t, List.mem_of_getElem? ht, h⟩)]
      rfl
    walk_at "d"
    refine ifd (fun n1 => ?_) (fun n1 => ?_)
    · walk_at "d"
      exact yes (.inl n1)
    walk_at "d"
    refine ifd (fun n2 => ?_) (fun n2 => ?_)
    · walk_at "d"
      exact yes (.inr (.inl n2))
    walk_at "d"
    refine ifd (fun n3 => ?_) (fun n3 => ?_)
    · walk_at "d"
      exact yes (.inr (.inr n3))
    walk_at "d"
    refine ⟨_, EnvLe.refl _, fun t' ht' => ?_, _, _, rfl⟩
    rw [List.take_add_one, ht] at ht'
    rcases List.mem_append.mp ht' with h | h
    · exact hno t' h
    · have : t' = t := by simpa using h
      rw [this]
      rintro (h | h | h)
      · exact n1 h
      · exact n2 h
      · exact n3 h
  rintro ρ ⟨hno, e4, e5, rfl⟩
  rw [List.length_map, List.take_length] at hno
  rw [if_neg (fun z => by obtain ⟨t, ht, hn⟩ := any_neg.mp z; exact hno t ht hn)]
  walk_at "d"
  refine get_some (v := (getP me 3).getD 0) (key_some g1 (.inr (.inl rfl))) ?_
  walk_at "d"
  refine ifn (fun g2 => ?_) (fun g2 => ?_)
  · rw [if_pos (fun z => g2 z.symm)]
    walk_at "d"
    rfl
  rw [if_neg (fun z : ¬ _ => z g2.symm)]
  walk_at "d"
  refine de_new (dn_map trT (fun t => D.int (itW wd t)) ?_)
  walk_at "d"
  refine ⟨ts, rfl, by omega, fun i t ht => dgw_name rfl (by decide) rfl ?_, ?_⟩
  · walk_at "d"
    refine dc_digest (trN t) (.inl rfl) (by omega) w128 (limbs_bd (show 3 ≤ 120 by decide) (tr_bd (htb t (List.mem_of_getElem? ht)))) ?_
    walk_at "D"
    rfl
  rw [show ts.map (fun t => D.int (itW wd t)) = (ts.map (itW wd)).map D.int by rw [List.map_map]; rfl]
  walk_at "d"
  refine dc_g (wd, false, ts.map (itW wd)) rfl ⟨w4, w128, by rw [List.length_map]; omega, by rw [List.length_map]; omega, itm_it w4 w128 ts⟩ ?_
  walk_at "D"
  refine get_some (v := (getP me 2).getD 0) (key_some g1 (.inl rfl)) ?_
  walk_at "d"
  refine ifn (fun g3 => ?_) (fun g3 => ?_)
  · rw [if_pos (fun z => g3 z.symm)]
    walk_at "d"
    rfl
  rw [if_neg (fun z : ¬ _ => z g3.symm)]
  walk_at "d"
  refine ds_for ?_
  walk_at "d"
  refine ⟨fun i ρ => (∀ r ∈ rs.take i, isD wd r = true) ∧ ∃ e4 e5, ρ = [.d (Hs K wd), .d (.dc (mI me)), .d (.lst (ts.map trT)), .d (.lst (rs.map D.int)), e4, e5], ⟨_, EnvLe.refl _, fun t ht => by simp at ht, _, _, rfl⟩, ?_, ?_⟩
  · rintro i d ρ hi ⟨hno, e4, e5, rfl⟩
    rw [List.getElem?_map] at hi
    obtain ⟨r, hr, rfl⟩ := Option.map_eq_some_iff.mp hi
    have bad : isD wd r = false → D.str (Str.ofString "roots") = sD (if ¬ rs.all (isD wd) = true then some (Str.ofString "roots") else if ¬ (rs.length : Int) = (ts.length : Int) + 1 then some (Str.ofString "roots")
      else if ¬ (getP me 4).getD 0 = rootN wd rs then some (Str.ofString "roots") else none) := fun h => by
      rw [if_pos (fun z => by rw [List.all_eq_true.mp z r (List.mem_of_getElem? hr)] at h; cases h)]
      rfl
    walk_at "d"
    refine ifd (fun h0 => ?_) (fun h0 => ?_)
    · walk_at "d"
      rw [Int.one_mul]
      refine ifn (fun h1 => ?_) (fun h1 => ?_)
      · walk_at "d"
        exact bad (decide_eq_false fun z => h1 z.2)
      · walk_at "d"
        refine ⟨_, EnvLe.refl _, fun t' ht' => ?_, _, _, rfl⟩
        rw [List.take_add_one, hr] at ht'
        rcases List.mem_append.mp ht' with h | h
        · exact hno t' h
        · have : t' = r := by simpa using h
          rw [this]
          exact decide_eq_true ⟨h0, h1⟩
    · walk_at "d"
      exact bad (decide_eq_false fun z => h0 z.1)
  rintro ρ ⟨hno, e4, e5, rfl⟩
  rw [List.length_map, List.take_length] at hno
  have hall : rs.all (isD wd) = true := List.all_eq_true.mpr hno
  rw [if_neg (fun z : ¬ _ => z hall)]
  walk_at "d"
  refine ifn (fun g4 => ?_) (fun g4 => ?_)
  · rw [if_pos g4]
    walk_at "d"
    rfl
  rw [if_neg (fun z : ¬ _ => z g4)]
  walk_at "d"
  refine dc_g (wd, false, rs) rfl ⟨w4, w128, by show rs.length < 34; omega, by show rs.length ≤ 100; omega, isD_itm w128 hall⟩ ?_
  walk_at "D"
  refine get_some (v := (getP me 4).getD 0) (key_some g1 (.inr (.inr rfl))) ?_
  walk_at "d"
  refine ifn (fun g5 => ?_) (fun g5 => ?_)
  · rw [if_pos (fun z => g5 z.symm)]
    walk_at "d"
    rfl
  rw [if_neg (fun z : ¬ _ => z g5.symm)]
  walk_at "d"
  rfl
end

end
end
section
variable {P : Program} {w : World} {K : PySem.W.Frag} {mg : Str → Option Value} {base : Heap}
section
theorem de_hasher2 {ρ : List E} {Q : E → Prop} {E' : XK} {tas : TA} (h : DA K tas ρ fun ds => ∃ wd : Int, ds = [.int wd] ∧ Q (.d (Hs K wd))) : DE K (tMake (He.ga K "Hasher") (sp_Hasher___init__ K) [] E' tas) ρ Q := fun U σ L G o H j QH q =>
  h U σ L G o H j _ fun vs H1 G1 j1 ⟨e1, ds, sd, wd, ed, k⟩ => by
    subst ed
    obtain ⟨v, rfl, c⟩ := rpa1 sd
    cases c
    have m : EM (U.hides L) (tMake (He.ga K "Hasher") (sp_Hasher___init__ K) [] E' (fun _ H Q => Q [.int wd] H)) σ G1 (Po K U L G Q) :=
      em_makeI (fs := [("width", V.int wd)]) (fun H j QH q => q _ _ _ j ⟨fun x dx H QI EI hx q => ⟨x, dx, _, wd, rfl, rfl, hx, q⟩, fun x dx G2 n e2 g => ⟨e1.trans e2, .d (Hs K wd), .obj g rfl (.cons (.int _) .nil), k⟩⟩)
    exact m H1 j1 QH q

end
section
theorem key_div {k : Int} (h : KeyB k) : k / 2 ^ 32 = 0 := Int.ediv_eq_zero_of_lt h.1 h.2
theorem sep_of {m : Mp} {n : Nat} (h : MpB m n) : SepM 32 m := ⟨h.1, 0, fun p hp => key_div (h.2.2 p hp).1⟩
theorem meq_refl {m : Mp} (h : Nd m) : meq m m = true := (meq_iff h h).mpr fun _ => rfl
theorem dig_perm {wd : Int} {a b : Mp} {n : Nat} (p : a.Perm b) (h : MpB a n) : digM wd 32 a = digM wd 32 b := by
  unfold digM
  rw [nodM_perm 32 p (sep_of h)]
theorem acc_mp {m : Mp} {n : Nat} (h : Acc m) (hl : m.length ≤ n) (hs : sumP m ≤ 1000000) : MpB m n := ⟨h.1, hl, fun p hp => (acc_en h rfl hs p hp).2⟩
theorem bfX_true {wd root : Int} (w4 : 4 ≤ wd) (w128 : wd ≤ 128) {ts : List Tr} {rs : List Int} (hr : rs.all (isD wd) = true) (hl : rs.length = ts.length + 1) (hn : ∀ t ∈ ts, ∀ n ∈ trN t, 0 ≤ n) : bfX wd (mtM wd root ts rs) ts rs = none := by
  unfold bfX
  have e1 : srt ((mtM wd root ts rs).map (·.1)) = [1, 2, 3, 4] := by show srt [1, 2, 3, 4] = [1, 2, 3, 4]; decide
  rw [if_neg (fun z : ¬ _ => z e1)]
  have e2 : (ts.flatMap fun t => (trN t).map fun n => decide (n < 0)).any id = false := by
    rw [List.any_eq_false]
    intro b hb
    obtain ⟨t, ht, hb⟩ := List.mem_flatMap.mp hb
    obtain ⟨n, hn', rfl⟩ := List.mem_map.mp hb
    have := hn t ht n hn'
    simp
    omega
  rw [e2, if_neg Bool.false_ne_true]
  rw [show (getP (mtM wd root ts rs) 3).getD 0 = (ts.length : Int) from rfl, show (getP (mtM wd root ts rs) 2).getD 0 = rootN wd (ts.map (itW wd)) from rfl, show (getP (mtM wd root ts rs) 4).getD 0 = rootN wd rs from rfl, if_neg (fun z : ¬ _ => z rfl), if_neg (fun z : ¬ _ => z rfl), if_neg (fun z : ¬ _ => z hr), if_neg (fun z : ¬ _ => z (by rw [hl]; rfl)), if_neg (fun z : ¬ _ => z rfl)]
theorem rts_at {wd : Int} {m : Mp} {ts : List Tr} {i : Nat} (h : i ≤ ts.length) : (rtsP wd m ts)[i]? = some (digM wd 32 (stP m (ts.take i))) := by
  unfold rtsP
  rw [List.getElem?_map, List.getElem?_range (by omega)]
  rfl
theorem okL_take : ∀ {ts : List Tr} {m : Mp} (i : Nat), okL m ts → okL m (ts.take i)
  | [], _, i, _ => by simp; trivial
  | t :: ts, m, 0, _ => trivial
  | t :: ts, m, i + 1, ⟨h1, h2⟩ => ⟨h1, okL_take i h2⟩
theorem rts_len {wd : Int} {m : Mp} {ts : List Tr} : (rtsP wd m ts).length = ts.length + 1 := by unfold rtsP; simp
theorem rts_isD {wd : Int} (w4 : 4 ≤ wd) (w128 : wd ≤ 128) {m : Mp} {ts : List Tr} : (rtsP wd m ts).all (isD wd) = true := by
  rw [List.all_eq_true]
  intro y hy
  unfold rtsP at hy
  obtain ⟨i, _, rfl⟩ := List.mem_map.mp hy
  exact decide_eq_true (digM_rng w4 w128 _ _)
theorem val_le {m : Mp} {s : Int} (h : Acc m) (hs : sumP m = s) (h2 : s ≤ 1000000) : ∀ {p : Int × Int}, p ∈ m → p.2 ≤ 1000000 := fun {p} hp => by
  have hle : ∀ (l : Mp), (∀ q ∈ l, 1 ≤ q.2) → 0 ≤ (l.map (·.2)).sum ∧ ∀ q ∈ l, q.2 ≤ (l.map (·.2)).sum := fun l => by
    induction l with
    | nil => exact fun _ => ⟨Int.le_refl 0, fun q hq => by cases hq⟩
    | cons a l ih =>
      intro hl
      obtain ⟨i1, i2⟩ := ih fun q hq => hl q (List.mem_cons_of_mem _ hq)
      have ha := hl a List.mem_cons_self
      rw [List.map_cons, List.sum_cons]
      refine ⟨by omega, fun q hq => ?_⟩
      rcases List.mem_cons.mp hq with rfl | hq
      · omega
      · have := i2 q hq; omega
  have := (hle m fun q hq => (h.2 q hq).2).2 p hp
  have e : (m.map (·.2)).sum = s := hs
  omega
theorem okL_tr {s : Int} (hs : s ≤ 1000000) : ∀ {ts : List Tr} {m : Mp}, Acc m → sumP m = s → okL m ts → ∀ t ∈ ts, TrB t ∧ ∀ n ∈ trN t, 0 ≤ n
  | [], _, _, _, _, t, ht => by cases ht
  | u :: ts, m, hm, hsm, ⟨h1, h2⟩, t, ht => by
    have q := mv_perm hm hm (List.Perm.refl m) h1
    rcases List.mem_cons.mp ht with rfl | ht
    · obtain ⟨i1, i2, i3, i4, i5, i6⟩ := tf_some h1
      obtain ⟨v, hv⟩ := Option.isSome_iff_exists.mp i1
      have hv2 : v ≤ 1000000 := val_le hm hsm hs (getP_mem hv)
      rw [hv] at i6
      have i6 : t.2.2 ≤ v := i6
      refine ⟨⟨bd_rng (k := 32) i2.1 i2.2 (by decide), bd_rng (k := 32) i3.1 i3.2 (by decide), bd_small (by omega) (by omega)⟩, fun n hn => ?_⟩
      simp only [List.mem_cons, List.mem_nil_iff, or_false] at hn
      rcases hn with rfl | rfl | rfl
      · exact i2.1
      · exact i3.1
      · omega
    · exact okL_tr hs (acc_perm (moved_acc hm h1) q) ((sum_perm q).symm.trans ((moved_sum hm.1 h1).trans hsm)) h2 t ht

theorem noKs_map {α : Type} {f : α → D} (h : ∀ x, noK (f x) = true) : ∀ xs : List α, noKs (xs.map f) = true
  | [] => rfl
  | x :: xs => by
    show (noK (f x) && noKs (xs.map f)) = true
    rw [h x, noKs_map h xs]; rfl
theorem de_tupO {K : PySem.W.Frag} {ρ : List Wp.E} {Q : Wp.E → Prop} {i : Nat} {α : Type} {f : α → D} {xs : List α} (hi : ρ[i]? = some (.own (xs.map f))) (hn : ∀ x, noK (f x) = true) (k : Q (.d (.tup (xs.map f)))) : DE K (tCB (rTupQ K) (tCons (tVar i) tNil)) ρ Q :=
  de_lendO i hi rfl (de_cb (da_cons (de_var ⟨.d (.lst (xs.map f)), by rw [List.getElem?_set_self (List.getElem?_eq_some_iff.mp hi).1], rfl, dd (da_nil (db_tupL ⟨_, rfl, noKs_map hn xs, k⟩))⟩)))
theorem get_set_self {α : Type} {xs : List α} {i : Nat} {x y : α} (h : xs[i]? = some x) : (xs.set i y)[i]? = some y := List.getElem?_set_self (List.getElem?_eq_some_iff.mp h).1
theorem de_bodyO {K : PySem.W.Frag} {ρ : List Wp.E} {Q : Wp.E → Prop} {i j : Nat} {E' : XK} {ts : List Tr} {rs : List Int} (hij : i ≠ j) (h4 : ρ[i]? = some (.own (ts.map trT))) (h7 : ρ[j]? = some (.own (rs.map D.int))) (k : Q (.d (bdD K ts rs))) : DE K (tMake (He.ga K "Body") (sp_Body___init__ K) [] E' (tCons (tVar i) (tCons (tVar j) tNil))) ρ Q := by
  have hn : noK (bdD K ts rs) = true := by
    show (noKs (ts.map trT) && (noKs (rs.map D.int) && true)) = true
    rw [noKs_map (fun _ => rfl), noKs_map (fun _ => rfl)]; rfl
  refine de_lendO i h4 rfl (de_lendO (ds := rs.map D.int) j (by rw [List.getElem?_set_ne hij]; exact h7) rfl ?_)
  refine de_body (da_cons (de_var ⟨.d (.lst (ts.map trT)), by rw [List.getElem?_set_ne (Ne.symm hij)]; exact get_set_self h4, rfl, dd (da_cons (de_var ⟨.d (.lst (rs.map D.int)), get_set_self (by rw [List.getElem?_set_ne hij]; exact h7), rfl, dd (da_nil ⟨false, false, ts, rs, rfl, ?_⟩)⟩))⟩))
  exact ⟨_, rfl, hn, _, rfl, hn, k⟩
theorem de_rootO {K : PySem.W.Frag} {ρ : List Wp.E} {Q : Wp.E → Prop} {i : Nat} {wd : Int} {E' : XK} {rs : List Int} (h2 : ρ[2]? = some (.d (Hs K wd))) (hi : ρ[i]? = some (.own (rs.map D.int))) (hne : i ≠ 2) (w4 : 4 ≤ wd) (w128 : wd ≤ 128) (hl : rs.length < 34) (hr : ∀ y ∈ rs, Itm y) (k : Q (.d (.int (rootN wd rs)))) : DE K (tCall (sp_list_root K) [] E' (tCons (tVar 2) (tCons (tVar i) tNil))) ρ Q := by
  refine de_lendO i hi rfl (de_call (da_cons (de_var ⟨.d (Hs K wd), by rw [List.getElem?_set_ne hne]; exact h2, rfl, dd (da_cons (de_var ⟨.d (.lst (rs.map D.int)), get_set_self hi, rfl, dd (da_nil ?_)⟩))⟩)))
  refine dc_g (wd, false, rs) rfl ⟨w4, w128, hl, by show rs.length ≤ 100; omega, hr⟩ ?_
  exact ⟨_, rfl, rfl, k⟩
theorem same_sDe {K : PySem.W.Frag} (o : Option Str) {Q : Wp.E → Prop} (hq : Q (.d (.bl true))) : DR K (rEqB K) (.d (sD o)) (.d (sD o)) Q := by
  cases o with
  | none => exact dr_eqBX true ⟨fun _ => rfl, fun _ => rfl⟩ rfl rfl (by decide) (by decide) hq
  | some s => exact dr_eqBS (by rw [decide_eq_true rfl]; exact hq)
theorem hold_items {K : PySem.W.Frag} {wi : TI} {g : TG} {tt : TT} {te : TE} {vs : List Nat} {i : Nat} {ρ : List Wp.E} {N B C : List Wp.E → Prop} {R : D → Prop} (h : Hold (DS K (tAsg (tLc wi g tt te vs) (gName i)) ρ N B C R)) : DS K (tAsg (tLc wi g tt te vs) (gName i)) ρ N B C R := h
theorem hold_meta {K : PySem.W.Frag} {tps : List (TE × TE)} {i : Nat} {ρ : List Wp.E} {N B C : List Wp.E → Prop} {R : D → Prop} (h : Hold (DS K (tAsg (tDisp tps) (gName i)) ρ N B C R)) : DS K (tAsg (tDisp tps) (gName i)) ρ N B C R := h
theorem hold_root7 {K : PySem.W.Frag} {E' : XK} {ρ : List Wp.E} {Q : Wp.E → Prop} (h : Hold (DE K (tCall (sp_list_root K) [] E' (tCons (tVar 2) (tCons (tVar 7) tNil))) ρ Q)) : DE K (tCall (sp_list_root K) [] E' (tCons (tVar 2) (tCons (tVar 7) tNil))) ρ Q := h
theorem hold_bf {K : PySem.W.Frag} {E' : XK} {tas : TA} {ρ : List Wp.E} {Q : Wp.E → Prop} (h : Hold (DE K (tCall (sp_body_fault K) [] E' tas) ρ Q)) : DE K (tCall (sp_body_fault K) [] E' tas) ρ Q := h
theorem hold_and {K : PySem.W.Frag} {a b : TE} {ρ : List Wp.E} {Q : Wp.E → Prop} (h : Hold (DE K (tAndV a b) ρ Q)) : DE K (tAndV a b) ρ Q := h
theorem de_andE {K : PySem.W.Frag} {a b : TE} {ρ : List Wp.E} {Q : Wp.E → Prop} {p q : Bool} (ha : ∀ Q' : Wp.E → Prop, Q' (.d (.bl p)) → DE K a ρ Q') (hb : ∀ Q' : Wp.E → Prop, Q' (.d (.bl q)) → DE K b ρ Q') (k : Q (.d (.bl (p && q)))) : DE K (tAndV a b) ρ Q := by
  refine de_andV (ha _ (be ?_))
  cases p with
  | true =>
    rw [if_pos rfl]
    exact hb _ k
  | false =>
    rw [if_neg Bool.false_ne_true]
    exact k
theorem goodT {wd : Int} {m0 : Mp} {ts : List Tr} (hm0 : Acc m0) (hok : okL m0 ts) (hl0 : m0.length ≤ 5) (hs0 : sumP m0 ≤ 1000000) (htl6 : ts.length ≤ 6) : ∀ i : Nat, okP m0 (ts.take i) ∧ (stP m0 (ts.take i)).Perm (stL m0 (ts.take i)) ∧ Acc (stL m0 (ts.take i)) ∧ (stL m0 (ts.take i)).length ≤ 21 ∧ sumP (stL m0 (ts.take i)) = sumP m0 ∧ MpB (stL m0 (ts.take i)) 21 ∧ (∀ p ∈ stL m0 (ts.take i), EnB p) ∧ digM wd 32 (stL m0 (ts.take i)) = digM wd 32 (stP m0 (ts.take i)) := fun i => by
    have hoi : okL m0 (ts.take i) := okL_take i hok
    obtain ⟨o1, o2, o3⟩ := st_perm hm0 hm0 (List.Perm.refl m0) hoi
    obtain ⟨_, g2, g3⟩ := stL_good hm0 hoi
    have hl : (stL m0 (ts.take i)).length ≤ 21 := by rw [List.length_take] at g2; omega
    have hmp := acc_mp o3 hl (by omega)
    exact ⟨o1, o2, o3, hl, g3, hmp, fun p hp => (acc_en o3 g3 hs0 p hp).1, dig_perm o2.symm hmp⟩
def sp_law (K : PySem.W.Frag) : Sp := sp_lawD K
theorem law_starts (K : PySem.W.Frag) (H : Hp) (a : Addr) (ns : List Int) (hl : ns.length ≤ 63) (hS : SqL K H a (ns.map V.int)) : sp_law K [.ref a] H (fun v _ => v = .bl true) fun _ _ _ => False := ⟨a, ns, rfl, hS, hl, fun _ => rfl⟩
theorem hold_right {K : PySem.W.Frag} {E' : XK} {tas : TA} {g : TG} {ρ : List Wp.E} {N B C : List Wp.E → Prop} {R : D → Prop} (h : Hold (DS K (tAsg (tCall (sp__law_right K) [] E' tas) g) ρ N B C R)) : DS K (tAsg (tCall (sp__law_right K) [] E' tas) g) ρ N B C R := h
theorem hold_spoilt {K : PySem.W.Frag} {E' : XK} {tas : TA} {ρ : List Wp.E} {N B C : List Wp.E → Prop} {R : D → Prop} (h : Hold (DS K (tDrop (tCall (sp__law_spoilt K) [] E' tas)) ρ N B C R)) : DS K (tDrop (tCall (sp__law_spoilt K) [] E' tas)) ρ N B C R := h
theorem hold_for4 {K : PySem.W.Frag} {g : TG} {ts : TS} {ρ : List Wp.E} {N B C : List Wp.E → Prop} {R : D → Prop} (h : Hold (DS K (tFor (iSq K (tVar 4)) g ts) ρ N B C R)) : DS K (tFor (iSq K (tVar 4)) g ts) ρ N B C R := h
local macro_rules | `(tactic| walk_at "d1") => `(tactic| first
  | with_reducible refine hold_right ?_
  | with_reducible refine hold_items ?_
  | with_reducible refine hold_and ?_
  | ((with_reducible refine' de_oaA ?hicc ?_); (case hicc => exact rfl))
  | with_reducible refine hold_root7 ?_
  | with_reducible refine hold_bf ?_
  | with_reducible refine hold_meta ?_
  | ((with_reducible refine' de_bodyO (i := 4) (j := 7) (by decide) ?hicc ?hjcc ?_); (case hicc => exact rfl); (case hjcc => exact rfl))
  | ((with_reducible refine' de_tupO (f := trT) ?hicc (fun _ => rfl) ?_); (case hicc => exact rfl))
  | ((with_reducible refine' de_tupO (f := D.int) ?hicc (fun _ => rfl) ?_); (case hicc => exact rfl))
  | with_reducible refine hold_spoilt ?_
  | with_reducible refine hold_for4 ?_
  | with_reducible refine de_new (dn_list ?_)
  | with_reducible refine de_newD (dn_copy ?_)
  | with_reducible refine de_body ?_
  | with_reducible refine dr_eqTr ?_
  | with_reducible refine dr_eqTi ?_)
theorem ok_law (T : Txt K mg) : FnOk P w K mg base CX0 (101) (He.fAd K ("law", none)) T.fd_law ["script"] (sp_law K) := by
  refine T.law.F.ok sc_law (fun vs H Q E h => len_law h) (fun cdv A outer s H vs Q E hr h => ⟨_, PSs.nox (pss_cons (ps_set (i := 1) sc_law.nd rfl (Or.inl rfl) (pe_lst (pa_cons pe_int (pa_cons pe_int pa_nil))))
  (pss_cons (ps_set (i := 2) sc_law.nd rfl (Or.inr rfl) (pe_make T.mk_Hasher (ok_Hasher___init__ T) (hr.mono (by omega)) (by rfl) T.g_Hasher T.Hasher___init__.b .nil pass0 (pa_cons (pe_ix (kx_seq (K := K)) (pe_lst (pa_cons pe_int (pa_cons pe_int (pa_cons pe_int pa_nil)))) (pe_call (ok__law_draw T) (hr.mono (by omega)) (by rfl) T._law_draw.g T._law_draw.F.kp T._law_draw.b .nil pass0 (pa_cons (pv 1) (pa_cons (pv 0) (pa_cons pe_int pa_nil)))) (fun _ _ => rfl)) pa_nil)))
  (pss_cons (ps_set (i := 3) sc_law.nd rfl (Or.inl rfl) (pe_call (ok__law_pairs T) (hr.mono (by omega)) (by rfl) T._law_pairs.g T._law_pairs.F.kp T._law_pairs.b .nil pass0 (pa_cons (pv 1) (pa_cons (pv 0) pa_nil))))
  (pss_cons (ps_asg (pe_call (ok__law_right T) (hr.mono (by omega)) (by rfl) T._law_right.g T._law_right.F.kp T._law_right.b .nil pass0 (pa_cons (pv 1) (pa_cons (pv 0) (pa_cons (pv 3) (pa_cons pe_int pa_nil))))) (kg_tup (K := K) (n := 2) rfl (pgs_cons (pg_name (i := 4) sc_law.nd rfl (Or.inl rfl)) (pgs_cons (pg_name (i := 5) sc_law.nd rfl (Or.inl rfl)) pgs_nil))))
  (pss_cons (ps_set (i := 6) sc_law.nd rfl (Or.inl rfl) (pe_call (ok_made_body T) (hr.mono (by omega)) (by rfl) T.made_body.g T.made_body.F.kp T.made_body.b .nil pass0 (pa_cons (pv 2) (pa_cons (pe_callTy (kr_dict (K := K)) (by rfl) T.z_dict (by decide +kernel) (pa_cons (pv 3) pa_nil)) (pa_cons (pe_callTy (kq_listA (K := K)) (by rfl) T.z_list (by decide +kernel) (pa_cons (pv 4) pa_nil)) pa_nil)))))
  (pss_cons (ps_set (i := 7) sc_law.nd rfl (Or.inl rfl) (pe_lst (pa_cons (pe_call (ok_map_root T) (hr.mono (by omega)) (by rfl) T.map_root.g T.map_root.F.kp T.map_root.b .nil pass0 (pa_cons (pv 2) (pa_cons (pv 3) pa_nil))) pa_nil)))
  (pss_cons (ps_for PassesOwn.never rfl (ki_sq (K := K) (pv 4)) (pg_name (i := 8) sc_law.nd rfl (Or.inl rfl)) (pss_cons (ps_set (i := 3) sc_law.nd rfl (Or.inl rfl) (pe_call (ok__law_moved T) (hr.mono (by omega)) (by rfl) T._law_moved.g T._law_moved.F.kp T._law_moved.b .nil pass0 (pa_cons (pv 3) (pa_cons (pv 8) pa_nil))))
  (pss_cons (ps_expr (pe_bm PySem.F.plainAttrs_list PySem.F.slot_list_append PySem.F.type_list_append mt_append (pv 7) (pa_cons (pe_call (ok_map_root T) (hr.mono (by omega)) (by rfl) T.map_root.g T.map_root.F.kp T.map_root.b .nil pass0 (pa_cons (pv 2) (pa_cons (pv 3) pa_nil))) pa_nil)))
  (pss_one (ps_if (pt_cmpR (kp_neB (K := K) hr.units) (pe_call (ok_transfer_item T) (hr.mono (by omega)) (by rfl) T.transfer_item.g T.transfer_item.F.kp T.transfer_item.b .nil pass0 (pa_cons (pv 2) (pa_cons (pv 8) pa_nil))) (pe_meth (pv 2) T.cl_Hasher T.me_Hasher_digest (ok_Hasher_digest T) (hr.mono (by omega)) T.Hasher_digest.b .nil pass0 (pa_cons pe_int (pa_cons (pv 8) pa_nil))) (nomark _)) (pss_one (ps_ret pe_bl)) pss_nil)))))
  (pss_cons (ps_if (PW.pt (pw_or (pt_cmpR (kp_neB (K := K) hr.units) (pe_tup (pa_cons (ke_fld (K := K) (pv 6)) (pa_cons (ke_fld (K := K) (pv 6)) pa_nil))) (pe_tup (pa_cons (pe_callTy (kq_tuple (K := K)) (by rfl) T.z_tuple (by decide +kernel) (pa_cons (pv 4) pa_nil)) (pa_cons (pe_callTy (kq_tuple (K := K)) (by rfl) T.z_tuple (by decide +kernel) (pa_cons (pv 7) pa_nil)) pa_nil))) (nomark _)) (pw_or1 (pt_not (pt_cmpR (op_oe (K := K) (ok_Body___eq__ T) T.me_Body___eq__ T.Body___eq__.b (hr.mono (by omega))) (pv 6) (pe_make T.mk_Body (ok_Body___init__ T) (hr.mono (by omega)) (by rfl) T.g_Body T.Body___init__.b .nil pass0 (pa_cons (pv 4) (pa_cons (pv 7) pa_nil))) (nomark _)))))) (pss_one (ps_ret pe_bl)) pss_nil)
  (pss_cons (ps_setLc (i := 9) (own := [("one", 8)]) rfl sc_law.nd rfl rfl (sw_true rfl rfl rfl (by decide +kernel)) (ki_sq (K := K) (pv 4)) (blkOk_by (own := [("one", 8)]) (N := ["script", "state", "hasher", "pairs", "transfers", "behind", "body", "roots", "one", "items", "meta", "other"]) (sc := defScope s_law) (by decide +kernel)) (fun _ _ _ _ _ => pg_name (i := 8) sc_law.nd rfl (Or.inl rfl)) (fun _ _ _ _ _ => pts_nil) (fun _ _ _ _ _ => (pe_meth (pv 2) T.cl_Hasher T.me_Hasher_digest (ok_Hasher_digest T) (hr.mono (by omega)) T.Hasher_digest.b .nil pass0 (pa_cons pe_int (pa_cons (pv 8) pa_nil)))))
  (pss_cons (ps_set (i := 10) sc_law.nd rfl (Or.inl rfl) (pe_disp (pps_cons pe_int (pe_ix (kx_seq (K := K)) (pv 7) (pe_op op_sub (pe_callB (kq_lenA (K := K)) (by rfl) T.z_len (by decide +kernel) (pa_cons (pv 7) pa_nil)) pe_int) (fun _ _ => rfl)) (pps_cons pe_int (pe_call (ok_list_root T) (hr.mono (by omega)) (by rfl) T.list_root.g T.list_root.F.kp T.list_root.b .nil pass0 (pa_cons (pv 2) (pa_cons (pv 9) pa_nil))) (pps_cons pe_int (pe_callB (kq_lenA (K := K)) (by rfl) T.z_len (by decide +kernel) (pa_cons (pv 9) pa_nil)) (pps_cons pe_int (pe_call (ok_list_root T) (hr.mono (by omega)) (by rfl) T.list_root.g T.list_root.F.kp T.list_root.b .nil pass0 (pa_cons (pv 2) (pa_cons (pv 7) pa_nil))) pps_nil)))) rfl rfl (by simp) (by decide)))
  (pss_cons (ps_if (PW.pt (pw_or (pt_cmpR (kp_neB (K := K) hr.units) (pe_call (ok_meta_of T) (hr.mono (by omega)) (by rfl) T.meta_of.g T.meta_of.F.kp T.meta_of.b .nil pass0 (pa_cons (pv 2) (pa_cons (pe_ix (kx_seq (K := K)) (pv 7) (pe_op op_sub (pe_callB (kq_lenA (K := K)) (by rfl) T.z_len (by decide +kernel) (pa_cons (pv 7) pa_nil)) pe_int) (fun _ _ => rfl)) (pa_cons (pv 6) pa_nil)))) (pv 10) (nomark _)) (pw_or1 (pt_cmpR (op_notN1) (pe_call (ok_body_fault T) (hr.mono (by omega)) (by rfl) T.body_fault.g T.body_fault.F.kp T.body_fault.b .nil pass0 (pa_cons (pv 2) (pa_cons (pv 10) (pa_cons (pv 6) pa_nil)))) pe_non (nomark _))))) (pss_one (ps_ret pe_bl)) pss_nil)
  (pss_cons (ps_expr (pe_call (ok__law_spoilt T) (hr.mono (by omega)) (by rfl) T._law_spoilt.g T._law_spoilt.F.kp T._law_spoilt.b .nil pass0 (pa_cons (pv 1) (pa_cons (pv 0) (pa_cons (pv 2) (pa_cons (pv 10) (pa_cons (pv 4) (pa_cons (pv 7) pa_nil))))))))
  (pss_cons (ps_set (i := 11) sc_law.nd rfl (Or.inl rfl) (pe_make T.mk_Body (ok_Body___init__ T) (hr.mono (by omega)) (by rfl) T.g_Body T.Body___init__.b .nil pass0 (pa_cons (pv 4) (pa_cons (pv 7) pa_nil))))
  (pss_cons (ps_if (PW.pt (pw_or (pt_cmpR (kp_neB (K := K) hr.units) (pe_cmpR (op_oe (K := K) (ok_Body___eq__ T) T.me_Body___eq__ T.Body___eq__.b (hr.mono (by omega))) (pv 11) (pv 6) (nomark _)) (pe_and (pe_cmpR (kp_eqB (K := K) hr.units) (pe_callTy (kq_tuple (K := K)) (by rfl) T.z_tuple (by decide +kernel) (pa_cons (pv 4) pa_nil)) (ke_fld (K := K) (pv 6)) (nomark _)) (pe_one (pe_cmpR (kp_eqB (K := K) hr.units) (pe_callTy (kq_tuple (K := K)) (by rfl) T.z_tuple (by decide +kernel) (pa_cons (pv 7) pa_nil)) (ke_fld (K := K) (pv 6)) (nomark _)))) (nomark _)) (pw_or1 (pt_cmpR (op_oe (K := K) (ok_Body___eq__ T) T.me_Body___eq__ T.Body___eq__.b (hr.mono (by omega))) (pv 6) (ke_fld (K := K) (pv 6)) (nomark _))))) (pss_one (ps_ret pe_bl)) pss_nil)
  (pss_one (ps_ret (pe_cmpR (kp_eqB (K := K) hr.units) (pe_call (ok_body_fault T) (hr.mono (by omega)) (by rfl) T.body_fault.g T.body_fault.F.kp T.body_fault.b .nil pass0 (pa_cons (pv 2) (pa_cons (pv 10) (pa_cons (pv 11) pa_nil)))) (pe_call (ok__law_due T) (hr.mono (by omega)) (by rfl) T._law_due.g T._law_due.F.kp T._law_due.b .nil pass0 (pa_cons (pv 2) (pa_cons (pv 10) (pa_cons (pv 4) (pa_cons (pv 7) pa_nil))))) (nomark _)))))))))))))))))), fn_law h (by decide) (by decide) ?_⟩)
  change DS K _ (Wp.E.sc :: (Wp.E.st :: (Wp.E.any :: (Wp.E.any :: (Wp.E.any :: (Wp.E.any :: (Wp.E.any :: (Wp.E.any :: (Wp.E.any :: (Wp.E.any :: (Wp.E.any :: (Wp.E.any :: [])))))))))))) _ _ _ _
  have hcl := T.cl_Hasher
  have c0 := T.cl_Body
  have k1 := T.n_Body_transfers
  have k2 := T.n_Body_roots
  have hnw := T.n_Hasher_width
  walk_at "d"
  refine de_hasher2 ?_
  walk_at "d"
  refine dcs_draw (by decide) (by decide) fun n1 a1 b1 => ?_
  walk_at "d"
  refine pick3 a1 b1 fun wd hw => ?_
  have w4 : 4 ≤ wd := by omega
  have w128 : wd ≤ 128 := by omega
  clear hw
  walk_at "d"
  refine ⟨wd, rfl, ?_⟩
  walk_at "d"
  refine dcs_f () rfl trivial ?_
  rintro _ ⟨m0, rfl, hm0, hl0, h9⟩
  walk_at "d"
  unfold Hold
  refine ds_unpackS (is := [4, 5]) rfl rfl rfl rfl rfl ?_
  walk_at "d"
  refine ⟨(m0, 6), rfl, ⟨hm0, hl0, by show (0 : Int) ≤ 6; decide, by show (6 : Int) ≤ 8; decide⟩, ?_⟩
  rintro _ ⟨ts, rfl, hok, htl⟩
  refine ⟨rfl, ?_⟩
  dsimp only [setL, List.set]
  have htl6 : ts.length ≤ 6 := by dsimp only at htl; omega
  dsimp only at hok
  clear htl
  obtain ⟨hokP, hperm, haccL⟩ := st_perm hm0 hm0 (List.Perm.refl m0) hok
  have hs0 : sumP m0 ≤ 1000000 := by
    have hle : ∀ (l : Mp), (∀ q ∈ l, q.2 ≤ 9) → (l.map (·.2)).sum ≤ 9 * l.length := fun l => by
      induction l with
      | nil => exact fun _ => Int.le_refl 0
      | cons a l ih =>
        intro hl
        have := ih fun q hq => hl q (List.mem_cons_of_mem _ hq)
        have := hl a List.mem_cons_self
        rw [List.map_cons, List.sum_cons, List.length_cons]
        omega
    have h1 := hle m0 h9
    show (m0.map (·.2)).sum ≤ 1000000
    omega
  have htr := okL_tr hs0 hm0 rfl hok
  have good := goodT (wd := wd) hm0 hok hl0 hs0 htl6
  walk_at "d"
  refine dc_g (wd, m0, false, ts) rfl ⟨w4, w128, hm0, hokP, by show m0.length ≤ 100; omega, by show ts.length ≤ 90; omega, hs0⟩ ?_
  walk_at "D"
  refine dc_g (wd, m0) rfl ⟨w4, w128, by show m0.length ≤ 1000; omega, fun p hp => (acc_en hm0 rfl hs0 p hp).1⟩ ?_
  walk_at "D"
  unfold Hold
  refine ds_nameL 4 rfl fun a ρ' e => ?_
  subst e
  refine ds_forA ⟨a, _, rfl, fun i ρ => ∃ e8 e9 e10 e11, ρ = [.sc, .st, .d (Hs K wd), .d (.dc (mI (stL m0 (ts.take i)))), .oa a (.lst (ts.map trT)), .d (.dc (mI (stL m0 ts))), .d (bdD K ts (rtsP wd m0 ts)), .own (((List.range (i + 1)).map fun i => digM wd 32 (stP m0 (ts.take i))).map D.int), e8, e9, e10, e11], ⟨_, EnvLe.refl _, _, _, _, _, rfl⟩, ?_, ?_, ?_⟩
  · rintro i ρ ⟨e8, e9, e10, e11, rfl⟩
    rfl
  · rintro i d ρ hi ⟨e8, e9, e10, e11, rfl⟩
    rw [List.getElem?_map] at hi
    obtain ⟨t, ht, rfl⟩ := Option.map_eq_some_iff.mp hi
    obtain ⟨_, _, gacc, glen, gsum, gmp, gen, gdig⟩ := good i
    obtain ⟨_, _, gacc2, glen2, gsum2, gmp2, gen2, gdig2⟩ := good (i + 1)
    have hq2 : stL m0 (ts.take (i + 1)) = lmW (stL m0 (ts.take i)) t := by rw [List.take_add_one, ht]; exact stL_snoc _ _ _
    have htb := (htr t (List.mem_of_getElem? ht)).1
    have hil := (List.getElem?_eq_some_iff.mp ht).1
    walk_at "d"
    refine dc_g (stL m0 (ts.take i), t) rfl ⟨by show (stL m0 (ts.take i)).length ≤ 1000; omega, gacc.1⟩ ?_
    walk_at "D"
    rw [show ((lmvM (stL m0 (ts.take i)) t).filter fun p => decide (0 < p.2)) = stL m0 (ts.take (i + 1)) from hq2.symm]
    refine dc_g (wd, stL m0 (ts.take (i + 1))) rfl ⟨w4, w128, by show (stL m0 (ts.take (i + 1))).length ≤ 1000; omega, gen2⟩ ?_
    walk_at "D"
    rw [gdig2]
    refine ⟨by rw [List.length_map, List.length_map, List.length_range]; exact Nat.lt_of_le_of_lt (show i + 1 ≤ 1000 by omega) (by decide), ?_⟩
    walk_at "d"
    refine dc_g (wd, t) rfl ⟨w4, w128, htb⟩ ?_
    walk_at "D"
    refine dc_digest (trN t) (.inr rfl) (by omega) w128 (limbs_bd (show 3 ≤ 120 by decide) (tr_bd htb)) ?_
    walk_at "D"
    refine ite_f (by rw [decide_eq_true (show itW wd t = dgst wd 12 (trN t) from rfl)]; exact Bool.false_ne_true) ?_
    walk_at "d"
    have grow : ((List.range (i + 1)).map fun i => digM wd 32 (stP m0 (ts.take i))) ++ [digM wd 32 (stP m0 (ts.take (i + 1)))] = (List.range (i + 1 + 1)).map fun i => digM wd 32 (stP m0 (ts.take i)) := by rw [List.range_succ (n := i + 1), List.map_append]; rfl
    refine' ⟨_, EnvLe.refl _, _, _, _, _, by rw [← grow, List.map_append]; exact rfl⟩
  rintro ρ ⟨e8, e9, e10, e11, rfl⟩
  rw [List.length_map, List.take_length]
  refine ds_unL 4 rfl (by dsimp only [List.set]) ?_
  rw [show ((List.range (ts.length + 1)).map fun i => digM wd 32 (stP m0 (ts.take i))) = rtsP wd m0 ts from rfl]
  have hRl := rts_len (wd := wd) (m := m0) (ts := ts)
  have hRd := rts_isD w4 w128 (m := m0) (ts := ts)
  have hRi := isD_itm w128 hRd
  generalize rtsP wd m0 ts = R at *
  walk_at "d"
  have pl : (D.tup [D.tup (ts.map trT), tI R]).plain = true := by
    show ((D.tup (ts.map trT)).plain && ((tI R).plain && true)) = true
    rw [tr_plain, tI_plain]; rfl
  have dp : (D.tup [D.tup (ts.map trT), tI R]).dep ≤ 60 := by
    have h1 := deps_map (f := trT) (n := 1) (fun _ => Nat.le_refl _) ts
    have h2 := deps_map (f := D.int) (n := 0) (fun _ => Nat.le_refl _) R
    show max (D.deps (ts.map trT) + 1) (max (D.deps (R.map D.int) + 1) 0) + 1 ≤ 60
    omega
  refine dr_neBX true ⟨fun _ => rfl, fun _ => rfl⟩ pl pl dp dp ?_
  walk_at "d"
  refine dr_oe rfl rfl ?_
  refine dc_gE ((ts, R), .inl (ts, R)) rfl (fun d z => by cases z) (d := .bl true) (congrArg D.bl (decide_eq_true ⟨rfl, rfl⟩)) ?_
  refine ⟨_, rfl, ?_⟩
  walk_at "d"
  unfold Hold
  refine ds_asg (de_new (dn_lendO 4 rfl (by dsimp only [List.set]) (dn_map trT (fun t => D.int (itW wd t)) ?_)))
  walk_at "d"
  refine ⟨ts, rfl, by omega, fun i t ht => dgw_name rfl (by decide) rfl ?_, noKs_map (fun _ => rfl) _, ?_⟩
  · walk_at "d"
    refine dc_digest (trN t) (.inr rfl) (by omega) w128 (limbs_bd (show 3 ≤ 120 by decide) (tr_bd (htr t (List.mem_of_getElem? ht)).1)) ?_
    walk_at "D"
    rfl
  rw [show ts.map (fun t => D.int (itW wd t)) = (ts.map (itW wd)).map D.int by rw [List.map_map]; rfl]
  walk_at "d"
  unfold Hold
  refine ds_ownM (dn_disp (by show 4 ≤ 15; decide) ?_)
  obtain ⟨rl, hrl⟩ : ∃ rl, R[ts.length]? = some rl := ⟨_, List.getElem?_eq_getElem (by omega)⟩
  have hlast : atI (R.map D.int) ((R.length : Int) - 1) = some (D.int rl) := by
    rw [show (R.length : Int) - 1 = (ts.length : Int) by omega]
    exact atI_map hrl
  unfold DPs
  walk_at "d"
  refine ⟨_, hlast, ?_⟩
  walk_at "d"
  unfold DPs
  walk_at "d"
  refine dc_g (wd, false, ts.map (itW wd)) rfl ⟨w4, w128, by rw [List.length_map]; omega, by rw [List.length_map]; omega, itm_it w4 w128 ts⟩ ?_
  walk_at "D"
  unfold DPs
  walk_at "d"
  unfold DPs
  walk_at "d"
  unfold Hold
  refine de_rootO (i := 7) rfl rfl (by decide) w4 w128 (by omega) hRi ?_
  walk_at "d"
  unfold DPs
  dsimp only
  rw [show mergeP [] [((Sum.inl 1 : Key), D.int rl), (Sum.inl 2, D.int (rootN wd (ts.map (itW wd)))), (Sum.inl 3, D.int ((ts.map (itW wd)).length : Int)), (Sum.inl 4, D.int (rootN wd R))] = mI (mtM wd rl ts R) by rw [List.length_map]; rfl]
  have hmnd : Nd (mtM wd rl ts R) := by
    show [(1 : Int), 2, 3, 4].Nodup
    decide
  walk_at "d"
  refine ⟨_, hlast, ?_⟩
  walk_at "d"
  have htB : ∀ t ∈ ts, TrB t := fun t ht => (htr t ht).1
  refine dc_g (wd, rl, ts, R) rfl ⟨w4, w128, by show ts.length ≤ 30; omega, htB, by show R.length ≤ 32; omega, hRi⟩ ?_
  dsimp only
  walk_at "d"
  refine dr_neBM (m := mtM wd rl ts R) (n := mtM wd rl ts R) (.inl rfl) (.inr rfl) ?_
  rw [meq_refl hmnd]
  walk_at "d"
  unfold Hold
  refine de_lendM 10 rfl (by dsimp only [List.set]) (de_call ?_)
  walk_at "d"
  refine dc_g (wd, mtM wd rl ts R, ts, R) rfl ⟨w4, w128, by show 4 ≤ 60; decide, by show ts.length ≤ 30; omega, htB, by show R.length ≤ 32; omega⟩ ?_
  dsimp only
  rw [bfX_true w4 w128 hRd hRl fun t ht => (htr t ht).2]
  refine ⟨_, rfl, trivial, ?_⟩
  dsimp only [sD]
  walk_at "d"
  refine ite_f (show ¬ (!D.non.isN) = true from Bool.false_ne_true) ?_
  walk_at "d"
  unfold Hold
  refine ds_nameD 10 rfl fun am ρ' e => ?_
  subst e
  refine ds_nameL 4 rfl fun at_ ρ' e => ?_
  subst e
  refine ds_nameL 7 rfl fun ar ρ' e => ?_
  subst e
  dsimp only [List.set]
  refine ds_dropWS [10, 4, 7] (by decide) rfl rfl rfl ?_
  walk_at "d"
  refine ⟨⟨wd, am, at_, ar, mtM wd rl ts R, ts, R⟩, rfl, ⟨rfl, rfl, rfl, trivial⟩, ⟨w4, w128, hmnd, by show 4 ≤ 10; decide, fun k k1 k4 => ?_, by show ts.length ≤ 10; omega, htB, by show R.length ≤ 11; omega, by show 1 ≤ R.length; omega⟩, ?_⟩
  · have : k = 1 ∨ k = 2 ∨ k = 3 ∨ k = 4 := by omega
    rcases this with rfl | rfl | rfl | rfl <;> rfl
  rintro d ws' ⟨rfl, me', ts', rs', rfl, hsr⟩ _
  dsimp only [setOA, List.set, SpX.ws]
  refine ds_unD 10 rfl (by dsimp only [List.set]) ?_
  refine ds_freezeM 10 rfl (by dsimp only [List.set]) ?_
  refine ds_unL 4 rfl (by dsimp only [List.set]) ?_
  refine ds_freeze 4 rfl (by dsimp only [List.set]) ?_
  refine ds_unL 7 rfl (by dsimp only [List.set]) ?_
  refine ds_freeze 7 rfl (by dsimp only [List.set]) ?_
  walk_at "d"
  refine ⟨false, false, ts', rs', rfl, ?_⟩
  walk_at "d"
  refine dr_oe rfl rfl ?_
  refine dc_gE ((ts', rs'), .inl (ts, R)) rfl (fun d z => by cases z) (d := .bl (decide (ts' = ts ∧ rs' = R))) rfl ?_
  refine ⟨_, rfl, ?_⟩
  walk_at "d"
  unfold Hold
  refine de_andE (p := decide (ts' = ts)) (q := decide (rs' = R)) (fun Q' h => ?_) (fun Q' h => ?_) ?_
  · walk_at "d"
    exact h
  · walk_at "d"
    exact h
  walk_at "d"
  refine ite_f (by rw [Bool.decide_and, decide_eq_true (rfl : (decide (ts' = ts) && decide (rs' = R)) = _)]; exact Bool.false_ne_true) ?_
  walk_at "d"
  refine dr_oe rfl trivial ?_
  refine dc_gE ((ts, R), .inr (tI R)) rfl (fun d z => by cases z; exact .inr ⟨_, rfl⟩) (d := .bl false) rfl ?_
  refine ⟨_, rfl, ?_⟩
  walk_at "d"
  unfold Hold
  refine de_call ?_
  walk_at "d"
  refine dc_g (wd, me', ts', rs') rfl ⟨w4, w128, by have := hsr.ml; show me'.length ≤ 60; omega, by have := hsr.tl; show ts'.length ≤ 30; omega, hsr.tb, by have := hsr.rl; show rs'.length ≤ 32; omega⟩ ?_
  dsimp only
  walk_at "d"
  refine dc_g (wd, me', ts', rs') rfl ⟨w4, w128, hsr⟩ ?_
  dsimp only
  refine same_sDe _ ?_
  exact dd rfl

end
end
end
theorem facts {P : Program} {w : World} {K : PySem.W.Frag} {h : Heap} {mg : Str → Option Value} {f : Addr} (X : K.In h) (G : h.Ns mainGlobals mg) (hfa : mg ("law" : Str) = some (.ref f)) (cE : SaysE fa fn exK K) :
    ∃ fd : FuncData, (∀ (s : Shared) (v : Value), BindsTo s fd ⟨[v], []⟩ [("script", v)]) ∧ ∀ base : Heap, K.In base → base.Ns mainGlobals mg → FnOk P w K mg base CX0 101 f fd ["script"] (sp_law K) := by
  obtain ⟨c, cx⟩ := cE
  have ex_eq_Body : EqC K (He.ga K "Body") := L2.eqcB_ok ((Bool.and_eq_true_iff.mp cx).1)
  have ex_t_META_KEYS : ∀ H : Hp, SqT K H (He.ga K "META_KEYS") (List.map V.int [1, 2, 3, 4]) := L2.tupB_ok ((Bool.and_eq_true_iff.mp cx).2)
  obtain ⟨fd0, F0⟩ := c.def_ 0 (d := dd_Hasher___init__) rfl
  obtain ⟨fd1, F1⟩ := c.def_ 1 (d := dd_Hasher_digest) rfl
  obtain ⟨fd2, F2⟩ := c.def_ 2 (d := dd_Hasher_is_digest) rfl
  obtain ⟨fd3, F3⟩ := c.def_ 3 (d := dd_are_digests) rfl
  obtain ⟨fd4, F4⟩ := c.def_ 4 (d := dd_limbs_of) rfl
  obtain ⟨fd5, F5⟩ := c.def_ 5 (d := dd_mixed) rfl
  obtain ⟨fd6, F6⟩ := c.def_ 6 (d := dd_left_size) rfl
  obtain ⟨fd7, F7⟩ := c.def_ 7 (d := dd_list_root) rfl
  obtain ⟨fd8, F8⟩ := c.def_ 8 (d := dd_is_right) rfl
  obtain ⟨fd9, F9⟩ := c.def_ 9 (d := dd_parted) rfl
  obtain ⟨fd10, F10⟩ := c.def_ 10 (d := dd_is_end) rfl
  obtain ⟨fd11, F11⟩ := c.def_ 11 (d := dd_node_input) rfl
  obtain ⟨fd12, F12⟩ := c.def_ 12 (d := dd_node_digest) rfl
  obtain ⟨fd13, F13⟩ := c.def_ 13 (d := dd_map_root) rfl
  obtain ⟨fd14, F14⟩ := c.def_ 14 (d := dd_changed_map) rfl
  obtain ⟨fd15, F15⟩ := c.def_ 15 (d := dd_Body___init__) rfl
  obtain ⟨fd16, F16⟩ := c.def_ 16 (d := dd_Body___eq__) rfl
  obtain ⟨fd17, F17⟩ := c.def_ 17 (d := dd_kept_balance) rfl
  obtain ⟨fd18, F18⟩ := c.def_ 18 (d := dd_sent) rfl
  obtain ⟨fd19, F19⟩ := c.def_ 19 (d := dd_moved) rfl
  obtain ⟨fd20, F20⟩ := c.def_ 20 (d := dd_transfer_item) rfl
  obtain ⟨fd21, F21⟩ := c.def_ 21 (d := dd_items_of) rfl
  obtain ⟨fd22, F22⟩ := c.def_ 22 (d := dd_made_body) rfl
  obtain ⟨fd23, F23⟩ := c.def_ 23 (d := dd_meta_of) rfl
  obtain ⟨fd24, F24⟩ := c.def_ 24 (d := dd_body_fault) rfl
  obtain ⟨fd25, F25⟩ := c.def_ 25 (d := dd__law_draw) rfl
  obtain ⟨fd26, F26⟩ := c.def_ 26 (d := dd__law_pairs) rfl
  obtain ⟨fd27, F27⟩ := c.def_ 27 (d := dd__law_transfer) rfl
  obtain ⟨fd28, F28⟩ := c.def_ 28 (d := dd__law_fault) rfl
  obtain ⟨fd29, F29⟩ := c.def_ 29 (d := dd__law_moved) rfl
  obtain ⟨fd30, F30⟩ := c.def_ 30 (d := dd__law_right) rfl
  obtain ⟨fd31, F31⟩ := c.def_ 31 (d := dd__law_due) rfl
  obtain ⟨fd32, F32⟩ := c.def_ 32 (d := dd__law_spoilt) rfl
  obtain ⟨fd33, F33⟩ := c.def_ 33 (d := dd_law) rfl
  let T : Txt K mg := {
    fd_Hasher___init__ := fd0,
    Hasher___init__ := ⟨F0, (F0.bindsN (ps := ["self", "width"]) fun _ _ _ _ _ _ us hl => match us, hl with | [_, _], _ => rfl)⟩,
    fd_Hasher_digest := fd1,
    Hasher_digest := ⟨F1, (F1.bindsN (ps := ["self", "tag", "numbers"]) fun _ _ _ _ _ _ us hl => match us, hl with | [_, _, _], _ => rfl)⟩,
    fd_Hasher_is_digest := fd2,
    Hasher_is_digest := ⟨F2, (F2.bindsN (ps := ["self", "number"]) fun _ _ _ _ _ _ us hl => match us, hl with | [_, _], _ => rfl)⟩,
    fd_are_digests := fd3,
    are_digests := ⟨F3, He.glo_ok X G (c.fact 0 (f := .glo "are_digests") rfl), (F3.bindsN (ps := ["hasher", "numbers"]) fun _ _ _ _ _ _ us hl => match us, hl with | [_, _], _ => rfl)⟩,
    fd_limbs_of := fd4,
    limbs_of := ⟨F4, He.glo_ok X G (c.fact 1 (f := .glo "limbs_of") rfl), (F4.bindsN (ps := ["numbers"]) fun _ _ _ _ _ _ us hl => match us, hl with | [_], _ => rfl)⟩,
    fd_mixed := fd5,
    mixed := ⟨F5, He.glo_ok X G (c.fact 2 (f := .glo "mixed") rfl), (F5.bindsN (ps := ["limbs"]) fun _ _ _ _ _ _ us hl => match us, hl with | [_], _ => rfl)⟩,
    fd_left_size := fd6,
    left_size := ⟨F6, He.glo_ok X G (c.fact 3 (f := .glo "left_size") rfl), (F6.bindsN (ps := ["size"]) fun _ _ _ _ _ _ us hl => match us, hl with | [_], _ => rfl)⟩,
    fd_list_root := fd7,
    list_root := ⟨F7, He.glo_ok X G (c.fact 4 (f := .glo "list_root") rfl), (F7.bindsN (ps := ["hasher", "items"]) fun _ _ _ _ _ _ us hl => match us, hl with | [_, _], _ => rfl)⟩,
    fd_is_right := fd8,
    is_right := ⟨F8, He.glo_ok X G (c.fact 5 (f := .glo "is_right") rfl), (F8.bindsN (ps := ["key", "depth"]) fun _ _ _ _ _ _ us hl => match us, hl with | [_, _], _ => rfl)⟩,
    fd_parted := fd9,
    parted := ⟨F9, He.glo_ok X G (c.fact 6 (f := .glo "parted") rfl), (F9.bindsN (ps := ["entries", "depth"]) fun _ _ _ _ _ _ us hl => match us, hl with | [_, _], _ => rfl)⟩,
    fd_is_end := fd10,
    is_end := ⟨F10, He.glo_ok X G (c.fact 7 (f := .glo "is_end") rfl), (F10.bindsN (ps := ["entries", "depth"]) fun _ _ _ _ _ _ us hl => match us, hl with | [_, _], _ => rfl)⟩,
    fd_node_input := fd11,
    node_input := ⟨F11, He.glo_ok X G (c.fact 8 (f := .glo "node_input") rfl), (F11.bindsN (ps := ["hasher", "entries", "depth"]) fun _ _ _ _ _ _ us hl => match us, hl with | [_, _, _], _ => rfl)⟩,
    fd_node_digest := fd12,
    node_digest := ⟨F12, He.glo_ok X G (c.fact 9 (f := .glo "node_digest") rfl), (F12.bindsN (ps := ["hasher", "entries", "depth"]) fun _ _ _ _ _ _ us hl => match us, hl with | [_, _, _], _ => rfl)⟩,
    fd_map_root := fd13,
    map_root := ⟨F13, He.glo_ok X G (c.fact 10 (f := .glo "map_root") rfl), (F13.bindsN (ps := ["hasher", "pairs"]) fun _ _ _ _ _ _ us hl => match us, hl with | [_, _], _ => rfl)⟩,
    fd_changed_map := fd14,
    changed_map := ⟨F14, He.glo_ok X G (c.fact 11 (f := .glo "changed_map") rfl), (F14.bindsN (ps := ["pairs", "changes"]) fun _ _ _ _ _ _ us hl => match us, hl with | [_, _], _ => rfl)⟩,
    fd_Body___init__ := fd15,
    Body___init__ := ⟨F15, (F15.bindsN (ps := ["self", "transfers", "roots"]) fun _ _ _ _ _ _ us hl => match us, hl with | [_, _, _], _ => rfl)⟩,
    fd_Body___eq__ := fd16,
    Body___eq__ := ⟨F16, (F16.bindsN (ps := ["self", "other"]) fun _ _ _ _ _ _ us hl => match us, hl with | [_, _], _ => rfl)⟩,
    fd_kept_balance := fd17,
    kept_balance := ⟨F17, He.glo_ok X G (c.fact 12 (f := .glo "kept_balance") rfl), (F17.bindsN (ps := ["balance"]) fun _ _ _ _ _ _ us hl => match us, hl with | [_], _ => rfl)⟩,
    fd_sent := fd18,
    sent := ⟨F18, He.glo_ok X G (c.fact 13 (f := .glo "sent") rfl), (F18.bindsN (ps := ["pairs", "transfer"]) fun _ _ _ _ _ _ us hl => match us, hl with | [_, _], _ => rfl)⟩,
    fd_moved := fd19,
    moved := ⟨F19, He.glo_ok X G (c.fact 14 (f := .glo "moved") rfl), (F19.bindsN (ps := ["pairs", "transfer"]) fun _ _ _ _ _ _ us hl => match us, hl with | [_, _], _ => rfl)⟩,
    fd_transfer_item := fd20,
    transfer_item := ⟨F20, He.glo_ok X G (c.fact 15 (f := .glo "transfer_item") rfl), (F20.bindsN (ps := ["hasher", "transfer"]) fun _ _ _ _ _ _ us hl => match us, hl with | [_, _], _ => rfl)⟩,
    fd_items_of := fd21,
    items_of := ⟨F21, He.glo_ok X G (c.fact 16 (f := .glo "items_of") rfl), (F21.bindsN (ps := ["hasher", "transfers"]) fun _ _ _ _ _ _ us hl => match us, hl with | [_, _], _ => rfl)⟩,
    fd_made_body := fd22,
    made_body := ⟨F22, He.glo_ok X G (c.fact 17 (f := .glo "made_body") rfl), (F22.bindsN (ps := ["hasher", "pairs", "transfers"]) fun _ _ _ _ _ _ us hl => match us, hl with | [_, _, _], _ => rfl)⟩,
    fd_meta_of := fd23,
    meta_of := ⟨F23, He.glo_ok X G (c.fact 18 (f := .glo "meta_of") rfl), (F23.bindsN (ps := ["hasher", "root", "body"]) fun _ _ _ _ _ _ us hl => match us, hl with | [_, _, _], _ => rfl)⟩,
    fd_body_fault := fd24,
    body_fault := ⟨F24, He.glo_ok X G (c.fact 19 (f := .glo "body_fault") rfl), (F24.bindsN (ps := ["hasher", "meta", "body"]) fun _ _ _ _ _ _ us hl => match us, hl with | [_, _, _], _ => rfl)⟩,
    fd__law_draw := fd25,
    _law_draw := ⟨F25, He.glo_ok X G (c.fact 20 (f := .glo "_law_draw") rfl), (F25.bindsN (ps := ["state", "script", "size"]) fun _ _ _ _ _ _ us hl => match us, hl with | [_, _, _], _ => rfl)⟩,
    fd__law_pairs := fd26,
    _law_pairs := ⟨F26, He.glo_ok X G (c.fact 21 (f := .glo "_law_pairs") rfl), (F26.bindsN (ps := ["state", "script"]) fun _ _ _ _ _ _ us hl => match us, hl with | [_, _], _ => rfl)⟩,
    fd__law_transfer := fd27,
    _law_transfer := ⟨F27, He.glo_ok X G (c.fact 22 (f := .glo "_law_transfer") rfl), (F27.bindsN (ps := ["state", "script", "pairs"]) fun _ _ _ _ _ _ us hl => match us, hl with | [_, _, _], _ => rfl)⟩,
    fd__law_fault := fd28,
    _law_fault := ⟨F28, He.glo_ok X G (c.fact 23 (f := .glo "_law_fault") rfl), (F28.bindsN (ps := ["pairs", "transfer"]) fun _ _ _ _ _ _ us hl => match us, hl with | [_, _], _ => rfl)⟩,
    fd__law_moved := fd29,
    _law_moved := ⟨F29, He.glo_ok X G (c.fact 24 (f := .glo "_law_moved") rfl), (F29.bindsN (ps := ["pairs", "transfer"]) fun _ _ _ _ _ _ us hl => match us, hl with | [_, _], _ => rfl)⟩,
    fd__law_right := fd30,
    _law_right := ⟨F30, He.glo_ok X G (c.fact 25 (f := .glo "_law_right") rfl), (F30.bindsN (ps := ["state", "script", "pairs", "most"]) fun _ _ _ _ _ _ us hl => match us, hl with | [_, _, _, _], _ => rfl)⟩,
    fd__law_due := fd31,
    _law_due := ⟨F31, He.glo_ok X G (c.fact 26 (f := .glo "_law_due") rfl), (F31.bindsN (ps := ["hasher", "meta", "transfers", "roots"]) fun _ _ _ _ _ _ us hl => match us, hl with | [_, _, _, _], _ => rfl)⟩,
    fd__law_spoilt := fd32,
    _law_spoilt := ⟨F32, He.glo_ok X G (c.fact 27 (f := .glo "_law_spoilt") rfl), (F32.bindsN (ps := ["state", "script", "hasher", "meta", "transfers", "roots"]) fun _ _ _ _ _ _ us hl => match us, hl with | [_, _, _, _, _, _], _ => rfl)⟩,
    fd_law := fd33,
    law := ⟨F33, He.glo_ok X G (c.fact 28 (f := .glo "law") rfl), (F33.bindsN (ps := ["script"]) fun _ _ _ _ _ _ us hl => match us, hl with | [_], _ => rfl)⟩,
    cl_Body := He.cls_ok (c.fact 29 (f := .cls "Body") rfl),
    g_Body := He.glo_ok X G (c.fact 30 (f := .glo "Body") rfl),
    cl_Hasher := He.cls_ok (c.fact 31 (f := .cls "Hasher") rfl),
    g_Hasher := He.glo_ok X G (c.fact 32 (f := .glo "Hasher") rfl),
    z_all := He.free_ok X G (c.fact 33 (f := .free "all") rfl),
    z_any := He.free_ok X G (c.fact 34 (f := .free "any") rfl),
    z_dict := He.free_ok X G (c.fact 35 (f := .free "dict") rfl),
    z_int := He.free_ok X G (c.fact 36 (f := .free "int") rfl),
    z_isinstance := He.free_ok X G (c.fact 37 (f := .free "isinstance") rfl),
    z_len := He.free_ok X G (c.fact 38 (f := .free "len") rfl),
    z_list := He.free_ok X G (c.fact 39 (f := .free "list") rfl),
    z_max := He.free_ok X G (c.fact 40 (f := .free "max") rfl),
    z_range := He.free_ok X G (c.fact 41 (f := .free "range") rfl),
    z_sorted := He.free_ok X G (c.fact 42 (f := .free "sorted") rfl),
    z_tuple := He.free_ok X G (c.fact 43 (f := .free "tuple") rfl),
    c_ACCOUNTS_KEY := He.int_ok X G (c.fact 44 (f := .int "ACCOUNTS_KEY" 1) rfl),
    c_COUNT_KEY := He.int_ok X G (c.fact 45 (f := .int "COUNT_KEY" 3) rfl),
    c_FIRST_FACTOR := He.int_ok X G (c.fact 46 (f := .int "FIRST_FACTOR" 15241578750190521011) rfl),
    c_FIRST_SHIFT := He.int_ok X G (c.fact 47 (f := .int "FIRST_SHIFT" 31) rfl),
    c_FIRST_START := He.int_ok X G (c.fact 48 (f := .int "FIRST_START" 7263541890216354987) rfl),
    c_ITEMS_KEY := He.int_ok X G (c.fact 49 (f := .int "ITEMS_KEY" 2) rfl),
    c_KEY_BITS := He.int_ok X G (c.fact 50 (f := .int "KEY_BITS" 32) rfl),
    c_LEAF_TAG_lists := He.int_ok X G (c.fact 51 (f := .int "LEAF_TAG_lists" 0) rfl),
    c_LEAF_TAG_maps := He.int_ok X G (c.fact 52 (f := .int "LEAF_TAG_maps" 2) rfl),
    c_LIMB_BITS := He.int_ok X G (c.fact 53 (f := .int "LIMB_BITS" 32) rfl),
    c_LIMB_MASK := He.int_ok X G (c.fact 54 (f := .int "LIMB_MASK" 4294967295) rfl),
    c_MIX_BITS := He.int_ok X G (c.fact 55 (f := .int "MIX_BITS" 128) rfl),
    c_NODE_TAG_lists := He.int_ok X G (c.fact 56 (f := .int "NODE_TAG_lists" 1) rfl),
    c_NODE_TAG_maps := He.int_ok X G (c.fact 57 (f := .int "NODE_TAG_maps" 3) rfl),
    c_ROOTS_KEY := He.int_ok X G (c.fact 58 (f := .int "ROOTS_KEY" 4) rfl),
    c_SECOND_FACTOR := He.int_ok X G (c.fact 59 (f := .int "SECOND_FACTOR" 9764318250173649287) rfl),
    c_SECOND_SHIFT := He.int_ok X G (c.fact 60 (f := .int "SECOND_SHIFT" 29) rfl),
    c_SECOND_START := He.int_ok X G (c.fact 61 (f := .int "SECOND_START" 12985647301928374651) rfl),
    c_TRANSFER_TAG := He.int_ok X G (c.fact 62 (f := .int "TRANSFER_TAG" 12) rfl),
    c_WORD_MASK := He.int_ok X G (c.fact 63 (f := .int "WORD_MASK" 18446744073709551615) rfl),
    me_Body___eq__ := He.meth_ok (c.fact 64 (f := .meth "Body" "__eq__") rfl),
    me_Hasher_digest := He.meth_ok (c.fact 65 (f := .meth "Hasher" "digest") rfl),
    me_Hasher_is_digest := He.meth_ok (c.fact 66 (f := .meth "Hasher" "is_digest") rfl),
    mk_Body := He.mkr_ok (c.fact 67 (f := .mkr "Body") rfl),
    mk_Hasher := He.mkr_ok (c.fact 68 (f := .mkr "Hasher") rfl),
    g_META_KEYS := He.glo_ok X G (c.fact 69 (f := .glo "META_KEYS") rfl),
    n_Body_roots := He.noat_ok (c.fact 70 (f := .noat "Body" "roots") rfl),
    n_Body_transfers := He.noat_ok (c.fact 71 (f := .noat "Body" "transfers") rfl),
    n_Hasher_width := He.noat_ok (c.fact 72 (f := .noat "Hasher" "width") rfl),
    eq_Body := ex_eq_Body,
    t_META_KEYS := ex_t_META_KEYS }
  have e := hfa.symm.trans T.law.g
  have e2 : f = He.fAd K ("law", none) := by injection e with e1; injection e1
  subst e2
  exact ⟨T.fd_law, fun s v => FunD.bindsA (ps := ["script"]) T.law.F (fun _ _ _ _ _ _ us hl => match us, hl with | [_], _ => rfl) s [v] rfl, fun base _ _ => ok_law T⟩
end Pf
theorem PySem.Challenge.cw_offing_k42_bodies_holds : PySem.Challenge.rw_offing_k42_bodies.Holds :=
  Pf.early Pf.sp_law (fun K H a ns hl hS => Pf.law_starts K H a ns hl hS) (fun P w K h mg f X G hfa c => Pf.facts X G hfa c)

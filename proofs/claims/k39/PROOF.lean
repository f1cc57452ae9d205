import PyProof.Rows.All
import Wide.All
import OpenK.AllK
import Wide.FinOn
import HandS.ForMost
import HandS.Evl
import HandS.Flow
import HandS.Style
import HandS.Star
import HandS.Wide
import HandS.WideBits
import HandS.IsInst
import HandS.Defaults
import HandS.WordsExc
import HandS.Steps
import HandS.Walk
import KE.GoesMore
import PyProof.Draws
import PyProof.EnumMake
import HandS.RevRange
import HandS.TupAny
import KE.KRevSl
import HandS.Iter
import HandS.ListItems
import HandS.DictComp
import HandS.SortInts
import HandS.SortRule
import HandS.Zip
import KE.KEqNest
import HandS.NoneIn
import KE.KDictSum
import HandS.TupSets
import HandS.HeadHook1
import HandS.HeadHook2
import HandS.Head0
import HandS.Head1
import HandS.Head2
import HandS.HeadEnd
import PySem.Challenge.RW_offing_k39_double_signers
set_option Elab.async false
set_option linter.all false
set_option maxRecDepth 100000
set_option maxHeartbeats 4000000
/-! A calculus over readings: what a part of the heap shows (G), what is hidden, what must stay. -/
namespace Wp
open PySem L2 Evl StX
set_option autoImplicit false

structure Vx where
  He : Hp
  Ge : Hp
  I : Hp → Prop
  m : Addr → Prop
  st : ∀ H H', I H → (∀ a, m a → H' a = H a) → I H'

structure J (U : Vx) (H G : Hp) : Prop where
  up : Ex G H
  keep : Ex U.He H
  new : ∀ a, G a ≠ none → U.Ge a = none → U.He a = none
  hid : U.I H
  msk : ∀ a, U.m a → G a = none ∧ H a ≠ none

theorem none_of_ex {H H' : Hp} {a : Addr} (e : Ex H H') (h : H' a = none) : H a = none := fresh_back e h
theorem ex_upd2 {G H : Hp} {p : Addr} {o : HO} (e : Ex G H) : Ex (upd G p o) (upd H p o) := fun a u h => by
  by_cases z : a = p
  · subst z; rw [upd_same] at h ⊢; exact h
  · rw [upd_ne z] at h ⊢; exact e a u h
theorem J.alloc {U : Vx} {H G : Hp} {p : Addr} {o : HO} (j : J U H G) (h : H p = none) : J U (upd H p o) (upd G p o) where
  up := ex_upd2 j.up
  keep := fun a u e => by
    have e1 := j.keep a u e
    rw [upd_ne (ne_of_none e1 h)]; exact e1
  new := fun a e g => by
    by_cases z : a = p
    · subst z; exact none_of_ex j.keep h
    · rw [upd_ne z] at e; exact j.new a e g
  hid := U.st H _ j.hid fun a ma => by
    have q := (j.msk a ma).2
    have : a ≠ p := fun z => by subst z; exact q h
    rw [upd_ne this]
  msk := fun a ma => by
    obtain ⟨q1, q2⟩ := j.msk a ma
    have : a ≠ p := fun z => by subst z; exact q2 h
    rw [upd_ne this, upd_ne this]; exact ⟨q1, q2⟩
theorem J.write {U : Vx} {H G : Hp} {p : Addr} {o o' : HO} (j : J U H G) (h : G p = some o) (g : U.Ge p = none) : J U (upd H p o') (upd G p o') where
  up := ex_upd2 j.up
  keep := fun a u e => by
    have : a ≠ p := fun z => by
      subst z
      rw [j.new a (by rw [h]; exact fun q => by cases q) g] at e; cases e
    rw [upd_ne this]; exact j.keep a u e
  new := fun a e q => by
    by_cases z : a = p
    · subst z; exact j.new a (by rw [h]; exact fun q => by cases q) q
    · rw [upd_ne z] at e; exact j.new a e q
  hid := U.st H _ j.hid fun a ma => by
    have q := (j.msk a ma).1
    have : a ≠ p := fun z => by subst z; rw [h] at q; cases q
    rw [upd_ne this]
  msk := fun a ma => by
    obtain ⟨q1, q2⟩ := j.msk a ma
    have : a ≠ p := fun z => by subst z; rw [h] at q1; cases q1
    rw [upd_ne this, upd_ne this]; exact ⟨q1, q2⟩
theorem J.free {U : Vx} {H G : Hp} {p : Addr} (j : J U H G) (h : H p = none) : G p = none := none_of_ex j.up h
/-- behind a call that keeps what stood -/
theorem J.call {U : Vx} {H G H' G' : Hp} (j : J U H G) (e1 : Ex H H') (e3 : Ex G' H') (n : ∀ a, G' a ≠ none → G a = none → H a = none) : J U H' G' where
  up := e3
  keep := j.keep.trans e1
  new := fun a q g => by
    cases z : G a with
    | none => exact none_of_ex j.keep (n a q z)
    | some o => exact j.new a (by rw [z]; exact fun q => by cases q) g
  hid := U.st H _ j.hid fun a ma => by
    obtain ⟨_, q2⟩ := j.msk a ma
    cases z : H a with
    | none => exact absurd z q2
    | some o => exact e1 a o z
  msk := fun a ma => by
    obtain ⟨q1, q2⟩ := j.msk a ma
    constructor
    · cases z : G' a with
      | none => rfl
      | some o => exact absurd (n a (by rw [z]; exact fun q => by cases q) q1) q2
    · cases z : H a with
      | none => exact absurd z q2
      | some o => rw [e1 a o z]; exact fun q => by cases q
/-- the hidden part alone has changed, at p -/
theorem J.hidden {U : Vx} {H G : Hp} {p : Addr} {o : HO} (j : J U H G) (mp : U.m p) (hI : U.I (upd H p o)) (hne : U.He p = none) : J U (upd H p o) G where
  up := fun a u e => by
    have : a ≠ p := fun z => by subst z; rw [(j.msk a mp).1] at e; cases e
    rw [upd_ne this]; exact j.up a u e
  keep := fun a u e => by
    have : a ≠ p := fun z => by subst z; rw [hne] at e; cases e
    rw [upd_ne this]; exact j.keep a u e
  new := j.new
  hid := hI
  msk := fun a ma => by
    refine ⟨(j.msk a ma).1, ?_⟩
    by_cases z : a = p
    · subst z; rw [upd_same]; exact fun q => by cases q
    · rw [upd_ne z]; exact (j.msk a ma).2
/-- nothing hidden -/
def V0 (H G : Hp) : Vx := ⟨H, G, fun _ => True, fun _ => False, fun _ _ _ _ => trivial⟩
theorem J.start {H G : Hp} (e : Ex G H) : J (V0 H G) H G := ⟨e, Ex.refl H, fun a q g => absurd g q, trivial, fun _ z => z.elim⟩
/-- one more object hidden: the list at D -/
def Vx.hide (U : Vx) (D : Addr) (o : HO) : Vx := ⟨U.He, U.Ge, fun H => U.I H ∧ H D = some o, fun a => U.m a ∨ a = D, fun H H' ⟨i, d⟩ e => ⟨U.st H H' i fun a ma => e a (.inl ma), by rw [e D (.inr rfl)]; exact d⟩⟩
theorem J.hide {U : Vx} {H G : Hp} {D : Addr} {o : HO} (j : J U H G) (h : H D = some o) (g : G D = none) : J (U.hide D o) H G where
  up := j.up
  keep := j.keep
  new := j.new
  hid := ⟨j.hid, h⟩
  msk := fun a ma => by
    rcases ma with ma | rfl
    · exact j.msk a ma
    · exact ⟨g, by rw [h]; exact fun q => by cases q⟩
theorem J.unhide {U : Vx} {H G : Hp} {D : Addr} {o : HO} (j : J (U.hide D o) H G) (hm : ¬ U.m D) (hn : U.He D = none) : J U H (upd G D o) where
  up := fun a u e => by
    by_cases z : a = D
    · subst z; rw [upd_same] at e; rw [j.hid.2]; exact e
    · rw [upd_ne z] at e; exact j.up a u e
  keep := j.keep
  new := fun a q g => by
    by_cases z : a = D
    · subst z; exact hn
    · rw [upd_ne z] at q; exact j.new a q g
  hid := j.hid.1
  msk := fun a ma => by
    have : a ≠ D := fun z => by subst z; exact hm ma
    rw [upd_ne this]; exact j.msk a (.inl ma)
theorem J.rehide {U : Vx} {H G : Hp} {D : Addr} {o o' : HO} (j : J (U.hide D o) H G) (hm : ¬ U.m D) (hn : U.He D = none) : J (U.hide D o') (upd H D o') G where
  up := fun a u e => by
    have : a ≠ D := fun z => by subst z; rw [(j.msk a (.inr rfl)).1] at e; cases e
    rw [upd_ne this]; exact j.up a u e
  keep := fun a u e => by
    have : a ≠ D := fun z => by subst z; exact absurd (show U.He a = some u from e) (by rw [hn]; exact fun q => by cases q)
    rw [upd_ne this]; exact j.keep a u e
  new := j.new
  hid := ⟨U.st H _ j.hid.1 fun a ma => by
    have : a ≠ D := fun z => by subst z; exact hm ma
    rw [upd_ne this], upd_same⟩
  msk := fun a ma => by
    refine ⟨(j.msk a ma).1, ?_⟩
    by_cases z : a = D
    · subst z; rw [upd_same]; exact fun q => by cases q
    · rw [upd_ne z]; exact (j.msk a ma).2

/-! ### data that stands -/
theorem dp_mono {K : PySem.W.Frag} {H H' : Hp} (e : Ex H H') : ∀ (d : PyData) (v : V), Dp K H v d → Dp K H' v d
  | .none, v, h => by cases h; exact .non
  | .bool b, v, h => by cases h; exact .bl b
  | .int b, v, h => by cases h; exact .int b
  | .str b, v, h => by cases h; exact .str b
  | .list ds, v, h => by cases h with | lst a b => exact .lst (ex_l e a) (dpAll_mono e ds _ b)
  | .tuple ds, v, h => by cases h with | tup a b => exact .tup (ex_t e a) (dpAll_mono e ds _ b)
  | .dict _, v, h => by cases h
where
  dpAll_mono {K : PySem.W.Frag} {H H' : Hp} (e : Ex H H') : ∀ (ds : List PyData) (vs : List V), DpAll K H vs ds → DpAll K H' vs ds
  | [], vs, h => by cases h; exact .nil
  | d :: ds, vs, h => by cases h with | cons a b => exact .cons (dp_mono e d _ a) (dpAll_mono e ds _ b)

/-! ### the judgements -/
def EM (U : Vx) (te : TE) (σ : L2.St) (G : Hp) (Q : VK) : Prop := ∀ H, J U H G → ∀ QH : VK, (∀ v H' G', J U H' G' → Q v G' → QH v H') → te σ H QH
def TM (U : Vx) (tt : TT) (σ : L2.St) (G : Hp) (Q : Bool → Hp → Prop) : Prop := ∀ H, J U H G → ∀ QH : Bool → Hp → Prop, (∀ v H' G', J U H' G' → Q v G' → QH v H') → tt σ H QH
def AM (U : Vx) (ta : TA) (σ : L2.St) (G : Hp) (Q : List V → Hp → Prop) : Prop := ∀ H, J U H G → ∀ QH : List V → Hp → Prop, (∀ v H' G', J U H' G' → Q v G' → QH v H') → ta σ H QH
def GM (U : Vx) (g : TG) (v : V) (σ : L2.St) (G : Hp) (Q : L2.St → Hp → Prop) : Prop := ∀ H, J U H G → ∀ QH : L2.St → Hp → Prop, (∀ σ' H' G', J U H' G' → Q σ' G' → QH σ' H') → g v σ H QH
def RM (U : Vx) (r : Hp → VK → Prop) (G : Hp) (Q : VK) : Prop := ∀ H, J U H G → ∀ QH : VK, (∀ v H' G', J U H' G' → Q v G' → QH v H') → r H QH
def CM (U : Vx) (sp : Sp) (vs : List V) (G : Hp) (Q : VK) : Prop := ∀ H, J U H G → ∀ QH : VK, (∀ v H' G', J U H' G' → Q v G' → QH v H') → ∀ E, sp vs H QH E
def SM (U : Vx) (t : TS) (D : Ends) (σ : L2.St) (G : Hp) : Prop := ∀ H, J U H G → t D σ H
def KM (U : Vx) (nx : L2.St → Hp → Prop) (σ : L2.St) (G : Hp) : Prop := ∀ H, J U H G → nx σ H
def KV (U : Vx) (rt : VK) (v : V) (G : Hp) : Prop := ∀ H, J U H G → rt v H
/-- a bool's way on -/
def BV (x : V) (P : Bool → Prop) : Prop := ∃ k, x = .bl k ∧ P k

section
variable {U : Vx} {σ : L2.St} {G : Hp} {Q : VK} {te ta tb tc tx : TE} {t u tt : TT} {v x y z : V} {r : R2} {K : PySem.W.Frag} {QT : Bool → Hp → Prop}
theorem bv {b : Bool} {P : Bool → Prop} (h : P b) : BV (.bl b) P := ⟨b, rfl, h⟩
theorem em_var {i : Nat} (h : σ[i]? = some (some v)) (k : Q v G) : EM U (tVar i) σ G Q := fun H j _ q => ⟨v, h, q v H G j k⟩
theorem em_here {i : Nat} (h : ∃ v, σ[i]? = some (some v) ∧ Q v G) : EM U (tVar i) σ G Q := fun H j _ q => h.elim fun v e => ⟨v, e.1, q v H G j e.2⟩
theorem em_c (k : Q v G) : EM U (tC v) σ G Q := fun H j _ q => q v H G j k
theorem em_op (h : EM U ta σ G fun x G1 => EM U tb σ G1 fun y G2 => RM U (r x y) G2 Q) : EM U (tOp r ta tb) σ G Q := fun H j QH q =>
  h H j _ fun x H1 G1 j1 h1 => h1 H1 j1 _ fun y H2 G2 j2 h2 => h2 H2 j2 QH q
theorem em_un {ru : V → Hp → VK → Prop} (h : EM U ta σ G fun x G1 => RM U (ru x) G1 Q) : EM U (tUn ru ta) σ G Q := fun H j QH q => h H j _ fun x H1 G1 j1 h1 => h1 H1 j1 QH q
theorem rm_I0 {g : Int → Int → V} {i j : Int} (k : Q (g i j) G) : RM U (rI0 g (.int i) (.int j)) G Q := fun H jj _ q => ⟨i, j, rfl, rfl, q _ H G jj k⟩
theorem rm_I {C : Int → Int → Prop} {g : Int → Int → V} {i j : Int} (c : C i j) (k : Q (g i j) G) : RM U (rI C g (.int i) (.int j)) G Q := fun H jj _ q => ⟨i, j, rfl, rfl, c, q _ H G jj k⟩
theorem rm_U {g : Int → V} {i : Int} (k : Q (g i) G) : RM U (rU g (.int i)) G Q := fun H jj _ q => ⟨i, rfl, q _ H G jj k⟩
theorem rm_eq (h : scal x y = true) (k : Q (.bl (decide (x = y))) G) : RM U (rEq x y) G Q := fun H j _ q => ⟨h, q _ H G j k⟩
theorem rm_ne (h : scal x y = true) (k : Q (.bl (!decide (x = y))) G) : RM U (rNe x y) G Q := fun H j _ q => ⟨h, q _ H G j k⟩
theorem rm_eqI {i j : Int} (k : Q (.bl (decide (i = j))) G) : RM U (rEq (.int i) (.int j)) G Q := rm_eq rfl (by
  have e : decide (V.int i = V.int j) = decide (i = j) := by simp
  rw [e]; exact k)
theorem rm_neI {i j : Int} (k : Q (.bl (!decide (i = j))) G) : RM U (rNe (.int i) (.int j)) G Q := rm_ne rfl (by
  have e : decide (V.int i = V.int j) = decide (i = j) := by simp
  rw [e]; exact k)
theorem rm_eqD {d e : PyData} (hd : Dp K G x d) (he : Dp K G y e) (sd : SeqAt.shaped d = true) (se : SeqAt.shaped e = true) (k : Q (.bl (PyData.eqv d e)) G) : RM U (rEqD K x y) G Q := fun H j _ q =>
  ⟨d, e, dp_mono j.up d x hd, dp_mono j.up e y he, sd, se, q _ H G j k⟩
theorem rm_neD {d e : PyData} (hd : Dp K G x d) (he : Dp K G y e) (sd : SeqAt.shaped d = true) (se : SeqAt.shaped e = true) (k : Q (.bl (!PyData.eqv d e)) G) : RM U (rNeD K x y) G Q := fun H j _ q =>
  ⟨d, e, dp_mono j.up d x hd, dp_mono j.up e y he, sd, se, q _ H G j k⟩
theorem rm_ixL {p : Addr} {xs : List V} {i : Int} (h : SqL K G p xs) (ha : atI xs i = some v) (k : Q v G) : RM U (rIxL K (.ref p) (.int i)) G Q := fun H j _ q => ⟨p, xs, i, v, rfl, rfl, ex_l j.up h, ha, q _ H G j k⟩
theorem rm_ixT {p : Addr} {xs : List V} {i : Int} (h : SqT K G p xs) (ha : atI xs i = some v) (k : Q v G) : RM U (rIxT K (.ref p) (.int i)) G Q := fun H j _ q => ⟨p, xs, i, v, rfl, rfl, ex_t j.up h, ha, q _ H G j k⟩
theorem rm_cat {l b : Addr} {xs zs : List V} (h1 : G l = some (.lst xs)) (h2 : G b = some (.lst zs)) (hs : xs.length + zs.length ≤ sizeLine) (k : ∀ p G', G p = none → Ex G G' → G' p = some (.lst (xs ++ zs)) → Q (.ref p) G') : RM U (rCat (.ref l) (.ref b)) G Q :=
  fun H j _ q => ⟨l, b, xs, zs, rfl, rfl, j.up _ _ h1, j.up _ _ h2, hs, fun p hp => q _ _ _ (j.alloc hp) (k p _ (j.free hp) (Ex.new (j.free hp)) upd_same)⟩
theorem rm_catT {a b : Addr} {xs ys : List V} (h1 : SqT K G a xs) (h2 : SqT K G b ys) (hx : xs ≠ []) (hs : xs.length + ys.length ≤ sizeLine) (k : ∀ p G', Ex G G' → SqT K G' p (xs ++ ys) → Q (.ref p) G') : RM U (rCatT K (.ref a) (.ref b)) G Q :=
  fun H j _ q => ⟨a, b, xs, ys, rfl, rfl, ex_t j.up h1, ex_t j.up h2, hx, hs, fun e => q _ _ _ j (k a G (Ex.refl G) (by rw [e, List.append_nil]; exact h1)), fun _ p hp => q _ _ _ (j.alloc hp) (k p _ (Ex.new (j.free hp)) (SqT.of upd_same))⟩
theorem em_orV (h : EM U ta σ G fun x G1 => BV x fun c => if c = true then Q (.bl true) G1 else EM U tb σ G1 Q) : EM U (tOrV ta tb) σ G Q := fun H j QH q => h H j _ fun x H1 G1 j1 ⟨c, e, h1⟩ => ⟨c, e, by
  cases c with
  | true => rw [if_pos rfl] at h1 ⊢; exact q _ _ _ j1 h1
  | false => rw [if_neg Bool.false_ne_true] at h1 ⊢; exact h1 H1 j1 QH q⟩
theorem em_andV (h : EM U ta σ G fun x G1 => BV x fun c => if c = true then EM U tb σ G1 Q else Q (.bl false) G1) : EM U (tAndV ta tb) σ G Q := fun H j QH q => h H j _ fun x H1 G1 j1 ⟨c, e, h1⟩ => ⟨c, e, by
  cases c with
  | true => rw [if_pos rfl] at h1 ⊢; exact h1 H1 j1 QH q
  | false => rw [if_neg Bool.false_ne_true] at h1 ⊢; exact q _ _ _ j1 h1⟩
theorem em_notV (h : EM U ta σ G fun x G1 => BV x fun c => Q (.bl (!c)) G1) : EM U (tNotV ta) σ G Q := fun H j QH q => h H j _ fun x H1 G1 j1 ⟨c, e, h1⟩ => ⟨c, e, q _ _ _ j1 h1⟩
theorem em_if (h : TM U t σ G fun c G1 => if c = true then EM U ta σ G1 Q else EM U tb σ G1 Q) : EM U (tIf t ta tb) σ G Q := fun H j QH q => h H j _ fun c H1 G1 j1 h1 => by
  cases c with
  | true => rw [if_pos rfl] at h1 ⊢; exact h1 H1 j1 QH q
  | false => rw [if_neg Bool.false_ne_true] at h1 ⊢; exact h1 H1 j1 QH q
theorem em_chain {r' : R2} (h : EM U ta σ G fun x G1 => EM U tb σ G1 fun y G2 => RM U (r x y) G2 fun z G3 => BV z fun k => if k = true then EM U tc σ G3 fun w G4 => RM U (r' y w) G4 Q else Q (.bl false) G3) : EM U (tChain r r' ta tb tc) σ G Q := fun H j QH q =>
  h H j _ fun x H1 G1 j1 h1 => h1 H1 j1 _ fun y H2 G2 j2 h2 => h2 H2 j2 _ fun z H3 G3 j3 ⟨k, e, h3⟩ => ⟨k, e, by
    cases k with
    | true => rw [if_pos rfl] at h3 ⊢; exact h3 H3 j3 _ fun w H4 G4 j4 h4 => h4 H4 j4 QH q
    | false => rw [if_neg Bool.false_ne_true] at h3 ⊢; exact q _ _ _ j3 h3⟩
theorem em_lst {tas : TA} (h : AM U tas σ G fun vs G1 => vs.length ≤ sizeLine ∧ ∀ p G2, G1 p = none → Ex G1 G2 → G2 p = some (.lst vs) → Q (.ref p) G2) : EM U (tLst tas) σ G Q := fun H j QH q =>
  h H j _ fun vs H1 G1 j1 ⟨hz, h1⟩ => ⟨hz, fun p hp => q _ _ _ (j1.alloc hp) (h1 p _ (j1.free hp) (Ex.new (j1.free hp)) upd_same)⟩
theorem em_tup {tas : TA} (h : AM U tas σ G fun vs G1 => vs.length ≤ sizeLine ∧ ∀ p G2, G1 p = none → Ex G1 G2 → G2 p = some (.tup vs) → Q (.ref p) G2) : EM U (tTup tas) σ G Q := fun H j QH q =>
  h H j _ fun vs H1 G1 j1 ⟨hz, h1⟩ => ⟨hz, fun p hp => q _ _ _ (j1.alloc hp) (h1 p _ (j1.free hp) (Ex.new (j1.free hp)) upd_same)⟩
theorem am_nil {QA : List V → Hp → Prop} (k : QA [] G) : AM U tNil σ G QA := fun H j _ q => q _ H G j k
theorem am_cons {tr : TA} {QA : List V → Hp → Prop} (h : EM U ta σ G fun x G1 => AM U tr σ G1 fun vs G2 => QA (x :: vs) G2) : AM U (tCons ta tr) σ G QA := fun H j QH q =>
  h H j _ fun x H1 G1 j1 h1 => h1 H1 j1 _ fun vs H2 G2 j2 h2 => q _ _ _ j2 h2
theorem am_star {tr : TA} {QA : List V → Hp → Prop} (h : EM U ta σ G fun x G1 => ∃ p xs, x = V.ref p ∧ (SqT K G1 p xs ∨ SqL K G1 p xs) ∧ AM U tr σ G1 fun vs G2 => QA (xs ++ vs) G2) : AM U (tStar K ta tr) σ G QA := fun H j QH q =>
  h H j _ fun x H1 G1 j1 ⟨p, xs, e, s, h1⟩ => ⟨p, xs, e, s.elim (fun s => .inl (ex_t j1.up s)) (fun s => .inr (ex_l j1.up s)), h1 H1 j1 _ fun vs H2 G2 j2 h2 => q _ _ _ j2 h2⟩
theorem em_cb {rc : List V → Hp → VK → Prop} {tas : TA} (h : AM U tas σ G fun vs G1 => RM U (rc vs) G1 Q) : EM U (tCB rc tas) σ G Q := fun H j QH q => h H j _ fun vs H1 G1 j1 h1 => h1 H1 j1 QH q
def IV (x : V) (P : Int → Prop) : Prop := ∃ i : Int, x = .int i ∧ P i
theorem iv {i : Int} {P : Int → Prop} (h : P i) : IV (.int i) P := ⟨i, rfl, h⟩
theorem em_bits (h : EM U ta σ G fun x G1 => IV x fun i => Q (.int (Builtin.Int.intBits i : Nat)) G1) : EM U (tBits ta) σ G Q := fun H j QH q => h H j _ fun x H1 G1 j1 ⟨i, e, h1⟩ => ⟨i, e, q _ _ _ j1 h1⟩
theorem em_call {sp : Sp} {E : XK} {tas : TA} (h : AM U tas σ G fun vs G1 => CM U sp vs G1 Q) : EM U (tCall sp [] E tas) σ G Q := fun H j QH q => h H j _ fun vs H1 G1 j1 h1 => by
  show sp (vs ++ []) H1 QH E
  rw [List.append_nil]
  exact h1 H1 j1 QH q E
/-- a method of the instance at a; a field -/
def FM (K : PySem.W.Frag) (f : Str) (x : V) (G : Hp) (Q : VK) : Prop := ∃ a C dx fs v, x = .ref a ∧ G a = some (.ins C dx fs) ∧ Cls K C ∧ NoAttr K C f ∧ fs.lookup f = some v ∧ Q v G
theorem fm {C a dx : Addr} {fs : List (Str × V)} {f : Str} (h : G a = some (.ins C dx fs)) (c : Cls K C) (n : NoAttr K C f) (l : fs.lookup f = some v) (k : Q v G) : FM K f (.ref a) G Q := ⟨a, C, dx, fs, v, rfl, h, c, n, l, k⟩
theorem em_fld {f : Str} (h : EM U ta σ G fun x G1 => FM K f x G1 Q) : EM U (tFld K ta f) σ G Q := fun H j QH q =>
  h H j _ fun x H1 G1 j1 ⟨a, C, dx, fs, v, e, g, c, n, l, h1⟩ => ⟨a, C, dx, fs, v, e, j1.up _ _ g, c, n, l, q _ _ _ j1 h1⟩
def MM (C : Addr) (m : Str) (x : V) (G : Hp) (k : Prop) : Prop := ∃ a dx fs, x = V.ref a ∧ G a = some (.ins C dx fs) ∧ fs.lookup m = none ∧ k
theorem mm {C a dx : Addr} {fs : List (Str × V)} {m : Str} {k : Prop} (h : G a = some (.ins C dx fs)) (l : fs.lookup m = none) (q : k) : MM C m (.ref a) G k := ⟨a, dx, fs, rfl, h, l, q⟩
theorem em_meth {C : Addr} {m : Str} {sp : Sp} {E : XK} {tas : TA} (h : EM U ta σ G fun x G1 => MM C m x G1 (AM U tas σ G1 fun vs G2 => CM U sp (x :: vs) G2 Q)) : EM U (tMeth C m sp [] E ta tas) σ G Q := fun H j QH q =>
  h H j _ fun x H1 G1 j1 ⟨a, dx, fs, e, g, l, h1⟩ => ⟨a, dx, fs, e, j1.up _ _ g, l, h1 H1 j1 _ fun vs H2 G2 j2 h2 => by
    show sp (x :: (vs ++ [])) H2 QH E
    rw [List.append_nil]
    exact h2 H2 j2 QH q E⟩
/-! ### promises that keep what stood -/
def spP (pre : List V → Hp → Prop) (post : List V → Hp → V → Hp → Prop) : Sp := fun vs H Q _ => ∃ G, Ex G H ∧ pre vs G ∧ ∀ v H' G', Ex H H' → Ex G G' → Ex G' H' → (∀ a, G' a ≠ none → G a = none → H a = none) → post vs G v G' → Q v H'
theorem cm_p {pre : List V → Hp → Prop} {post : List V → Hp → V → Hp → Prop} {vs : List V} (h : pre vs G) (k : ∀ v G', Ex G G' → post vs G v G' → Q v G') : CM U (spP pre post) vs G Q := fun H j QH q E =>
  ⟨G, j.up, h, fun v H' G' e1 e2 e3 n p => q v H' G' (j.call e1 e3 n) (k v G' e2 p)⟩
/-- at a def's end -/
theorem kv_ret {p : V → Hp → Prop} {H0 G0 : Hp} (k : ∀ v H' G', Ex H0 H' → Ex G0 G' → Ex G' H' → (∀ a, G' a ≠ none → G0 a = none → H0 a = none) → p v G' → Q v H') (e : Ex G0 G) (h : p v G) : KV (V0 H0 G0) Q v G :=
  fun H j => k v H G j.keep e j.up j.new h
/-! ### tests -/
theorem tm_test (h : EM U te σ G fun x G1 => BV x fun k => QT k G1) : TM U (tTest te) σ G QT := fun H j QH q => h H j _ fun x H1 G1 j1 ⟨k, e, h1⟩ => ⟨k, e, q _ _ _ j1 h1⟩
theorem tm_B (h : EM U te σ G fun x G1 => BV x fun k => QT k G1) : TM U (tB te) σ G QT := fun H j QH q => h H j _ fun x H1 G1 j1 ⟨k, e, h1⟩ => ⟨k, e, q _ _ _ j1 h1⟩
theorem tm_and (h : TM U t σ G fun c G1 => if c = true then TM U u σ G1 QT else QT false G1) : TM U (tAnd t u) σ G QT := fun H j QH q => h H j _ fun c H1 G1 j1 h1 => by
  cases c with
  | true => rw [if_pos rfl] at h1 ⊢; exact h1 H1 j1 QH q
  | false => rw [if_neg Bool.false_ne_true] at h1 ⊢; exact q _ _ _ j1 h1
theorem tm_or (h : TM U t σ G fun c G1 => if c = true then QT true G1 else TM U u σ G1 QT) : TM U (tOr t u) σ G QT := fun H j QH q => h H j _ fun c H1 G1 j1 h1 => by
  cases c with
  | true => rw [if_pos rfl] at h1 ⊢; exact q _ _ _ j1 h1
  | false => rw [if_neg Bool.false_ne_true] at h1 ⊢; exact h1 H1 j1 QH q
theorem tm_not (h : TM U t σ G fun c G1 => QT (!c) G1) : TM U (tNot t) σ G QT := fun H j QH q => h H j _ fun c H1 G1 j1 h1 => q _ _ _ j1 h1
theorem tm_yes (k : QT true G) : TM U tYes σ G QT := fun H j QH q => q _ _ _ j k
/-! ### statements -/
variable {D : Ends} {t1 t2 ts : TS} {g : TG}
theorem gm_name {i : Nat} {QG : L2.St → Hp → Prop} (k : QG (σ.set i (some v)) G) : GM U (gName i) v σ G QG := fun H j QH q => q _ _ _ j k
theorem sm_seq (h : SM U t1 ⟨t2 D, D.rt, D.bk, D.ct⟩ σ G) : SM U (tSeq t1 t2) D σ G := h
theorem km_next (h : SM U ts D σ G) {r : VK} {b c : L2.St → Hp → Prop} : KM U (Ends.nx ⟨ts D, r, b, c⟩) σ G := h
theorem kv_rt {rt : VK} (h : KV U rt v G) {n b c : L2.St → Hp → Prop} : KV U (Ends.rt ⟨n, rt, b, c⟩) v G := h
theorem sm_next (h : KM U D.nx σ G) : SM U tNext D σ G := h
theorem sm_brk (h : KM U D.bk σ G) : SM U tBreak D σ G := h
theorem sm_cont (h : KM U D.ct σ G) : SM U tCont D σ G := h
theorem sm_asg (h : EM U te σ G fun v G1 => GM U g v σ G1 fun σ' G2 => KM U D.nx σ' G2) : SM U (tAsg te g) D σ G := fun H j => h H j _ fun v H1 G1 j1 h1 => h1 H1 j1 _ fun σ' H2 G2 j2 h2 => h2 H2 j2
theorem sm_drop (h : EM U te σ G fun _ G1 => KM U D.nx σ G1) : SM U (tDrop te) D σ G := fun H j => h H j _ fun v H1 G1 j1 h1 => h1 H1 j1
theorem sm_ret (h : EM U te σ G fun v G1 => KV U D.rt v G1) : SM U (tRet te) D σ G := fun H j => h H j _ fun v H1 G1 j1 h1 => h1 H1 j1
theorem sm_retN (h : KV U D.rt .non G) : SM U tRetN D σ G := fun H j => h H j
theorem sm_if (h : TM U t σ G fun c G1 => if c = true then SM U t1 D σ G1 else SM U t2 D σ G1) : SM U (tIfS t t1 t2) D σ G := fun H j => h H j _ fun c H1 G1 j1 h1 => by
  cases c with
  | true => rw [if_pos rfl] at h1 ⊢; exact h1 H1 j1
  | false => rw [if_neg Bool.false_ne_true] at h1 ⊢; exact h1 H1 j1
/-- xs.append(e) of a visible list of its own -/
theorem em_append {l : Addr} {xs : List V} (h : EM U ta σ G fun x G1 => x = .ref l ∧ G1 l = some (.lst xs) ∧ EM U te σ G1 fun y G2 => G2 l = some (.lst xs) ∧ U.Ge l = none ∧ xs.length < sizeLine ∧ Q .non (upd G2 l (.lst (xs ++ [y])))) : EM U (tBM K "list" rAppend ta (tCons te tNil)) σ G Q := fun H j QH q =>
  h H j _ fun x H1 G1 j1 ⟨e, g1, h1⟩ => by
    subst e
    exact ⟨.inl ⟨rfl, xs, SqL.of (j1.up _ _ g1)⟩, h1 H1 j1 _ fun y H2 G2 j2 ⟨g2, ge, hz, h2⟩ => ⟨l, xs, y, rfl, rfl, j2.up _ _ g2, hz, q _ _ _ (j2.write g2 ge) h2⟩⟩
/-! ### loops -/
def KJ (U : Vx) (P : L2.St → Hp → Prop) : L2.St → Hp → Prop := fun σ H => ∃ G, J U H G ∧ P σ G
theorem km_kj {P : L2.St → Hp → Prop} (h : P σ G) {r : VK} {b c : L2.St → Hp → Prop} : KM U (Ends.nx ⟨KJ U P, r, b, c⟩) σ G := fun _ j => ⟨G, j, h⟩
theorem km_kc {P : L2.St → Hp → Prop} (h : P σ G) {r : VK} {b n : L2.St → Hp → Prop} : KM U (Ends.ct ⟨n, r, b, KJ U P⟩) σ G := fun _ j => ⟨G, j, h⟩
theorem km_bk {P : L2.St → Hp → Prop} (h : KM U P σ G) {r : VK} {c n : L2.St → Hp → Prop} : KM U (Ends.bk ⟨n, r, P, c⟩) σ G := h
theorem sm_forL {tl : TE} (h : EM U tl σ G fun v G1 => ∃ a xs, v = .ref a ∧ SqL K G1 a xs ∧ ∃ P : Nat → L2.St → Hp → Prop, P 0 σ G1 ∧ (∀ i σ' G', i ≤ xs.length → P i σ' G' → SqL K G' a xs) ∧
    (∀ i x σ' G', xs[i]? = some x → P i σ' G' → GM U g x σ' G' fun σ2 G2 => SM U ts ⟨KJ U (P (i + 1)), D.rt, D.nx, KJ U (P (i + 1))⟩ σ2 G2) ∧ (∀ σ' G', P xs.length σ' G' → KM U D.nx σ' G')) : SM U (tFor (iList K tl) g ts) D σ G := fun H j =>
  h H j _ fun v H1 G1 j1 ⟨a, xs, e, hx, P, h0, hl, hs, hd⟩ => ⟨a, e, ⟨xs, ex_l j1.up hx⟩, for_list (fun i => KJ U (P i)) ⟨G1, j1, h0⟩ (fun i σ' H' hi ⟨G', j', p⟩ => ex_l j'.up (hl i σ' G' hi p))
    (fun i x σ' H' hi ⟨G', j', p⟩ => hs i x σ' G' hi p H' j' _ fun σ2 H2 G2 j2 h2 => h2 H2 j2) (fun σ' H' ⟨G', j', p⟩ => hd σ' G' p H' j')⟩
theorem sm_forT {tl : TE} (h : EM U tl σ G fun v G1 => ∃ a xs, v = .ref a ∧ SqT K G1 a xs ∧ ∃ P : Nat → L2.St → Hp → Prop, P 0 σ G1 ∧ (∀ i σ' G', i ≤ xs.length → P i σ' G' → SqT K G' a xs) ∧
    (∀ i x σ' G', xs[i]? = some x → P i σ' G' → GM U g x σ' G' fun σ2 G2 => SM U ts ⟨KJ U (P (i + 1)), D.rt, D.nx, KJ U (P (i + 1))⟩ σ2 G2) ∧ (∀ σ' G', P xs.length σ' G' → KM U D.nx σ' G')) : SM U (tFor (iTup K tl) g ts) D σ G := fun H j =>
  h H j _ fun v H1 G1 j1 ⟨a, xs, e, hx, P, h0, hl, hs, hd⟩ => ⟨a, e, ⟨xs, ex_t j1.up hx⟩, for_tup (fun i => KJ U (P i)) ⟨G1, j1, h0⟩ (fun i σ' H' hi ⟨G', j', p⟩ => ex_t j'.up (hl i σ' G' hi p))
    (fun i x σ' H' hi ⟨G', j', p⟩ => hs i x σ' G' hi p H' j' _ fun σ2 H2 G2 j2 h2 => h2 H2 j2) (fun σ' H' ⟨G', j', p⟩ => hd σ' G' p H' j')⟩
theorem sm_forR1 {ta : TA} {i0 : Nat} (h : AM U ta σ G fun vs G1 => ∃ n : Int, vs = [.int n] ∧ -(2 ^ 62) ≤ n ∧ n < 2 ^ 62 ∧ ∃ P : Nat → L2.St → Hp → Prop, P 0 σ G1 ∧
    (∀ (i : Nat) σ' G', (i : Int) < n → P i σ' G' → SM U ts ⟨KJ U (P (i + 1)), D.rt, D.nx, KJ U (P (i + 1))⟩ (σ'.set i0 (some (.int (i : Int)))) G') ∧ (∀ σ' G', P n.toNat σ' G' → KM U D.nx σ' G')) : SM U (tFor (iRng1 ta) (gName i0) ts) D σ G := fun H j =>
  h H j _ fun vs H1 G1 j1 ⟨n, e, b1, b2, P, h0, hs, hd⟩ => ⟨n, e, b1, b2, for_range (lo := 0) (n := n.toNat) (fun i => KJ U (P i)) ⟨G1, j1, h0⟩
    (fun i σ' H' hi ⟨G', j', p⟩ => by
      have e0 : (0 : Int) + (i : Int) = (i : Int) := Int.zero_add _
      show ts ⟨KJ U (P (i + 1)), D.rt, D.nx, KJ U (P (i + 1))⟩ (σ'.set i0 (some (.int ((0 : Int) + (i : Int))))) H'
      rw [e0]
      exact hs i σ' G' (by omega) p H' j') (fun σ' H' ⟨G', j', p⟩ => hd σ' G' p H' j')⟩
theorem sm_forR2 {ta : TA} {i0 : Nat} (h : AM U ta σ G fun vs G1 => ∃ lo n : Int, vs = [.int lo, .int n] ∧ (-(2 ^ 62) ≤ lo ∧ lo < 2 ^ 62 ∧ -(2 ^ 62) ≤ n ∧ n < 2 ^ 62) ∧ ∃ P : Nat → L2.St → Hp → Prop, P 0 σ G1 ∧
    (∀ (i : Nat) σ' G', lo + (i : Int) < n → P i σ' G' → SM U ts ⟨KJ U (P (i + 1)), D.rt, D.nx, KJ U (P (i + 1))⟩ (σ'.set i0 (some (.int (lo + (i : Int))))) G') ∧ (∀ σ' G', P (n - lo).toNat σ' G' → KM U D.nx σ' G')) : SM U (tFor (iRng2 ta) (gName i0) ts) D σ G := fun H j =>
  h H j _ fun vs H1 G1 j1 ⟨lo, n, e, b, P, h0, hs, hd⟩ => ⟨lo, n, e, b, for_range (lo := lo) (n := (n - lo).toNat) (fun i => KJ U (P i)) ⟨G1, j1, h0⟩
    (fun i σ' H' hi ⟨G', j', p⟩ => hs i σ' G' (by omega) p H' j') (fun σ' H' ⟨G', j', p⟩ => hd σ' G' p H' j')⟩
theorem sm_while (W : Nat → L2.St → Hp → Prop) (m0 : Nat) (h0 : W m0 σ G)
    (hs : ∀ m σ' G', W m σ' G' → TM U t σ' G' fun b G1 => if b = true then SM U ts ⟨KJ U (fun σ2 G2 => ∃ m', m' < m ∧ W m' σ2 G2), D.rt, D.nx, KJ U (fun σ2 G2 => ∃ m', m' < m ∧ W m' σ2 G2)⟩ σ' G1 else KM U D.nx σ' G1) : SM U (tWhile t ts) D σ G := fun H j =>
  ⟨fun m => KJ U (W m), ⟨m0, G, j, h0⟩, fun m σ' H' ⟨G', j', w⟩ => hs m σ' G' w H' j' _ fun b H1 G1 j1 h1 => by
    cases b with
    | true =>
      rw [if_pos rfl] at h1 ⊢
      exact ⟨KJ U (fun σ2 G2 => ∃ m', m' < m ∧ W m' σ2 G2), fun σ2 H2 ⟨G2, j2, m', hm, w'⟩ => ⟨m', hm, G2, j2, w'⟩, h1 H1 j1⟩
    | false => rw [if_neg Bool.false_ne_true] at h1 ⊢; exact h1 H1 j1⟩
/-! ### comprehensions -/
theorem em_lcR1 {ta : TA} {i0 : Nat} {vs : List Nat} (h : AM U ta σ G fun ws G1 => ∃ n : Int, ws = [.int n] ∧ 0 ≤ n ∧ n ≤ 16000000 ∧ (∀ x, wipe ((wipe σ vs).set i0 (some x)) vs = wipe σ vs) ∧ ∃ P : Nat → List V → Hp → Prop, P 0 [] G1 ∧ (∀ i acc G', P i acc G' → acc.length ≤ i) ∧
    (∀ (i : Nat) acc G' (D : Addr) (U' : Vx), U' = U.hide D (.lst acc) → ¬ U.m D → (i : Int) < n → P i acc G' → TM U' tt ((wipe σ vs).set i0 (some (.int (i : Int)))) G' fun b G2 => if b = true then EM U' te ((wipe σ vs).set i0 (some (.int (i : Int)))) G2 fun y G3 => P (i + 1) (acc ++ [y]) G3 else P (i + 1) acc G2) ∧
    (∀ acc D G' G'', P n.toNat acc G' → Ex G' G'' → G' D = none → G'' D = some (.lst acc) → Q (.ref D) G'')) : EM U (tLc (iRng1 ta) (gName i0) tt te vs) σ G Q := fun H j QH q =>
  h H j _ fun ws H1 G1 j1 ⟨n, e, b1, b2, hw, P, h0, hz, hs, hd⟩ => ⟨n, e, by omega, by omega, fun D hD => by
    have nm : ¬ U.m D := fun z => (j1.msk D z).2 hD
    have nh : U.He D = none := none_of_ex j1.keep hD
    refine lc_range (lo := 0) (n := n.toNat) (fun i H' => ∃ acc G', J (U.hide D (.lst acc)) H' G' ∧ P i acc G') ⟨[], G1, ?_, h0⟩ (fun i H' hi ⟨acc, G', j', p⟩ => ?_) (fun H' ⟨acc, G', j', p⟩ => ?_)
    · have ja := j1.alloc (o := .lst []) hD
      refine ⟨fun a u e => ?_, ja.keep, j1.new, ⟨ja.hid, upd_same⟩, fun a ma => ?_⟩
      · rw [upd_ne (fun z => by subst z; rw [j1.free hD] at e; cases e)]; exact j1.up a u e
      · rcases ma with ma | rfl
        · obtain ⟨q1, q2⟩ := j1.msk a ma
          refine ⟨q1, ?_⟩
          rw [upd_ne (fun z => by subst z; exact q2 hD)]; exact q2
        · exact ⟨j1.free hD, by rw [upd_same]; exact fun q => by cases q⟩
    · have e0 : (0 : Int) + (i : Int) = (i : Int) := Int.zero_add _
      show wipe ((wipe σ vs).set i0 (some (.int ((0 : Int) + (i : Int))))) vs = wipe σ vs ∧ tt ((wipe σ vs).set i0 (some (.int ((0 : Int) + (i : Int))))) H' fun b H3 => if b = true then te ((wipe σ vs).set i0 (some (.int ((0 : Int) + (i : Int))))) H3 fun y H4 => ∃ acc, H4 D = some (.lst acc) ∧ acc.length < sizeLine ∧ ∃ acc' G', J (U.hide D (.lst acc')) (upd H4 D (.lst (acc ++ [y]))) G' ∧ P (i + 1) acc' G' else ∃ acc' G', J (U.hide D (.lst acc')) H3 G' ∧ P (i + 1) acc' G'
      rw [e0]
      refine ⟨hw _, hs i acc G' D _ rfl nm (by omega) p H' j' _ fun b H3 G3 j3 h3 => ?_⟩
      cases b with
      | true =>
        rw [if_pos rfl] at h3 ⊢
        refine h3 H3 j3 _ fun y H4 G4 j4 h4 => ⟨acc, j4.hid.2, ?_, acc ++ [y], G4, j4.rehide nm nh, h4⟩
        have := hz i acc G' p
        exact Nat.lt_of_le_of_lt this (Nat.lt_of_lt_of_le (show i < 16000000 by omega) (by decide))
      | false =>
        rw [if_neg Bool.false_ne_true] at h3 ⊢
        exact ⟨acc, G3, j3, h3⟩
    · have gd : G' D = none := (j'.msk D (.inr rfl)).1
      exact q _ _ _ (j'.unhide nm nh) (hd acc D G' _ p (Ex.new gd) gd upd_same)⟩
end
/-! ### built-ins by named readings -/
section
variable {X : Cx}
def rLenQ (K : PySem.W.Frag) : List V → Hp → VK → Prop := fun xs H Q => ∃ p ys, xs = [.ref p] ∧ (SqL K H p ys ∨ SqT K H p ys) ∧ Q (.int ys.length) H
def rIntQ : List V → Hp → VK → Prop := fun xs H Q => (∃ i, xs = [.int i] ∧ Q (.int i) H) ∨ ∃ k, xs = [.bl k] ∧ Q (.int (if k then 1 else 0)) H
def rMaxQ : List V → Hp → VK → Prop := fun xs H Q => ∃ i j, xs = [.int i, .int j] ∧ Q (.int (if j > i then j else i)) H
def rMinQ : List V → Hp → VK → Prop := fun xs H Q => ∃ i j, xs = [.int i, .int j] ∧ Q (.int (if j < i then j else i)) H
def rListQ (K : PySem.W.Frag) : List V → Hp → VK → Prop := fun xs H Q => ∃ p ys, xs = [.ref p] ∧ (SqL K H p ys ∨ SqT K H p ys) ∧ ∀ l, H l = none → Q (.ref l) (upd H l (.lst ys))
def rTupQ (K : PySem.W.Frag) : List V → Hp → VK → Prop := fun xs H Q => ∃ p ys, xs = [.ref p] ∧ ((SqL K H p ys ∧ ∀ l, H l = none → Q (.ref l) (upd H l (.tup ys))) ∨ (SqT K H p ys ∧ Q (.ref p) H))
theorem cq_len : CallR X (.builtin "len") (rLenQ X.K) := call_len_seq
theorem cq_int : CallR X (.type "int") rIntQ := call_int1
theorem cq_max (hc : X.calm = true := by rfl) : CallR X (.builtin "max") rMaxQ := call_max2 hc
theorem cq_min (hc : X.calm = true := by rfl) : CallR X (.builtin "min") rMinQ := call_min2 hc
theorem cq_list : CallR X (.type "list") (rListQ X.K) := call_list_of
theorem cq_tuple : CallR X (.type "tuple") (rTupQ X.K) := call_tuple_of
end
section
variable {U : Vx} {σ : L2.St} {G : Hp} {Q : VK} {K : PySem.W.Frag}
theorem rm_lenL {p : Addr} {ys : List V} (h : SqL K G p ys) (k : Q (.int ys.length) G) : RM U (rLenQ K [.ref p]) G Q := fun H j _ q => ⟨p, ys, rfl, .inl (ex_l j.up h), q _ H G j k⟩
theorem rm_lenT {p : Addr} {ys : List V} (h : SqT K G p ys) (k : Q (.int ys.length) G) : RM U (rLenQ K [.ref p]) G Q := fun H j _ q => ⟨p, ys, rfl, .inr (ex_t j.up h), q _ H G j k⟩
theorem rm_int {i : Int} (k : Q (.int i) G) : RM U (rIntQ [.int i]) G Q := fun H j _ q => .inl ⟨i, rfl, q _ H G j k⟩
theorem rm_max {i l : Int} (k : Q (.int (if l > i then l else i)) G) : RM U (rMaxQ [.int i, .int l]) G Q := fun H j _ q => ⟨i, l, rfl, q _ H G j k⟩
theorem rm_min {i l : Int} (k : Q (.int (if l < i then l else i)) G) : RM U (rMinQ [.int i, .int l]) G Q := fun H j _ q => ⟨i, l, rfl, q _ H G j k⟩
theorem rm_list {p : Addr} {ys : List V} (h : SqL K G p ys ∨ SqT K G p ys) (k : ∀ l G', G l = none → Ex G G' → G' l = some (.lst ys) → Q (.ref l) G') : RM U (rListQ K [.ref p]) G Q := fun H j _ q => ⟨p, ys, rfl, h.elim (fun h => .inl (ex_l j.up h)) (fun h => .inr (ex_t j.up h)), fun l hl => q _ _ _ (j.alloc hl) (k l _ (j.free hl) (Ex.new (j.free hl)) upd_same)⟩
theorem rm_tupL {p : Addr} {ys : List V} (h : SqL K G p ys) (k : ∀ l G', G l = none → Ex G G' → G' l = some (.tup ys) → Q (.ref l) G') : RM U (rTupQ K [.ref p]) G Q := fun H j _ q => ⟨p, ys, rfl, .inl ⟨ex_l j.up h, fun l hl => q _ _ _ (j.alloc hl) (k l _ (j.free hl) (Ex.new (j.free hl)) upd_same)⟩⟩
theorem rm_tupT {p : Addr} {ys : List V} (h : SqT K G p ys) (k : Q (.ref p) G) : RM U (rTupQ K [.ref p]) G Q := fun H j _ q => ⟨p, ys, rfl, .inr ⟨ex_t j.up h, q _ _ _ j k⟩⟩
theorem rm_sum {a : Addr} {ns : List Int} (h : SqL K G a (ns.map V.int)) (k : Q (.int ns.sum) G) : RM U (rSum K [.ref a]) G Q := fun H j _ q => ⟨a, ns, rfl, ex_l j.up h, q _ H G j k⟩
theorem rm_all {a : Addr} {bs : List Bool} (h : SqL K G a (bs.map V.bl)) (k : Q (.bl (bs.all id)) G) : RM U (rAll K [.ref a]) G Q := fun H j _ q => ⟨a, bs, rfl, ex_l j.up h, q _ H G j k⟩
theorem rm_any {a : Addr} {bs : List Bool} (h : SqL K G a (bs.map V.bl)) (k : Q (.bl (bs.any id)) G) : RM U (rAny K [.ref a]) G Q := fun H j _ q => ⟨a, bs, rfl, ex_l j.up h, q _ H G j k⟩
theorem rm_isB {a b : Bool} (k : Q (.bl (decide (a = b))) G) : RM U (rIsB (.bl a) (.bl b)) G Q := fun H j _ q => ⟨a, b, rfl, rfl, q _ H G j k⟩
theorem rm_notB {a b : Bool} (k : Q (.bl (!decide (a = b))) G) : RM U (rNotB (.bl a) (.bl b)) G Q := fun H j _ q => ⟨a, b, rfl, rfl, q _ H G j k⟩
/-- isinstance(n, int), isinstance(n, bool) of an int -/
theorem rm_isiI {i : Int} (k : Q (.bl true) G) : RM U (rIsi K [.int i, .ty "int"]) G Q := fun H j _ q => ⟨.int i, .ty "int", .type "int", .type "int", true, rfl, .ty "int", .base (by constructor), kit_ty (by decide +kernel), q _ H G j k⟩
theorem rm_isiB {i : Int} (k : Q (.bl false) G) : RM U (rIsi K [.int i, .ty "bool"]) G Q := fun H j _ q => ⟨.int i, .ty "bool", .type "int", .type "bool", false, rfl, .ty "bool", .base (by constructor), kit_ty (by decide +kernel), q _ H G j k⟩
end
/-! ### defs and methods of the text -/
structure Def (K : PySem.W.Frag) (mg : Str → Option Value) (x qual : Str) (st : Stmt) (ps : List Str) (f : Addr) (fd : FuncData) : Prop where
  F : FunD K x qual (defArgs st) (defBody st) (defScope st) [] [] f fd
  g : mg x = some (.ref f)
  b : Binds K fd ps []
structure MDef (K : PySem.W.Frag) (mg : Str → Option Value) (x qual : Str) (st : Stmt) (ps : List Str) (f : Addr) (fd : FuncData) : Prop where
  F : FunD K x qual (defArgs st) (defBody st) (defScope st) [] [] f fd
  b : Binds K fd ps []
/-! ### the law's draws: a list of two ints that is hidden -/
def wo (st : Addr) (G : Hp) : Hp := fun a => if a = st then none else G a
theorem wo_same {st : Addr} {G : Hp} : wo st G st = none := by unfold wo; rw [if_pos rfl]
theorem wo_ne {st a : Addr} {G : Hp} (h : a ≠ st) : wo st G a = G a := by unfold wo; rw [if_neg h]
def spDraw (K : PySem.W.Frag) : Sp := fun vs H Q _ => ∃ (st sc : Addr) (ns : List Int) (a b sz : Int), vs = [.ref st, .ref sc, .int sz] ∧ H st = some (.lst [.int a, .int b]) ∧ 0 ≤ a ∧ 0 ≤ b ∧ SqL K (wo st H) sc (ns.map V.int) ∧ 0 < sz ∧ sz.natAbs.log2 < 9000 ∧
  ∀ (d a' b' : Int) (H' : Hp), 0 ≤ d → d < sz → 0 ≤ a' → 0 ≤ b' → (∀ x o, x ≠ st → H x = some o → H' x = some o) → H' st = some (.lst [.int a', .int b']) → Q (.int d) H'
def StAt (H : Hp) (st : Addr) : Prop := ∃ a b : Int, H st = some (.lst [.int a, .int b]) ∧ 0 ≤ a ∧ 0 ≤ b
structure DrawOk (U : Vx) (st : Addr) : Prop where
  m : U.m st
  ne : U.He st = none
  at_ : ∀ H, U.I H → StAt H st
  to : ∀ H H', U.I H → (∀ x, U.m x → x ≠ st → H' x = H x) → StAt H' st → U.I H'
theorem DrawOk.hide {U : Vx} {st D : Addr} {o : HO} (d : DrawOk U st) (h : ¬ U.m D) : DrawOk (U.hide D o) st where
  m := .inl d.m
  ne := d.ne
  at_ := fun H i => d.at_ H i.1
  to := fun H H' i e s => ⟨d.to H H' i.1 (fun x mx nx => e x (.inl mx) nx) s, by
    rw [e D (.inr rfl) (fun z => by subst z; exact h d.m)]; exact i.2⟩
section
variable {U : Vx} {σ : L2.St} {G : Hp} {Q : VK} {K : PySem.W.Frag}
theorem cm_draw {st sc : Addr} {ns : List Int} {sz : Int} (d : DrawOk U st) (h : SqL K G sc (ns.map V.int)) (h0 : 0 < sz) (hz : sz.natAbs.log2 < 9000) (k : ∀ n : Int, 0 ≤ n → n < sz → Q (.int n) G) : CM U (spDraw K) [.ref st, .ref sc, .int sz] G Q := fun H j QH q E => by
  obtain ⟨a, b, e, ha, hb⟩ := d.at_ H j.hid
  refine ⟨st, sc, ns, a, b, sz, rfl, e, ha, hb, ex_l (H := G) (fun x o ex => by
    have nx : x ≠ st := fun z => by subst z; rw [(j.msk x d.m).1] at ex; cases ex
    rw [wo_ne nx]; exact j.up x o ex) h, h0, hz, fun n a' b' H' n0 n1 ha' hb' hx he => q _ H' G ?_ (k n n0 n1)⟩
  have gs := (j.msk st d.m).1
  exact {
    up := fun x o ex => hx x o (fun z => by subst z; rw [gs] at ex; cases ex) (j.up x o ex)
    keep := fun x o ex => hx x o (fun z => by subst z; rw [d.ne] at ex; cases ex) (j.keep x o ex)
    new := j.new
    hid := d.to H H' j.hid (fun x mx nx => by
      cases z : H x with
      | none => exact absurd z (j.msk x mx).2
      | some o => exact hx x o nx z) ⟨a', b', he, ha', hb'⟩
    msk := fun x mx => ⟨(j.msk x mx).1, by
      by_cases nx : x = st
      · subst nx; rw [he]; exact fun q => by cases q
      · cases z : H x with
        | none => exact absurd z (j.msk x mx).2
        | some o => rw [hx x o nx z]; exact fun q => by cases q⟩ }
end
/-- the law's own view: its script shown, the draws' list hidden -/
def V1 (H G : Hp) (st : Addr) : Vx := ⟨H, G, fun H' => StAt H' st, fun a => a = st, fun H1 H2 ⟨a, b, e, h⟩ k => ⟨a, b, by rw [k st rfl]; exact e, h⟩⟩
theorem V1.draw {H G : Hp} {st : Addr} (h : H st = none) : DrawOk (V1 H G st) st := ⟨rfl, h, fun _ i => i, fun _ _ _ _ s => s⟩
theorem J.draws {H0 G0 H G : Hp} {st : Addr} (j : J (V0 H0 G0) H G) (h : H st = some (.lst [.int 0, .int 0])) : J (V1 H0 G0 st) H (wo st G) where
  up := fun a o e => by
    by_cases z : a = st
    · rw [z, wo_same] at e; cases e
    · rw [wo_ne z] at e; exact j.up a o e
  keep := j.keep
  new := fun a q gg => by
    by_cases z : a = st
    · rw [z, wo_same] at q; exact absurd rfl q
    · rw [wo_ne z] at q; exact j.new a q gg
  hid := ⟨0, 0, h, Int.le_refl 0, Int.le_refl 0⟩
  msk := fun a z => by
    have z' : a = st := z
    subst z'
    exact ⟨wo_same, by rw [h]; exact fun q => by cases q⟩
/-- from the statement that makes the draws' list on: the rest under the view V1 -/
theorem sm_draws {H0 G0 G : Hp} {t : TS} {D : Ends} {σ : L2.St} {st : Addr} (h : G st = some (.lst [.int 0, .int 0])) (g : G0 st = none) (k : ∀ G1, (∀ a o, a ≠ st → G a = some o → G1 a = some o) → H0 st = none → G1 st = none → SM (V1 H0 G0 st) t D σ G1) : SM (V0 H0 G0) t D σ G := fun H j =>
  k (wo st G) (fun a o z e => by rw [wo_ne z]; exact e) (j.new st (by rw [h]; exact fun q => by cases q) g) wo_same H (j.draws (j.up _ _ h))
section
variable {U : Vx} {σ : L2.St} {G : Hp} {Q : VK} {K : PySem.W.Frag} {te : TE} {tt : TT}
/-- [e for i in range(n)], [.. if t]: a list whose items are told by the turn alone -/
theorem em_filtR1 {ta : TA} {i0 : Nat} {vs : List Nat} (f : Nat → Bool) (v : Nat → V) (h : AM U ta σ G fun ws G1 => ∃ n : Int, ws = [.int n] ∧ 0 ≤ n ∧ n ≤ 16000000 ∧ (∀ x, wipe ((wipe σ vs).set i0 (some x)) vs = wipe σ vs) ∧
    (∀ (i : Nat) G' (U' : Vx), Ex G1 G' → (i : Int) < n → TM U' tt ((wipe σ vs).set i0 (some (.int (i : Int)))) G' fun b G2 => b = f i ∧ Ex G' G2 ∧ (b = true → EM U' te ((wipe σ vs).set i0 (some (.int (i : Int)))) G2 fun y G3 => y = v i ∧ Ex G2 G3)) ∧
    (∀ D G'', Ex G1 G'' → G1 D = none → G'' D = some (.lst (given n.toNat f v)) → Q (.ref D) G'')) : EM U (tLc (iRng1 ta) (gName i0) tt te vs) σ G Q := by
  refine em_lcR1 (fun H j QH q => h H j QH fun ws H' G1 j1 ⟨n, e, b1, b2, hw, hs, hd⟩ => q ws H' G1 j1 ⟨n, e, b1, b2, hw, fun i acc G' => acc = given i f v ∧ Ex G1 G', ⟨rfl, Ex.refl G1⟩, fun i acc G' p => by rw [p.1]; exact given_len i f v, ?_, ?_⟩)
  · intro i acc G' D U' _ _ hi ⟨p1, p2⟩ H j QT qt
    refine hs i G' U' p2 hi H j _ fun b H1 G2 j1 ⟨hb, e1, k⟩ => qt b H1 G2 j1 ?_
    cases b with
    | true =>
      rw [if_pos rfl]
      intro H2 j2 QE qe
      refine k rfl H2 j2 _ fun y H3 G3 j3 ⟨hy, e3⟩ => qe y H3 G3 j3 ⟨?_, (p2.trans e1).trans e3⟩
      rw [given_yes hb.symm, p1, hy]
    | false =>
      rw [if_neg Bool.false_ne_true]
      refine ⟨?_, p2.trans e1⟩
      rw [given_no hb.symm, p1]
  · intro acc D G' G'' ⟨p1, p2⟩ e g1 g2
    refine hd D G'' (p2.trans e) (none_of_ex p2 g1) ?_
    rw [← p1]; exact g2
theorem given_all (n : Nat) (v : Nat → V) : given n (fun _ => true) v = (List.range n).map v := by
  unfold given
  rw [List.filter_eq_self.mpr (fun _ _ => rfl)]
theorem em_mapR1 {ta : TA} {i0 : Nat} {vs : List Nat} (v : Nat → V) (h : AM U ta σ G fun ws G1 => ∃ n : Int, ws = [.int n] ∧ 0 ≤ n ∧ n ≤ 16000000 ∧ (∀ x, wipe ((wipe σ vs).set i0 (some x)) vs = wipe σ vs) ∧
    (∀ (i : Nat) G' (U' : Vx), Ex G1 G' → (i : Int) < n → EM U' te ((wipe σ vs).set i0 (some (.int (i : Int)))) G' fun y G3 => y = v i ∧ Ex G' G3) ∧
    (∀ D G'', Ex G1 G'' → G1 D = none → G'' D = some (.lst ((List.range n.toNat).map v)) → Q (.ref D) G'')) : EM U (tLc (iRng1 ta) (gName i0) tYes te vs) σ G Q := by
  refine em_filtR1 (fun _ => true) v (fun H j QH q => h H j QH fun ws H' G1 j1 ⟨n, e, b1, b2, hw, hs, hd⟩ => q ws H' G1 j1 ⟨n, e, b1, b2, hw, fun i G' U' p hi => tm_yes ⟨rfl, Ex.refl G', fun _ => hs i G' U' p hi⟩, fun D G'' e1 g1 g2 => hd D G'' e1 g1 ?_⟩)
  rw [← given_all]; exact g2
/-- over a list that stands -/
theorem em_lcL {tl : TE} {g : TG} {vs : List Nat} (h : EM U tl σ G fun w G1 => ∃ a xs, w = .ref a ∧ SqL K G1 a xs ∧ xs.length < 16000000 ∧ ∃ P : Nat → List V → Hp → Prop, P 0 [] G1 ∧ (∀ i acc G', P i acc G' → acc.length ≤ i ∧ SqL K G' a xs) ∧
    (∀ (i : Nat) x acc G' (D : Addr) (U' : Vx), U' = U.hide D (.lst acc) → ¬ U.m D → xs[i]? = some x → P i acc G' → GM U' g x (wipe σ vs) G' fun σ2 G0 => wipe σ2 vs = wipe σ vs ∧ TM U' tt σ2 G0 fun b G2 => if b = true then EM U' te σ2 G2 fun y G3 => P (i + 1) (acc ++ [y]) G3 else P (i + 1) acc G2) ∧
    (∀ acc D G' G'', P xs.length acc G' → Ex G' G'' → G' D = none → G'' D = some (.lst acc) → Q (.ref D) G'')) : EM U (tLc (iList K tl) g tt te vs) σ G Q := fun H j QH q =>
  h H j _ fun w H1 G1 j1 ⟨a, xs, e, hx, hlen, P, h0, hz, hs, hd⟩ => ⟨a, e, ⟨xs, ex_l j1.up hx⟩, fun D hD => by
    have nm : ¬ U.m D := fun z => (j1.msk D z).2 hD
    have nh : U.He D = none := none_of_ex j1.keep hD
    refine lc_list (K := K) (a := a) (xs := xs) (fun i H' => i ≤ xs.length ∧ ∃ acc G', J (U.hide D (.lst acc)) H' G' ∧ P i acc G') ⟨Nat.zero_le _, [], G1, ?_, h0⟩ (fun i H' _ ⟨_, acc, G', j', p⟩ => ex_l j'.up (hz i acc G' p).2) (fun i x H' hi ⟨_, acc, G', j', p⟩ => ?_) (fun H' ⟨_, acc, G', j', p⟩ => ?_)
    · have ja := j1.alloc (o := .lst []) hD
      refine ⟨fun a u e => ?_, ja.keep, j1.new, ⟨ja.hid, upd_same⟩, fun a ma => ?_⟩
      · rw [upd_ne (fun z => by subst z; rw [j1.free hD] at e; cases e)]; exact j1.up a u e
      · rcases ma with ma | rfl
        · obtain ⟨q1, q2⟩ := j1.msk a ma
          refine ⟨q1, ?_⟩
          rw [upd_ne (fun z => by subst z; exact q2 hD)]; exact q2
        · exact ⟨j1.free hD, by rw [upd_same]; exact fun q => by cases q⟩
    · have hil : i < xs.length := (List.getElem?_eq_some_iff.mp hi).1
      refine hs i x acc G' D _ rfl nm hi p H' j' _ fun σ2 H2 G2 j2 ⟨w2, k2⟩ => ⟨w2, k2 H2 j2 _ fun b H3 G3 j3 h3 => ?_⟩
      cases b with
      | true =>
        rw [if_pos rfl] at h3 ⊢
        refine h3 H3 j3 _ fun y H4 G4 j4 h4 => ⟨acc, j4.hid.2, ?_, hil, acc ++ [y], G4, j4.rehide nm nh, h4⟩
        have := (hz i acc G' p).1
        exact Nat.lt_of_le_of_lt this (Nat.lt_of_lt_of_le (show i < 16000000 by omega) (by decide))
      | false =>
        rw [if_neg Bool.false_ne_true] at h3 ⊢
        exact ⟨hil, acc, G3, j3, h3⟩
    · have gd : G' D = none := (j'.msk D (.inr rfl)).1
      exact q _ _ _ (j'.unhide nm nh) (hd acc D G' _ p (Ex.new gd) gd upd_same)⟩
theorem em_mapL {tl : TE} {g : TG} {vs : List Nat} (v : V → V) (h : EM U tl σ G fun w G1 => ∃ a xs, w = .ref a ∧ SqL K G1 a xs ∧ xs.length < 16000000 ∧
    (∀ (i : Nat) x G' (U' : Vx), Ex G1 G' → xs[i]? = some x → GM U' g x (wipe σ vs) G' fun σ2 G2 => wipe σ2 vs = wipe σ vs ∧ Ex G' G2 ∧ EM U' te σ2 G2 fun y G3 => y = v x ∧ Ex G2 G3) ∧
    (∀ D G'', Ex G1 G'' → G1 D = none → G'' D = some (.lst (xs.map v)) → Q (.ref D) G'')) : EM U (tLc (iList K tl) g tYes te vs) σ G Q := by
  refine em_lcL (fun H j QH q => h H j QH fun w H' G1 j1 ⟨a, xs, e, hx, hlen, hs, hd⟩ => q w H' G1 j1 ⟨a, xs, e, hx, hlen, fun i acc G' => i ≤ xs.length ∧ acc = (xs.take i).map v ∧ Ex G1 G', ⟨Nat.zero_le _, rfl, Ex.refl G1⟩, fun i acc G' p => ⟨by rw [p.2.1, List.length_map, List.length_take]; omega, ex_l p.2.2 hx⟩, ?_, ?_⟩)
  · intro i x acc G' D U' _ _ hi ⟨p0, p1, p2⟩ H j QT qt
    have hil : i < xs.length := (List.getElem?_eq_some_iff.mp hi).1
    refine hs i x G' U' p2 hi H j _ fun σ2 H1 G2 j1 ⟨hw, e1, k⟩ => qt σ2 H1 G2 j1 ⟨hw, tm_yes ?_⟩
    rw [if_pos rfl]
    intro H2 j2 QE qe
    refine k H2 j2 _ fun y H3 G3 j3 ⟨hy, e3⟩ => qe y H3 G3 j3 ⟨hil, ?_, (p2.trans e1).trans e3⟩
    rw [p1, hy, List.take_add_one, hi]
    simp
  · intro acc D G' G'' ⟨_, p1, p2⟩ e g1 g2
    refine hd D G'' (p2.trans e) (none_of_ex p2 g1) ?_
    rw [p1, List.take_length] at g2; exact g2
end
/-! ### where ways meet -/
def tCut (t : TS) : TS := fun D σ H => ∃ P : L2.St → Hp → Prop, (∀ σ' H', P σ' H' → D.nx σ' H') ∧ t ⟨P, D.rt, D.bk, D.ct⟩ σ H
theorem ps_cut {X : Cx} {st : Stmt} {t : TS} (h : PS X st t) : PS X st (tCut t) := by
  refine ⟨fun pins s σ H D I ⟨P, hP, ht⟩ => ?_⟩
  refine thn (h.run pins s σ H _ I ht) fun f s1 q => ?_
  cases f with
  | next => obtain ⟨σ', H', I', q'⟩ := q; exact ⟨σ', H', I', hP σ' H' q'⟩
  | ret v => exact q
  | brk => exact q
  | cont => exact q
section
variable {U : Vx} {σ : L2.St} {G : Hp} {Q : VK} {K : PySem.W.Frag} {te to ti : TE} {tt : TT} {t ts : TS} {D : Ends} {v : V}
theorem sm_cut (P : L2.St → Hp → Prop) (h1 : ∀ σ' G', P σ' G' → KM U D.nx σ' G') (h2 : SM U t ⟨KJ U P, D.rt, D.bk, D.ct⟩ σ G) : SM U (tCut t) D σ G := fun H j =>
  ⟨KJ U P, fun σ' H' ⟨G', j', p⟩ => h1 σ' G' p H' j', h2 H j⟩
def SLM (U : Vx) (o i v : V) (G : Hp) (k : Hp → Prop) : Prop := ∃ l xs n j, o = .ref l ∧ i = .int n ∧ G l = some (.lst xs) ∧ U.Ge l = none ∧ ixN xs.length n = some j ∧ k (upd G l (.lst (xs.set j v)))
theorem slm {l : Addr} {xs : List V} {n : Int} {j : Nat} {k : Hp → Prop} (h : G l = some (.lst xs)) (g : U.Ge l = none) (hj : ixN xs.length n = some j) (q : k (upd G l (.lst (xs.set j v)))) : SLM U (.ref l) (.int n) v G k := ⟨l, xs, n, j, rfl, rfl, h, g, hj, q⟩
theorem gm_subL {QG : L2.St → Hp → Prop} (h : EM U to σ G fun o G1 => EM U ti σ G1 fun i G2 => SLM U o i v G2 fun G3 => QG σ G3) : GM U (gSub to ti rSetL) v σ G QG := fun H j QH q =>
  h H j _ fun o H1 G1 j1 h1 => h1 H1 j1 _ fun i H2 G2 j2 ⟨l, xs, n, k, e1, e2, g, ge, hk, h2⟩ => ⟨l, xs, n, k, e1, e2, j2.up _ _ g, hk, q _ _ _ (j2.write g ge) h2⟩
end
/-- the view of a draw: all but the draws' list stays -/
def VD (st : Addr) (H : Hp) : Vx := ⟨wo st H, wo st H, fun _ => True, fun _ => False, fun _ _ _ _ => trivial⟩
theorem wo_ex {st : Addr} {H : Hp} : Ex (wo st H) H := fun x o e => by
  by_cases z : x = st
  · rw [z, wo_same] at e; cases e
  · rw [wo_ne z] at e; exact e
theorem VD.start {st : Addr} {H : Hp} : J (VD st H) H H := ⟨Ex.refl H, wo_ex, fun _ _ g => g, trivial, fun _ z => z.elim⟩
theorem sql_wo {K : PySem.W.Frag} {st a : Addr} {H : Hp} {xs : List V} (h : SqL K H a xs) (ne : a ≠ st) : SqL K (wo st H) a xs := by
  rcases h with (h | ⟨o, h⟩) | h
  · exact .inl (.inl (by rw [wo_ne ne]; exact h))
  · exact .inl (.inr ⟨o, by rw [wo_ne ne]; exact h⟩)
  · exact .inr h
theorem wo_upd {st : Addr} {H G : Hp} {o : HO} (e : Ex (wo st H) G) : Ex (wo st H) (upd G st o) := fun x u ex => by
  have : x ≠ st := fun z => by rw [z, wo_same] at ex; cases ex
  rw [upd_ne this]; exact e x u ex
theorem kv_draw {st : Addr} {H G : Hp} {Q : VK} {sz d a' b' : Int} (q : ∀ (d a' b' : Int) (H' : Hp), 0 ≤ d → d < sz → 0 ≤ a' → 0 ≤ b' → (∀ x o, x ≠ st → H x = some o → H' x = some o) → H' st = some (.lst [.int a', .int b']) → Q (.int d) H')
    (h0 : 0 ≤ d) (h1 : d < sz) (ha : 0 ≤ a') (hb : 0 ≤ b') (g : G st = some (.lst [.int a', .int b'])) : KV (VD st H) Q (.int d) G := fun H' j =>
  q d a' b' H' h0 h1 ha hb (fun x o nx e => j.keep x o (by show wo st H x = some o; rw [wo_ne nx]; exact e)) (j.up _ _ g)
theorem ifd {p A B : Prop} [Decidable p] (h1 : p → A) (h2 : ¬ p → B) : if decide p = true then A else B := by
  by_cases h : p
  · rw [decide_eq_true h, if_pos rfl]; exact h1 h
  · rw [decide_eq_false h, if_neg Bool.false_ne_true]; exact h2 h
theorem ifn {p A B : Prop} [Decidable p] (h1 : ¬ p → A) (h2 : p → B) : if (!decide p) = true then A else B := by
  by_cases h : p
  · rw [decide_eq_true h, Bool.not_true, if_neg Bool.false_ne_true]; exact h2 h
  · rw [decide_eq_false h, Bool.not_false, if_pos rfl]; exact h1 h
theorem ifdT {p A B : Prop} [Decidable p] (h : p) (a : A) : if decide p = true then A else B := ifd (fun _ => a) fun z => absurd h z
theorem ifdF {p A B : Prop} [Decidable p] (h : ¬ p) (b : B) : if decide p = true then A else B := ifd (fun z => absurd z h) fun _ => b
theorem ifnT {p A B : Prop} [Decidable p] (h : ¬ p) (a : A) : if (!decide p) = true then A else B := ifn (fun _ => a) fun z => absurd z h
theorem ifnF {p A B : Prop} [Decidable p] (h : p) (b : B) : if (!decide p) = true then A else B := ifn (fun z => absurd h z) fun _ => b
/-! ### lists of ints as data -/
theorem dpAll_ints {K : PySem.W.Frag} {H : Hp} : ∀ ns : List Int, DpAll K H (ns.map V.int) (ns.map PyData.int)
  | [] => .nil
  | n :: ns => .cons (.int n) (dpAll_ints ns)
theorem canLay_ints : ∀ ns : List Int, PyData.canLayAll0 (ns.map PyData.int) = true
  | [] => by simp [PyData.canLayAll0]
  | n :: ns => by
    show PyData.canLayAll0 (PyData.int n :: ns.map PyData.int) = true
    rw [PyData.canLayAll0, canLay_ints ns]
    simp [PyData.canLay0]
theorem depth_ints : ∀ ns : List Int, PyData.depthAll (ns.map PyData.int) ≤ 1
  | [] => by simp [PyData.depthAll]
  | n :: ns => by
    have h := depth_ints ns
    show PyData.depthAll (PyData.int n :: ns.map PyData.int) ≤ 1
    rw [PyData.depthAll]
    simp only [PyData.depth]
    omega
theorem shaped_ints (ns : List Int) : SeqAt.shaped (.list (ns.map PyData.int)) = true := by
  unfold SeqAt.shaped
  have h := depth_ints ns
  rw [PyData.canLay0, canLay_ints, PyData.depth]
  simp
  omega
theorem shaped_intsT (ns : List Int) : SeqAt.shaped (.tuple (ns.map PyData.int)) = true := by
  unfold SeqAt.shaped
  have h := depth_ints ns
  rw [PyData.canLay0, canLay_ints, PyData.depth]
  simp
  omega
theorem eqv_ints : ∀ ns ms : List Int, PyData.eqvAll (ns.map PyData.int) (ms.map PyData.int) = decide (ns = ms)
  | [], [] => by simp [PyData.eqvAll]
  | [], m :: ms => by simp [PyData.eqvAll]
  | n :: ns, [] => by simp [PyData.eqvAll]
  | n :: ns, m :: ms => by
    show PyData.eqvAll (PyData.int n :: ns.map PyData.int) (PyData.int m :: ms.map PyData.int) = _
    rw [PyData.eqvAll, eqv_ints ns ms, PyData.eqv]
    simp [Bool.decide_and]
    by_cases h : n = m <;> simp [h]
theorem dp_ints {K : PySem.W.Frag} {H : Hp} {a : Addr} {ns : List Int} (h : SqL K H a (ns.map V.int)) : Dp K H (.ref a) (.list (ns.map PyData.int)) := .lst h (dpAll_ints ns)
theorem dp_intsT {K : PySem.W.Frag} {H : Hp} {a : Addr} {ns : List Int} (h : SqT K H a (ns.map V.int)) : Dp K H (.ref a) (.tuple (ns.map PyData.int)) := .tup h (dpAll_ints ns)
section
variable {U : Vx} {σ : L2.St} {G : Hp} {Q : VK} {K : PySem.W.Frag}
theorem rm_eqL {a b : Addr} {ns ms : List Int} (ha : SqL K G a (ns.map V.int)) (hb : SqL K G b (ms.map V.int)) (k : Q (.bl (decide (ns = ms))) G) : RM U (rEqD K (.ref a) (.ref b)) G Q :=
  rm_eqD (dp_ints ha) (dp_ints hb) (shaped_ints ns) (shaped_ints ms) (by rw [PyData.eqv, eqv_ints]; exact k)
theorem rm_neL {a b : Addr} {ns ms : List Int} (ha : SqL K G a (ns.map V.int)) (hb : SqL K G b (ms.map V.int)) (k : Q (.bl (!decide (ns = ms))) G) : RM U (rNeD K (.ref a) (.ref b)) G Q :=
  rm_neD (dp_ints ha) (dp_ints hb) (shaped_ints ns) (shaped_ints ms) (by rw [PyData.eqv, eqv_ints]; exact k)
theorem rm_eqT {a b : Addr} {ns ms : List Int} (ha : SqT K G a (ns.map V.int)) (hb : SqT K G b (ms.map V.int)) (k : Q (.bl (decide (ns = ms))) G) : RM U (rEqD K (.ref a) (.ref b)) G Q :=
  rm_eqD (dp_intsT ha) (dp_intsT hb) (shaped_intsT ns) (shaped_intsT ms) (by rw [PyData.eqv, eqv_ints]; exact k)
theorem rm_neT {a b : Addr} {ns ms : List Int} (ha : SqT K G a (ns.map V.int)) (hb : SqT K G b (ms.map V.int)) (k : Q (.bl (!decide (ns = ms))) G) : RM U (rNeD K (.ref a) (.ref b)) G Q :=
  rm_neD (dp_intsT ha) (dp_intsT hb) (shaped_intsT ns) (shaped_intsT ms) (by rw [PyData.eqv, eqv_ints]; exact k)
/-- an item at an unknown place within bounds -/
theorem atI_ex {xs : List V} {i : Int} (h0 : 0 ≤ i) (h1 : i < xs.length) : ∃ v, v ∈ xs ∧ atI xs i = some v ∧ xs[i.toNat]? = some v := by
  obtain ⟨k, rfl⟩ := Int.eq_ofNat_of_zero_le h0
  have hk : k < xs.length := by omega
  refine ⟨xs[k], List.getElem_mem hk, atI_nat (List.getElem?_eq_getElem hk), ?_⟩
  rw [Int.toNat_natCast]; exact List.getElem?_eq_getElem hk
theorem rm_ixM {p : Addr} {xs : List V} {i : Int} (h : SqL K G p xs) (h0 : 0 ≤ i) (h1 : i < xs.length) (k : ∀ v, v ∈ xs → Q v G) : RM U (rIxL K (.ref p) (.int i)) G Q := by
  obtain ⟨v, hv, e, _⟩ := atI_ex h0 h1
  exact rm_ixL h e (k v hv)
end
theorem log2_pow_lt {n : Nat} (h : n < 9000) : (2 ^ n : Nat).log2 < 9000 := by
  rw [Nat.log2_two_pow]; exact h
theorem pow_cast (n : Nat) : ((2 : Int) ^ n).natAbs = 2 ^ n := by rw [Int.natAbs_pow]; rfl
theorem sz_pow {w : Int} (h0 : 0 ≤ w) (h1 : w < 9000) : 0 < (1 : Int) * 2 ^ w.toNat ∧ ((1 : Int) * 2 ^ w.toNat).natAbs.log2 < 9000 := by
  rw [Int.one_mul]
  refine ⟨PySem.W.kbt_pos _, ?_⟩
  rw [pow_cast]
  exact log2_pow_lt (by omega)
theorem sz_small {n : Int} (h0 : 0 ≤ n) (h1 : n < 2 ^ 8999) : n.natAbs.log2 < 9000 := by
  by_cases z : n = 0
  · subst z; decide
  · have : n.natAbs < 2 ^ 8999 := by
      have e : ((n.natAbs : Nat) : Int) < ((2 ^ 8999 : Nat) : Int) := by
        rw [PySem.W.kbt_cast]; omega
      exact Int.ofNat_lt.mp e
    have := (Nat.log2_lt (by omega)).mpr this
    omega
theorem same_of {H G G1 : Hp} {st : Addr} (hs : H st = none) (e : Ex H G) (k : ∀ a o, a ≠ st → G a = some o → G1 a = some o) : Ex H G1 := fun a o h => k a o (fun z => by rw [z, hs] at h; cases h) (e a o h)
/-! ### rules with the written part by its own name -/
section
variable {X : Cx} {K : PySem.W.Frag} {e : Expr} {te : TE} {tg : Expr} {pos : Pos}
theorem kx_list (h : X.K = K := by rfl) : IxR X (rIxL K) := by subst h; exact ix_list
theorem kx_tup (h : X.K = K := by rfl) : IxR X (rIxT K) := by subst h; exact ix_tup
theorem kq_len (h : X.K = K := by rfl) : CallR X (.builtin "len") (rLenQ K) := by subst h; exact cq_len
theorem kq_list (h : X.K = K := by rfl) : CallR X (.type "list") (rListQ K) := by subst h; exact cq_list
theorem kq_tuple (h : X.K = K := by rfl) : CallR X (.type "tuple") (rTupQ K) := by subst h; exact cq_tuple
theorem kr_sum (h : X.K = K := by rfl) (hc : X.calm = true := by rfl) : CallR X (.builtin "sum") (rSum K) := by subst h; exact cr_sum hc
theorem kr_all (h : X.K = K := by rfl) (hc : X.calm = true := by rfl) : CallR X (.builtin "all") (rAll K) := by subst h; exact cr_all hc
theorem kr_any (h : X.K = K := by rfl) (hc : X.calm = true := by rfl) : CallR X (.builtin "any") (rAny K) := by subst h; exact cr_any hc
theorem kr_isi (h : X.K = K := by rfl) : CallR X (.builtin "isinstance") (rIsi K) := by subst h; exact call_isi
theorem kp_eqD (hu : X.A.units + 64 < cLine) (h : X.K = K := by rfl) : OpR X (compareOp .Eq) (rEqD K) := by subst h; exact op_eqD hu
theorem kp_neD (hu : X.A.units + 64 < cLine) (h : X.K = K := by rfl) : OpR X (compareOp .NotEq) (rNeD K) := by subst h; exact op_neD hu
theorem kp_catT (h : X.K = K := by rfl) : OpR X (binaryOp .Add) (rCatT K) := by subst h; exact op_catT
theorem kp_in (h : X.K = K := by rfl) : OpR X (compareOp .In) (rIn K false) := by subst h; exact op_in_seq
theorem kp_notIn (h : X.K = K := by rfl) : OpR X (compareOp .NotIn) (rIn K true) := by subst h; exact op_notIn_seq
theorem kl_list (h : X.K = K := by rfl) : SlR X (rSlL K) := by subst h; exact sl_list
theorem kl_tup (h : X.K = K := by rfl) : SlR X (rSlT K) := by subst h; exact sl_tup
theorem ke_fld {f : Str} (he : PE X e te) (hb : attributeBase e f X.env (eval e X.env) = eval e X.env := by rfl) (h : X.K = K := by rfl) : PE X (.Attribute e f pos) (tFld K te f) := by subst h; exact pe_fld he hb
theorem ki_list (hl : PE X e te) (h : X.K = K := by rfl) : PI X tg e (iList K te) := by subst h; exact pi_list hl
theorem ki_tup (hl : PE X e te) (h : X.K = K := by rfl) : PI X tg e (iTup K te) := by subst h; exact pi_tup hl
theorem ka_star {es : List Expr} {t : TA} {p : Pos} (he : PE X e te) (hr : PA X es t) (hs : starEach (.Starred e p :: es) X.env = (true, eval e X.env) :: starEach es X.env := by rfl) (h : X.K = K := by rfl) : PA X (.Starred e p :: es) (tStar K te t) := by subst h; exact pa_star he hr hs
end
/-! ### a list or a tuple -/
def SqS (K : PySem.W.Frag) (H : Hp) (a : Addr) (xs : List V) : Prop := SqL K H a xs ∨ SqT K H a xs
theorem ex_s {K : PySem.W.Frag} {H H' : Hp} {a : Addr} {xs : List V} (e : Ex H H') (h : SqS K H a xs) : SqS K H' a xs := h.elim (fun h => .inl (ex_l e h)) fun h => .inr (ex_t e h)
def iOr (w1 w2 : TI) : TI := fun σ H R => w1 σ H R ∨ w2 σ H R
theorem pi_or {X : Cx} {tg e : Expr} {w1 w2 : TI} (h1 : PI X tg e w1) (h2 : PI X tg e w2) : PI X tg e (iOr w1 w2) := ⟨fun pins s σ H R I h => h.elim (h1.run pins s σ H R I) (h2.run pins s σ H R I)⟩
def iSeq (K : PySem.W.Frag) (tl : TE) : TI := iOr (iList K tl) (iTup K tl)
theorem ki_seq {X : Cx} {K : PySem.W.Frag} {tg e : Expr} {te : TE} (hl : PE X e te) (h : X.K = K := by rfl) : PI X tg e (iSeq K te) := pi_or (ki_list hl h) (ki_tup hl h)
section
variable {U : Vx} {σ : L2.St} {G : Hp} {Q : VK} {K : PySem.W.Frag} {tl te ta : TE} {tt : TT} {g : TG} {ts : TS} {D : Ends}
/-- over a list or tuple of B, which stays -/
theorem sm_forS {a : Addr} {xs : List V} {B : Hp} (P : Nat → L2.St → Hp → Prop) (hx : SqS K B a xs) (hB : Ex B G) (h : EM U tl σ G fun v G1 => v = .ref a ∧ G1 = G) (h0 : P 0 σ G) (hp : ∀ i σ' G', P i σ' G' → Ex B G')
    (hs : ∀ i x σ' G', xs[i]? = some x → P i σ' G' → GM U g x σ' G' fun σ2 G2 => SM U ts ⟨KJ U (P (i + 1)), D.rt, D.nx, KJ U (P (i + 1))⟩ σ2 G2) (hd : ∀ σ' G', P xs.length σ' G' → KM U D.nx σ' G') : SM U (tFor (iSeq K tl) g ts) D σ G := by
  rcases hx with hx | hx
  · have k : SM U (tFor (iList K tl) g ts) D σ G := sm_forL (fun H j QH q => h H j QH fun v H' G1 j1 ⟨e, eg⟩ => q v H' G1 j1 ⟨a, xs, e, by rw [eg]; exact ex_l hB hx, P, by rw [eg]; exact h0, fun i σ' G' _ p => ex_l (hp i σ' G' p) hx, hs, hd⟩)
    exact fun H j => .inl (k H j)
  · have k : SM U (tFor (iTup K tl) g ts) D σ G := sm_forT (fun H j QH q => h H j QH fun v H' G1 j1 ⟨e, eg⟩ => q v H' G1 j1 ⟨a, xs, e, by rw [eg]; exact ex_t hB hx, P, by rw [eg]; exact h0, fun i σ' G' _ p => ex_t (hp i σ' G' p) hx, hs, hd⟩)
    exact fun H j => .inr (k H j)
theorem rm_lenS {p : Addr} {ys : List V} (h : SqS K G p ys) (k : Q (.int ys.length) G) : RM U (rLenQ K [.ref p]) G Q := h.elim (fun h => rm_lenL h k) fun h => rm_lenT h k
theorem rm_tupS {p : Addr} {ys : List V} (h : SqS K G p ys) (k : ∀ l G', Ex G G' → SqT K G' l ys → Q (.ref l) G') : RM U (rTupQ K [.ref p]) G Q :=
  h.elim (fun h => rm_tupL h fun l G' _ e g => k l G' e (st_of g)) fun h => rm_tupT h (k p G (Ex.refl G) h)
/-! ### making -/
theorem J.writeX {H G H' : Hp} {p : Addr} {o' : HO} (j : J U H G) (hk : ∀ b o, b ≠ p → H b = some o → H' b = some o) (hp : H' p = some o') (h : ∃ o, G p = some o) (g : U.Ge p = none) : J U H' (upd G p o') := by
  obtain ⟨o, h⟩ := h
  exact {
    up := fun a u e => by
      by_cases z : a = p
      · subst z; rw [upd_same] at e; rw [hp]; exact e
      · rw [upd_ne z] at e; exact hk a u z (j.up a u e)
    keep := fun a u e => by
      have : a ≠ p := fun z => by
        subst z
        rw [j.new a (by rw [h]; exact fun q => by cases q) g] at e; cases e
      exact hk a u this (j.keep a u e)
    new := fun a e q => by
      by_cases z : a = p
      · subst z; exact j.new a (by rw [h]; exact fun q => by cases q) q
      · rw [upd_ne z] at e; exact j.new a e q
    hid := U.st H _ j.hid fun a ma => by
      have q := (j.msk a ma)
      have : a ≠ p := fun z => by subst z; rw [h] at q; cases q.1
      cases z : H a with
      | none => exact absurd z q.2
      | some o => rw [hk a o this z]
    msk := fun a ma => by
      obtain ⟨q1, q2⟩ := j.msk a ma
      have : a ≠ p := fun z => by subst z; rw [h] at q1; cases q1
      rw [upd_ne this]
      refine ⟨q1, ?_⟩
      cases z : H a with
      | none => exact absurd z q2
      | some o => rw [hk a o this z]; exact fun q => by cases q }
theorem em_makeI {C : Addr} {fs : List (Str × V)} {sp : Sp} {E : XK} {tas : TA} (h : AM U tas σ G fun vs G1 => (∀ x dx H QI EI, H x = some (.ins C dx []) → (∀ H', (∀ b o, b ≠ x → H b = some o → H' b = some o) → H' x = some (.ins C dx fs) → QI .non H') → sp (.ref x :: vs) H QI EI) ∧
    ∀ x dx G2, G1 x = none → Ex G1 G2 → G2 x = some (.ins C dx fs) → Q (.ref x) G2) : EM U (tMake C sp [] E tas) σ G Q := fun H j QH q =>
  h H j _ fun vs H1 G1 j1 ⟨hi, hk⟩ x dx nx ndx ne => by
    show sp (.ref x :: (vs ++ [])) _ _ _
    rw [List.append_nil]
    have n2 : upd H1 dx (.own x) x = none := by rw [upd_ne (Ne.symm ne)]; exact nx
    have j2 := (j1.alloc (o := .own x) ndx).alloc (o := .ins C dx []) n2
    refine hi x dx _ _ _ upd_same fun H' hk' hx' => ⟨rfl, ?_⟩
    have gx : U.Ge x = none ∨ U.Ge x ≠ none := by cases U.Ge x <;> simp
    have gn : G1 x = none := j1.free nx
    refine q _ H' _ (?_ : J U H' (upd (upd G1 dx (.own x)) x (.ins C dx fs))) (hk x dx _ gn (fun a o e => ?_) upd_same)
    · have e1 : upd (upd (upd G1 dx (.own x)) x (.ins C dx [])) x (.ins C dx fs) = upd (upd G1 dx (.own x)) x (.ins C dx fs) := upd_upd
      exact {
        up := fun a u e => by
          by_cases z : a = x
          · subst z; rw [upd_same] at e; rw [hx']; exact e
          · rw [upd_ne z] at e; exact hk' a u z (j2.up a u (by rw [upd_ne z]; exact e))
        keep := fun a u e => by
          have e0 := j1.keep a u e
          have na : a ≠ x := ne_of_none e0 nx
          exact hk' a u na (j2.keep a u e)
        new := fun a e q => by
          by_cases z : a = x
          · subst z; exact none_of_ex j1.keep nx
          · exact j2.new a (by rw [upd_ne z] at e ⊢; exact e) q
        hid := U.st _ _ j2.hid fun a ma => by
          have q := j2.msk a ma
          have na : a ≠ x := fun z => by subst z; rw [upd_same] at q; cases q.1
          cases z : upd (upd H1 dx (HO.own x)) x (HO.ins C dx []) a with
          | none => exact absurd z q.2
          | some o => rw [hk' a o na z]
        msk := fun a ma => by
          obtain ⟨q1, q2⟩ := j2.msk a ma
          have na : a ≠ x := fun z => by subst z; rw [upd_same] at q1; cases q1
          refine ⟨by rw [upd_ne na] at q1 ⊢; exact q1, ?_⟩
          cases z : upd (upd H1 dx (HO.own x)) x (HO.ins C dx []) a with
          | none => exact absurd z q2
          | some o => rw [hk' a o na z]; exact fun q => by cases q }
    · have na : a ≠ x := ne_of_none e gn
      have nd : a ≠ dx := ne_of_none e (j1.free ndx)
      rw [upd_ne na, upd_ne nd]; exact e
/-! ### a law's own defs that draw -/
end
def spS (K : PySem.W.Frag) (pre : List V → Hp → Prop) (post : List V → V → Hp → Prop) : Sp := fun vs H Q _ => ∃ (st sc : Addr) (ns : List Int) (rest : List V) (G : Hp), vs = .ref st :: .ref sc :: rest ∧ StAt H st ∧ G st = none ∧ Ex G H ∧ SqL K G sc (ns.map V.int) ∧ pre rest G ∧
  ∀ v H' G', (∀ x o, x ≠ st → H x = some o → H' x = some o) → StAt H' st → Ex G G' → Ex G' H' → (∀ a, G' a ≠ none → G a = none → H a = none) → G' st = none → post rest v G' → Q v H'
/-- the view of such a def -/
def VS (st : Addr) (H G : Hp) : Vx := ⟨wo st H, G, fun H' => StAt H' st, fun a => a = st, fun H1 H2 ⟨a, b, e, h⟩ k => ⟨a, b, by rw [k st rfl]; exact e, h⟩⟩
theorem VS.draw {st : Addr} {H G : Hp} : DrawOk (VS st H G) st := ⟨rfl, wo_same, fun _ i => i, fun _ _ _ _ s => s⟩
theorem VS.start {st : Addr} {H G : Hp} (s : StAt H st) (g : G st = none) (e : Ex G H) : J (VS st H G) H G := ⟨e, wo_ex, fun a q z => absurd z q, s, fun a z => by
  have z' : a = st := z
  subst z'
  obtain ⟨x, y, h, _⟩ := s
  exact ⟨g, by rw [h]; exact fun q => by cases q⟩⟩
section
variable {U : Vx} {σ : L2.St} {G : Hp} {Q : VK} {K : PySem.W.Frag}
theorem kv_s {st : Addr} {H0 G0 : Hp} {p : V → Hp → Prop} {v : V} (k : ∀ v H' G', (∀ x o, x ≠ st → H0 x = some o → H' x = some o) → StAt H' st → Ex G0 G' → Ex G' H' → (∀ a, G' a ≠ none → G0 a = none → H0 a = none) → G' st = none → p v G' → Q v H') (e : Ex G0 G) (h : p v G) : KV (VS st H0 G0) Q v G := fun H j =>
  k v H G (fun x o nx ex => j.keep x o (by show wo st H0 x = some o; rw [wo_ne nx]; exact ex)) j.hid e j.up (fun a q z => by
    have n := j.new a q z
    have na : a ≠ st := fun w => by subst w; exact q (j.msk a rfl).1
    have n' : wo st H0 a = none := n
    rw [wo_ne na] at n'; exact n') (j.msk st rfl).1 h
theorem cm_s {pre : List V → Hp → Prop} {post : List V → V → Hp → Prop} {st sc : Addr} {ns : List Int} {rest : List V} (d : DrawOk U st) (hs : SqL K G sc (ns.map V.int)) (h : pre rest G) (k : ∀ v G', Ex G G' → post rest v G' → Q v G') : CM U (spS K pre post) (.ref st :: .ref sc :: rest) G Q := fun H j QH q E => by
  have gs := (j.msk st d.m).1
  refine ⟨st, sc, ns, rest, G, rfl, d.at_ H j.hid, gs, j.up, hs, h, fun v H' G' hx hst e1 e2 hn gn hp => q v H' G' ?_ (k v G' e1 hp)⟩
  obtain ⟨a0, b0, est, _⟩ := hst
  exact {
    up := e2
    keep := fun x o ex => hx x o (fun z => by subst z; rw [d.ne] at ex; cases ex) (j.keep x o ex)
    new := fun a z g => by
      cases w : G a with
      | none => exact none_of_ex j.keep (hn a z w)
      | some o => exact j.new a (by rw [w]; exact fun q => by cases q) g
    hid := d.to H H' j.hid (fun x mx nx => by
      cases z : H x with
      | none => exact absurd z (j.msk x mx).2
      | some o => exact hx x o nx z) ⟨a0, b0, est, by assumption⟩
    msk := fun x mx => by
      refine ⟨?_, ?_⟩
      · cases z : G' x with
        | none => rfl
        | some o => exact absurd (hn x (by rw [z]; exact fun q => by cases q) (j.msk x mx).1) (j.msk x mx).2
      · by_cases nx : x = st
        · subst nx; rw [est]; exact fun q => by cases q
        · cases z : H x with
          | none => exact absurd z (j.msk x mx).2
          | some o => rw [hx x o nx z]; exact fun q => by cases q }
end
/-! ### promises over a datum -/
def spA {α : Type} (pre : α → List V → Hp → Prop) (post : α → V → Hp → Prop) : Sp := fun vs H Q _ => ∃ (x : α) (G : Hp), Ex G H ∧ pre x vs G ∧ ∀ v H' G', Ex H H' → Ex G G' → Ex G' H' → (∀ a, G' a ≠ none → G a = none → H a = none) → post x v G' → Q v H'
def spSA {α : Type} (K : PySem.W.Frag) (pre : α → List V → Hp → Prop) (post : α → V → Hp → Prop) : Sp := fun vs H Q _ => ∃ (x : α) (st sc : Addr) (ns : List Int) (rest : List V) (G : Hp), vs = .ref st :: .ref sc :: rest ∧ StAt H st ∧ G st = none ∧ Ex G H ∧ SqL K G sc (ns.map V.int) ∧ pre x rest G ∧
  ∀ v H' G', (∀ x o, x ≠ st → H x = some o → H' x = some o) → StAt H' st → Ex G G' → Ex G' H' → (∀ a, G' a ≠ none → G a = none → H a = none) → G' st = none → post x v G' → Q v H'
section
variable {U : Vx} {σ : L2.St} {G : Hp} {Q : VK} {K : PySem.W.Frag} {α : Type}
theorem cm_a {pre : α → List V → Hp → Prop} {post : α → V → Hp → Prop} {vs : List V} (x : α) (h : pre x vs G) (k : ∀ v G', Ex G G' → post x v G' → Q v G') : CM U (spA pre post) vs G Q := fun H j QH q E =>
  ⟨x, G, j.up, h, fun v H' G' e1 e2 e3 n p => q v H' G' (j.call e1 e3 n) (k v G' e2 p)⟩
theorem cm_sa {pre : α → List V → Hp → Prop} {post : α → V → Hp → Prop} {st sc : Addr} {ns : List Int} {rest : List V} (x : α) (d : DrawOk U st) (hs : SqL K G sc (ns.map V.int)) (h : pre x rest G) (k : ∀ v G', Ex G G' → post x v G' → Q v G') : CM U (spSA K pre post) (.ref st :: .ref sc :: rest) G Q := fun H j QH q E =>
  have c := cm_s (K := K) (pre := pre x) (post := fun _ => post x) d hs h k H j QH q E
  let ⟨st', sc', ns', rest', G', e, r⟩ := c
  ⟨x, st', sc', ns', rest', G', e, r⟩
end
theorem ifNT {A B : Prop} (h : B) : if (!true) = true then A else B := h
theorem ifNF {A B : Prop} (h : A) : if (!false) = true then A else B := h
theorem kg_tup {X : Cx} {K : PySem.W.Frag} {es : List Expr} {k n : Nat} {t : TGs} {pos : Pos} (hc : X.calm = true) (h : PGs X es t) (hn : (assignEach es X.env).length = n := by rfl) (hst : (assignEach es X.env).findIdx? (·.1) = none := by rfl) (hk : X.K = K := by rfl) : PG X (.Tuple es k pos) (gTup K n t) := by
  subst hk; exact pg_tup hc h hn hst
section
variable {U : Vx} {σ : L2.St} {G : Hp} {Q : VK} {K : PySem.W.Frag} {QG : L2.St → Hp → Prop} {g : TG} {gs : TGs}
def GsM (U : Vx) (g : TGs) (vs : List V) (σ : L2.St) (G : Hp) (Q : L2.St → Hp → Prop) : Prop := ∀ H, J U H G → ∀ QH : L2.St → Hp → Prop, (∀ σ' H' G', J U H' G' → Q σ' G' → QH σ' H') → g vs σ H QH
theorem gm_tup {a : Addr} {xs : List V} {n : Nat} (h : SqT K G a xs) (hl : xs.length = n) (k : GsM U gs xs σ G QG) : GM U (gTup K n gs) (.ref a) σ G QG := fun H j QH q => ⟨a, xs, rfl, ex_t j.up h, hl, k H j QH q⟩
theorem gs_nil (k : QG σ G) : GsM U gNil [] σ G QG := fun H j QH q => ⟨rfl, q _ _ _ j k⟩
theorem gs_cons {v : V} {vs : List V} (k : GM U g v σ G fun σ' G' => GsM U gs vs σ' G' QG) : GsM U (gCons g gs) (v :: vs) σ G QG := fun H j QH q => ⟨v, vs, rfl, k H j _ fun σ' H' G' j' k' => k' H' j' QH q⟩
end
section
variable {U : Vx} {σ : L2.St} {G : Hp} {Q : VK} {K : PySem.W.Frag} {te : TE} {tt : TT}
/-- over a tuple that stands -/
theorem em_lcT {tl : TE} {g : TG} {vs : List Nat} (h : EM U tl σ G fun w G1 => ∃ a xs, w = .ref a ∧ SqT K G1 a xs ∧ xs.length < 16000000 ∧ ∃ P : Nat → List V → Hp → Prop, P 0 [] G1 ∧ (∀ i acc G', P i acc G' → acc.length ≤ i ∧ SqT K G' a xs) ∧
    (∀ (i : Nat) x acc G' (D : Addr) (U' : Vx), U' = U.hide D (.lst acc) → ¬ U.m D → xs[i]? = some x → P i acc G' → GM U' g x (wipe σ vs) G' fun σ2 G0 => wipe σ2 vs = wipe σ vs ∧ TM U' tt σ2 G0 fun b G2 => if b = true then EM U' te σ2 G2 fun y G3 => P (i + 1) (acc ++ [y]) G3 else P (i + 1) acc G2) ∧
    (∀ acc D G' G'', P xs.length acc G' → Ex G' G'' → G' D = none → G'' D = some (.lst acc) → Q (.ref D) G'')) : EM U (tLc (iTup K tl) g tt te vs) σ G Q := fun H j QH q =>
  h H j _ fun w H1 G1 j1 ⟨a, xs, e, hx, hlen, P, h0, hz, hs, hd⟩ => ⟨a, e, ⟨xs, ex_t j1.up hx⟩, fun D hD => by
    have nm : ¬ U.m D := fun z => (j1.msk D z).2 hD
    have nh : U.He D = none := none_of_ex j1.keep hD
    refine lc_tup (K := K) (a := a) (xs := xs) (fun i H' => i ≤ xs.length ∧ ∃ acc G', J (U.hide D (.lst acc)) H' G' ∧ P i acc G') ⟨Nat.zero_le _, [], G1, ?_, h0⟩ (fun i H' _ ⟨_, acc, G', j', p⟩ => ex_t j'.up (hz i acc G' p).2) (fun i x H' hi ⟨_, acc, G', j', p⟩ => ?_) (fun H' ⟨_, acc, G', j', p⟩ => ?_)
    · have ja := j1.alloc (o := .lst []) hD
      refine ⟨fun a u e => ?_, ja.keep, j1.new, ⟨ja.hid, upd_same⟩, fun a ma => ?_⟩
      · rw [upd_ne (fun z => by subst z; rw [j1.free hD] at e; cases e)]; exact j1.up a u e
      · rcases ma with ma | rfl
        · obtain ⟨q1, q2⟩ := j1.msk a ma
          refine ⟨q1, ?_⟩
          rw [upd_ne (fun z => by subst z; exact q2 hD)]; exact q2
        · exact ⟨j1.free hD, by rw [upd_same]; exact fun q => by cases q⟩
    · have hil : i < xs.length := (List.getElem?_eq_some_iff.mp hi).1
      refine hs i x acc G' D _ rfl nm hi p H' j' _ fun σ2 H2 G2 j2 ⟨w2, k2⟩ => ⟨w2, k2 H2 j2 _ fun b H3 G3 j3 h3 => ?_⟩
      cases b with
      | true =>
        rw [if_pos rfl] at h3 ⊢
        refine h3 H3 j3 _ fun y H4 G4 j4 h4 => ⟨acc, j4.hid.2, ?_, hil, acc ++ [y], G4, j4.rehide nm nh, h4⟩
        have := (hz i acc G' p).1
        exact Nat.lt_of_le_of_lt this (Nat.lt_of_lt_of_le (show i < 16000000 by omega) (by decide))
      | false =>
        rw [if_neg Bool.false_ne_true] at h3 ⊢
        exact ⟨hil, acc, G3, j3, h3⟩
    · have gd : G' D = none := (j'.msk D (.inr rfl)).1
      exact q _ _ _ (j'.unhide nm nh) (hd acc D G' _ p (Ex.new gd) gd upd_same)⟩
theorem em_mapT {tl : TE} {g : TG} {vs : List Nat} (v : V → V) (h : EM U tl σ G fun w G1 => ∃ a xs, w = .ref a ∧ SqT K G1 a xs ∧ xs.length < 16000000 ∧
    (∀ (i : Nat) x G' (U' : Vx), Ex G1 G' → xs[i]? = some x → GM U' g x (wipe σ vs) G' fun σ2 G2 => wipe σ2 vs = wipe σ vs ∧ Ex G' G2 ∧ EM U' te σ2 G2 fun y G3 => y = v x ∧ Ex G2 G3) ∧
    (∀ D G'', Ex G1 G'' → G1 D = none → G'' D = some (.lst (xs.map v)) → Q (.ref D) G'')) : EM U (tLc (iTup K tl) g tYes te vs) σ G Q := by
  refine em_lcT (fun H j QH q => h H j QH fun w H' G1 j1 ⟨a, xs, e, hx, hlen, hs, hd⟩ => q w H' G1 j1 ⟨a, xs, e, hx, hlen, fun i acc G' => i ≤ xs.length ∧ acc = (xs.take i).map v ∧ Ex G1 G', ⟨Nat.zero_le _, rfl, Ex.refl G1⟩, fun i acc G' p => ⟨by rw [p.2.1, List.length_map, List.length_take]; omega, ex_t p.2.2 hx⟩, ?_, ?_⟩)
  · intro i x acc G' D U' _ _ hi ⟨p0, p1, p2⟩ H j QT qt
    have hil : i < xs.length := (List.getElem?_eq_some_iff.mp hi).1
    refine hs i x G' U' p2 hi H j _ fun σ2 H1 G2 j1 ⟨hw, e1, k⟩ => qt σ2 H1 G2 j1 ⟨hw, tm_yes ?_⟩
    rw [if_pos rfl]
    intro H2 j2 QE qe
    refine k H2 j2 _ fun y H3 G3 j3 ⟨hy, e3⟩ => qe y H3 G3 j3 ⟨hil, ?_, (p2.trans e1).trans e3⟩
    rw [p1, hy, List.take_add_one, hi]
    simp
  · intro acc D G' G'' ⟨_, p1, p2⟩ e g1 g2
    refine hd D G'' (p2.trans e) (none_of_ex p2 g1) ?_
    rw [p1, List.take_length] at g2; exact g2
end
/-! ### slices, None, texts -/
section
variable {U : Vx} {σ : L2.St} {G : Hp} {Q : VK} {K : PySem.W.Frag} {te : TE} {tl th : TO} {x : V}
def OM (U : Vx) (to : TO) (σ : L2.St) (G : Hp) (Q : Option Int → Hp → Prop) : Prop := ∀ H, J U H G → ∀ QH : Option Int → Hp → Prop, (∀ v H' G', J U H' G' → Q v G' → QH v H') → to σ H QH
theorem om_none {QO : Option Int → Hp → Prop} (k : QO none G) : OM U tNoPart σ G QO := fun H j QH q => q _ _ _ j k
theorem om_some {QO : Option Int → Hp → Prop} (h : EM U te σ G fun x G1 => IV x fun i => QO (some i) G1) : OM U (tPart te) σ G QO := fun H j QH q => h H j _ fun x H1 G1 j1 ⟨i, e, k⟩ => ⟨i, e, q _ _ _ j1 k⟩
theorem em_sl {r : V → Option Int → Option Int → Hp → VK → Prop} (h : EM U te σ G fun x G1 => OM U tl σ G1 fun l G2 => OM U th σ G2 fun u G3 => RM U (r x l u) G3 Q) : EM U (tSl r te tl th) σ G Q := fun H j QH q =>
  h H j _ fun x H1 G1 j1 h1 => h1 H1 j1 _ fun l H2 G2 j2 h2 => h2 H2 j2 _ fun u H3 G3 j3 h3 => h3 H3 j3 QH q
theorem rm_slT {a : Addr} {xs : List V} {lo hi : Option Int} (h : SqT K G a xs) (hn : ¬ (HT.sIx xs.length 0 lo = 0 ∧ HT.sIx xs.length xs.length hi = xs.length)) (k : ∀ p G', Ex G G' → G' p = some (.tup (cutV xs lo hi)) → Q (.ref p) G') : RM U (rSlT K (.ref a) lo hi) G Q :=
  fun H j _ q => ⟨a, xs, rfl, ex_t j.up h, hn, fun p hp => q _ _ _ (j.alloc hp) (k p _ (Ex.new (j.free hp)) upd_same)⟩
theorem rm_slL {a : Addr} {xs : List V} {lo hi : Option Int} (h : SqL K G a xs) (k : ∀ p G', G p = none → Ex G G' → G' p = some (.lst (cutV xs lo hi)) → Q (.ref p) G') : RM U (rSlL K (.ref a) lo hi) G Q :=
  fun H j _ q => ⟨a, xs, rfl, ex_l j.up h, fun p hp => q _ _ _ (j.alloc hp) (k p _ (j.free hp) (Ex.new (j.free hp)) upd_same)⟩
theorem rm_isN_ref {a : Addr} (k : Q (.bl false) G) : RM U (rIsN (.ref a) .non) G Q := fun H j _ q => ⟨rfl, q _ _ _ j k⟩
theorem rm_isN_non (k : Q (.bl true) G) : RM U (rIsN .non .non) G Q := fun H j _ q => ⟨rfl, q _ _ _ j k⟩
theorem rm_isN_int {i : Int} (k : Q (.bl false) G) : RM U (rIsN (.int i) .non) G Q := fun H j _ q => ⟨rfl, q _ _ _ j k⟩
theorem rm_notN_ref {a : Addr} (k : Q (.bl true) G) : RM U (rNotN (.ref a) .non) G Q := fun H j _ q => ⟨rfl, q _ _ _ j k⟩
theorem rm_notN_non (k : Q (.bl false) G) : RM U (rNotN .non .non) G Q := fun H j _ q => ⟨rfl, q _ _ _ j k⟩
theorem rm_notN_int {i : Int} (k : Q (.bl true) G) : RM U (rNotN (.int i) .non) G Q := fun H j _ q => ⟨rfl, q _ _ _ j k⟩
theorem rm_eqS {s t : Str} (k : Q (.bl (decide (s = t))) G) : RM U (rEq (.str s) (.str t)) G Q := rm_eq rfl (by
  have e : decide (V.str s = V.str t) = decide (s = t) := by simp
  rw [e]; exact k)
theorem rm_neS {s t : Str} (k : Q (.bl (!decide (s = t))) G) : RM U (rNe (.str s) (.str t)) G Q := rm_ne rfl (by
  have e : decide (V.str s = V.str t) = decide (s = t) := by simp
  rw [e]; exact k)
theorem rm_eqB {s t : Bool} (k : Q (.bl (decide (s = t))) G) : RM U (rEq (.bl s) (.bl t)) G Q := rm_eq rfl (by
  have e : decide (V.bl s = V.bl t) = decide (s = t) := by simp
  rw [e]; exact k)
theorem rm_neB {s t : Bool} (k : Q (.bl (!decide (s = t))) G) : RM U (rNe (.bl s) (.bl t)) G Q := rm_ne rfl (by
  have e : decide (V.bl s = V.bl t) = decide (s = t) := by simp
  rw [e]; exact k)
end
/-! ### one hidden object that a def may change, kept good -/
structure HidOk (U : Vx) (a : Addr) (P : HO → Prop) : Prop where
  m : U.m a
  ne : U.He a = none
  at_ : ∀ H, U.I H → ∃ o, H a = some o ∧ P o
  to : ∀ H H', U.I H → (∀ x, U.m x → x ≠ a → H' x = H x) → (∃ o, H' a = some o ∧ P o) → U.I H'
def Vx.hid (U : Vx) (a : Addr) (P : HO → Prop) : Vx := ⟨U.He, U.Ge, fun H => U.I H ∧ ∃ o, H a = some o ∧ P o, fun x => U.m x ∨ x = a, fun H H' ⟨i, o, h, p⟩ e => ⟨U.st H H' i fun x mx => e x (.inl mx), o, by rw [e a (.inr rfl)]; exact h, p⟩⟩
theorem HidOk.self {U : Vx} {a : Addr} {P : HO → Prop} (hm : ¬ U.m a) (hn : U.He a = none) : HidOk (U.hid a P) a P where
  m := .inr rfl
  ne := hn
  at_ := fun _ i => i.2
  to := fun H H' i e h => ⟨U.st H H' i.1 fun x mx => e x (.inl mx) (fun z => by subst z; exact hm mx), h⟩
theorem HidOk.hide {U : Vx} {a D : Addr} {P : HO → Prop} {o : HO} (d : HidOk U a P) (h : ¬ U.m D) : HidOk (U.hide D o) a P where
  m := .inl d.m
  ne := d.ne
  at_ := fun H i => d.at_ H i.1
  to := fun H H' i e s => ⟨d.to H H' i.1 (fun x mx nx => e x (.inl mx) nx) s, by
    rw [e D (.inr rfl) (fun z => by subst z; exact h d.m)]; exact i.2⟩
theorem DrawOk.hid {U : Vx} {st D : Addr} {P : HO → Prop} (d : DrawOk U st) (h : ¬ U.m D) : DrawOk (U.hid D P) st where
  m := .inl d.m
  ne := d.ne
  at_ := fun H i => d.at_ H i.1
  to := fun H H' i e s => ⟨d.to H H' i.1 (fun x mx nx => e x (.inl mx) nx) s, by
    rw [e D (.inr rfl) (fun z => by subst z; exact h d.m)]; exact i.2⟩
def spM {α : Type} (hid : α → Addr) (P : α → HO → Prop) (pre : α → List V → Hp → Prop) (post : α → V → Hp → Prop) : Sp := fun vs H Q _ => ∃ (x : α) (G : Hp) (o : HO), H (hid x) = some o ∧ P x o ∧ G (hid x) = none ∧ Ex G H ∧ pre x vs G ∧
  ∀ v H' G' o', (∀ y u, y ≠ hid x → H y = some u → H' y = some u) → H' (hid x) = some o' → P x o' → Ex G G' → Ex G' H' → (∀ a, G' a ≠ none → G a = none → H a = none) → G' (hid x) = none → post x v G' → Q v H'
def VM (a : Addr) (P : HO → Prop) (H G : Hp) : Vx := ⟨wo a H, G, fun H' => ∃ o, H' a = some o ∧ P o, fun x => x = a, fun H1 H2 ⟨o, e, h⟩ k => ⟨o, by rw [k a rfl]; exact e, h⟩⟩
theorem VM.ok {a : Addr} {P : HO → Prop} {H G : Hp} : HidOk (VM a P H G) a P := ⟨rfl, wo_same, fun _ i => i, fun _ _ _ _ s => s⟩
theorem VM.start {a : Addr} {P : HO → Prop} {H G : Hp} {o : HO} (h : H a = some o) (p : P o) (g : G a = none) (e : Ex G H) : J (VM a P H G) H G := ⟨e, wo_ex, fun x q z => absurd z q, ⟨o, h, p⟩, fun x z => by
  have z' : x = a := z
  subst z'
  exact ⟨g, by rw [h]; exact fun q => by cases q⟩⟩
section
variable {U : Vx} {σ : L2.St} {G : Hp} {Q : VK} {K : PySem.W.Frag} {α : Type}
theorem kv_m {a : Addr} {P : HO → Prop} {H0 G0 : Hp} {p : V → Hp → Prop} {v : V} (k : ∀ v H' G' o', (∀ y u, y ≠ a → H0 y = some u → H' y = some u) → H' a = some o' → P o' → Ex G0 G' → Ex G' H' → (∀ x, G' x ≠ none → G0 x = none → H0 x = none) → G' a = none → p v G' → Q v H') (e : Ex G0 G) (h : p v G) : KV (VM a P H0 G0) Q v G := fun H j => by
  obtain ⟨o, ho, po⟩ := j.hid
  refine k v H G o (fun x o nx ex => j.keep x o (by show wo a H0 x = some o; rw [wo_ne nx]; exact ex)) ho po e j.up (fun x q z => ?_) (j.msk a rfl).1 h
  have n := j.new x q z
  have na : x ≠ a := fun w => by subst w; exact q (j.msk x rfl).1
  have n' : wo a H0 x = none := n
  rw [wo_ne na] at n'; exact n'
theorem J.hidden_call {a : Addr} {P : HO → Prop} {H H' G' : Hp} {o' : HO} (d : HidOk U a P) (j : J U H G) (hx : ∀ y u, y ≠ a → H y = some u → H' y = some u) (ho : H' a = some o') (hp : P o') (e2 : Ex G' H') (hn : ∀ x, G' x ≠ none → G x = none → H x = none) : J U H' G' where
  up := e2
  keep := fun x o ex => hx x o (fun z => by subst z; rw [d.ne] at ex; cases ex) (j.keep x o ex)
  new := fun x z g => by
    cases w : G x with
    | none => exact none_of_ex j.keep (hn x z w)
    | some o => exact j.new x (by rw [w]; exact fun q => by cases q) g
  hid := d.to H H' j.hid (fun x mx nx => by
    cases z : H x with
    | none => exact absurd z (j.msk x mx).2
    | some o => exact hx x o nx z) ⟨o', ho, hp⟩
  msk := fun x mx => by
    refine ⟨?_, ?_⟩
    · cases z : G' x with
      | none => rfl
      | some o => exact absurd (hn x (by rw [z]; exact fun q => by cases q) (j.msk x mx).1) (j.msk x mx).2
    · by_cases nx : x = a
      · subst nx; rw [ho]; exact fun q => by cases q
      · cases z : H x with
        | none => exact absurd z (j.msk x mx).2
        | some o => rw [hx x o nx z]; exact fun q => by cases q
theorem cm_m {hid : α → Addr} {P : α → HO → Prop} {pre : α → List V → Hp → Prop} {post : α → V → Hp → Prop} {vs : List V} (x : α) (d : HidOk U (hid x) (P x)) (h : pre x vs G) (k : ∀ v G', Ex G G' → post x v G' → Q v G') : CM U (spM hid P pre post) vs G Q := fun H j QH q E => by
  obtain ⟨o, ho, po⟩ := d.at_ H j.hid
  exact ⟨x, G, o, ho, po, (j.msk _ d.m).1, j.up, h, fun v H' G' o' hx ho' po' e1 e2 hn gn hp => q v H' G' (J.hidden_call d j hx ho' po' e2 hn) (k v G' e1 hp)⟩
/-- over enumerate(xs): a new pair each turn -/
theorem em_mapE {ta : TA} {te : TE} {i0 i1 : Nat} {vs : List Nat} (v : Nat → V → V) (h : AM U ta σ G fun ws G1 => ∃ a xs, ws = [.ref a] ∧ SqL K G1 a xs ∧ xs.length < 16000000 ∧
    (∀ x y, wipe (((wipe σ vs).set i0 (some x)).set i1 (some y)) vs = wipe σ vs) ∧
    (∀ (i : Nat) x G' (D : Addr) (acc : List V) (U' : Vx), U' = U.hide D (.lst acc) → ¬ U.m D → Ex G1 G' → xs[i]? = some x → EM U' te (((wipe σ vs).set i0 (some (.int (i : Int)))).set i1 (some x)) G' fun y G3 => y = v i x ∧ Ex G' G3) ∧
    (∀ D G'', Ex G1 G'' → G1 D = none → G'' D = some (.lst ((List.range xs.length).map fun i => v i (xs.getD i .non))) → Q (.ref D) G'')) : EM U (tLc (iEnum K ta) (gTup K 2 (gCons (gName i0) (gCons (gName i1) gNil))) tYes te vs) σ G Q := fun H j QH q =>
  h H j _ fun ws H1 G1 j1 ⟨a, xs, e, hx, hlen, hw, hs, hd⟩ => ⟨a, xs, e, ex_l j1.up hx, fun D hD => by
    have nm : ¬ U.m D := fun z => (j1.msk D z).2 hD
    have nh : U.He D = none := none_of_ex j1.keep hD
    have wk : Walk (Ite K a) xs.length (fun H => SqL K H a xs) (fun i H v H' => ∃ T x, v = .ref T ∧ H T = none ∧ H' = upd H T (.tup [.int (i : Nat), x]) ∧ xs[i]? = some x) :=
      ⟨fun i H hi hq => ⟨xs, xs[i], hq, by simp [hi]⟩, fun H hq => ⟨xs, hq, Nat.le_refl _⟩, fun i H x H' hi hq ⟨T, y, e1, e2, e3, e4⟩ => ⟨T, y, e1, e2, e3, e4 xs hq⟩⟩
    refine lc_it wk (fun i H' => i ≤ xs.length ∧ ∃ G', J (U.hide D (.lst ((List.range i).map fun i => v i (xs.getD i .non)))) H' G' ∧ Ex G1 G') ⟨Nat.zero_le _, G1, ?_, Ex.refl _⟩ (fun i H' _ ⟨_, G', j', e'⟩ => ex_l j'.up (ex_l e' hx)) (fun i x H' H'' hi ⟨_, G', j', e'⟩ ⟨T, y, ex, hT, eH, hy⟩ => ?_) (fun H' ⟨_, G', j', e'⟩ => ?_)
    · have ja := j1.alloc (o := .lst []) hD
      refine ⟨fun a u e => ?_, ja.keep, j1.new, ⟨ja.hid, upd_same⟩, fun a ma => ?_⟩
      · rw [upd_ne (fun z => by subst z; rw [j1.free hD] at e; cases e)]; exact j1.up a u e
      · rcases ma with ma | rfl
        · obtain ⟨q1, q2⟩ := j1.msk a ma
          refine ⟨q1, ?_⟩
          rw [upd_ne (fun z => by subst z; exact q2 hD)]; exact q2
        · exact ⟨j1.free hD, by rw [upd_same]; exact fun q => by cases q⟩
    · subst ex eH
      have jT := j'.alloc (o := .tup [.int (i : Nat), y]) hT
      have gT := j'.free hT
      have e2 : Ex G' (upd G' T (.tup [.int (i : Nat), y])) := Ex.new gT
      refine ⟨T, [.int (i : Nat), y], rfl, SqT.of upd_same, rfl, _, _, rfl, _, _, rfl, rfl, hw _ _, ?_⟩
      show (if true = true then te (((wipe σ vs).set i0 (some (.int (i : Int)))).set i1 (some y)) (upd H' T (.tup [.int (i : Nat), y])) (fun y H4 => ∃ acc, H4 D = some (.lst acc) ∧ acc.length < sizeLine ∧ (i + 1 ≤ xs.length ∧ ∃ G', J (U.hide D (.lst ((List.range (i + 1)).map fun i => v i (xs.getD i .non)))) (upd H4 D (.lst (acc ++ [y]))) G' ∧ Ex G1 G')) else (i + 1 ≤ xs.length ∧ ∃ G'', J (U.hide D (.lst ((List.range (i + 1)).map fun i => v i (xs.getD i .non)))) (upd H' T (.tup [.int (i : Nat), y])) G'' ∧ Ex G1 G''))
      rw [if_pos rfl]
      refine hs i y _ D _ _ rfl nm (e'.trans e2) hy _ jT _ fun z H4 G4 j4 ⟨ez, e4⟩ => ⟨_, j4.hid.2, ?_, hi, G4, ?_, (e'.trans e2).trans e4⟩
      · rw [List.length_map, List.length_range]
        exact Nat.lt_of_lt_of_le (show i < 16000000 by omega) (by decide)
      · have je := j4.rehide (o' := .lst (((List.range i).map fun i => v i (xs.getD i .non)) ++ [z])) nm nh
        have el : (List.range (i + 1)).map (fun i => v i (xs.getD i .non)) = ((List.range i).map fun i => v i (xs.getD i .non)) ++ [z] := by
          rw [List.range_succ, List.map_append, ez]
          show _ ++ [v i (xs.getD i .non)] = _
          rw [List.getD_eq_getElem?_getD, hy]
          rfl
        rw [el]; exact je
    · have gd : G' D = none := (j'.msk D (.inr rfl)).1
      exact q _ _ _ (j'.unhide nm nh) (hd D _ (e'.trans (Ex.new gd)) (none_of_ex e' gd) upd_same)⟩
end
theorem nodup_len {α : Type} [DecidableEq α] : ∀ (ks L : List α), ks.Nodup → (∀ k ∈ ks, k ∈ L) → ks.length ≤ L.length
  | [], _, _, _ => Nat.zero_le _
  | k :: ks, L, h, s => by
    have hk := s k (by simp)
    have h1 := List.nodup_cons.mp h
    have ih := nodup_len ks (L.erase k) h1.2 fun x hx => (List.mem_erase_of_ne (fun e => by subst e; exact h1.1 hx)).mpr (s x (by simp [hx]))
    rw [List.length_erase_of_mem hk] at ih
    have := List.length_pos_of_mem hk
    rw [List.length_cons]
    omega
/-! ### fields stored, objects hidden on the way, instances made with an object of their own -/
section
variable {U : Vx} {σ : L2.St} {G : Hp} {Q : VK} {K : PySem.W.Frag} {ta tv te : TE} {ts : TS} {D : Ends}
theorem em_newT (k : ∀ p G', G p = none → Ex G G' → G' p = some (.dT []) → Q (.ref p) G') : EM U tDNewT σ G Q := fun H j QH q p hp => q _ _ _ (j.alloc hp) (k p _ (j.free hp) (Ex.new (j.free hp)) upd_same)
theorem em_newK (k : ∀ p G', G p = none → Ex G G' → G' p = some (.dK []) → Q (.ref p) G') : EM U tDNewK σ G Q := fun H j QH q p hp => q _ _ _ (j.alloc hp) (k p _ (j.free hp) (Ex.new (j.free hp)) upd_same)
theorem sm_fld {f : Str} (h : EM U tv σ G fun y G1 => EM U ta σ G1 fun x G2 => ∃ a C dx fs, x = .ref a ∧ G2 a = some (.ins C dx fs) ∧ Cls K C ∧ NoAttr K C f ∧ fs.length < 1000 ∧ U.Ge a = none ∧ KM U D.nx σ (upd G2 a (.ins C dx (putF f y fs)))) : SM U (sFld K ta tv f) D σ G := fun H j =>
  h H j _ fun y H1 G1 j1 h1 => h1 H1 j1 _ fun x H2 G2 j2 ⟨a, C, dx, fs, e, g, c, n, l, ge, k⟩ => ⟨a, C, dx, fs, e, j2.up _ _ g, c, n, l, k _ (j2.write g ge)⟩
theorem J.mask {H : Hp} {d : Addr} {P : HO → Prop} {o : HO} (j : J U H G) (h : G d = some o) (p : P o) (hn : U.Ge d = none) : J (U.hid d P) H (wo d G) where
  up := fun a u e => by
    by_cases z : a = d
    · rw [z, wo_same] at e; cases e
    · rw [wo_ne z] at e; exact j.up a u e
  keep := j.keep
  new := fun a q g => by
    by_cases z : a = d
    · rw [z, wo_same] at q; exact absurd rfl q
    · rw [wo_ne z] at q; exact j.new a q g
  hid := ⟨j.hid, o, j.up _ _ h, p⟩
  msk := fun a ma => by
    rcases ma with ma | rfl
    · obtain ⟨q1, q2⟩ := j.msk a ma
      refine ⟨?_, q2⟩
      by_cases z : a = d
      · rw [z, wo_same]
      · rw [wo_ne z]; exact q1
    · exact ⟨wo_same, by rw [j.up _ _ h]; exact fun q => by cases q⟩
/-- an object of the def's own is hidden from here on, kept good -/
theorem sm_hide {d : Addr} (P : HO → Prop) {o : HO} (h : G d = some o) (p : P o) (hn : U.Ge d = none) (k : ∀ G1, (∀ a u, a ≠ d → G a = some u → G1 a = some u) → G1 d = none → (¬ U.m d) → U.He d = none → SM (U.hid d P) ts D σ G1) : SM U ts D σ G := fun H j =>
  k (wo d G) (fun a u z e => by rw [wo_ne z]; exact e) wo_same (fun m => by have := (j.msk d m).1; rw [h] at this; cases this) (j.new d (by rw [h]; exact fun q => by cases q) hn) H (j.mask h p hn)
theorem em_make2 {C : Addr} {fs : Addr → List (Str × V)} {P : HO → Prop} {sp : Sp} {E : XK} {tas : TA} (h : AM U tas σ G fun vs G1 => (∀ x dx H QI EI, Ex G1 H → H x = some (.ins C dx []) → G1 x = none → (∀ H' d o, (∀ b u, b ≠ x → H b = some u → H' b = some u) → H d = none → H' d = some o → P o → H' x = some (.ins C dx (fs d)) → QI .non H') → sp (.ref x :: vs) H QI EI) ∧
    ∀ x dx d o G2, G1 x = none → G1 d = none → d ≠ x → Ex G1 G2 → G2 x = some (.ins C dx (fs d)) → G2 d = some o → P o → Q (.ref x) G2) : EM U (tMake C sp [] E tas) σ G Q := fun H j QH q =>
  h H j _ fun vs H1 G1 j1 ⟨hi, hk⟩ x dx nx ndx ne => by
    show sp (.ref x :: (vs ++ [])) _ _ _
    rw [List.append_nil]
    have n2 : upd H1 dx (.own x) x = none := by rw [upd_ne (Ne.symm ne)]; exact nx
    have j2 := (j1.alloc (o := .own x) ndx).alloc (o := .ins C dx []) n2
    have gn : G1 x = none := j1.free nx
    have gdx : G1 dx = none := j1.free ndx
    have e12 : Ex G1 (upd (upd H1 dx (.own x)) x (.ins C dx [])) := fun a o e => by
      rw [upd_ne (ne_of_none e gn), upd_ne (ne_of_none e gdx)]; exact j1.up a o e
    refine hi x dx _ _ _ e12 upd_same gn fun H' d o hk' hd hd' hp hx' => ⟨rfl, ?_⟩
    have dx1 : d ≠ x := fun z => by rw [z, upd_same] at hd; cases hd
    have dx2 : d ≠ dx := fun z => by rw [z, upd_ne ne, upd_same] at hd; cases hd
    have hd1 : H1 d = none := by rw [upd_ne dx1, upd_ne dx2] at hd; exact hd
    refine q _ H' (upd (upd (upd G1 dx (.own x)) x (.ins C dx (fs d))) d o) ?_ (hk x dx d o _ gn (j1.free hd1) dx1 (fun a u e => ?_) ?_ upd_same hp)
    · exact {
        up := fun a u e => by
          by_cases z : a = d
          · subst z; rw [upd_same] at e; rw [hd']; exact e
          · rw [upd_ne z] at e
            by_cases z2 : a = x
            · subst z2; rw [upd_same] at e; rw [hx']; exact e
            · rw [upd_ne z2] at e; exact hk' a u z2 (j2.up a u (by rw [upd_ne z2]; exact e))
        keep := fun a u e => by
          have e0 := j1.keep a u e
          exact hk' a u (ne_of_none e0 nx) (j2.keep a u e)
        new := fun a e q => by
          by_cases z : a = d
          · subst z; exact none_of_ex j1.keep hd1
          · by_cases z2 : a = x
            · subst z2; exact none_of_ex j1.keep nx
            · exact j2.new a (by rw [upd_ne z, upd_ne z2] at e; rw [upd_ne z2]; exact e) q
        hid := U.st _ _ j2.hid fun a ma => by
          have q := j2.msk a ma
          have na : a ≠ x := fun z => by subst z; rw [upd_same] at q; cases q.1
          cases z : upd (upd H1 dx (HO.own x)) x (HO.ins C dx []) a with
          | none => exact absurd z q.2
          | some o => rw [hk' a o na z]
        msk := fun a ma => by
          obtain ⟨q1, q2⟩ := j2.msk a ma
          have na : a ≠ x := fun z => by subst z; rw [upd_same] at q1; cases q1
          have nd : a ≠ d := fun z => by subst z; exact q2 hd
          refine ⟨by rw [upd_ne na] at q1; rw [upd_ne nd, upd_ne na]; exact q1, ?_⟩
          cases z : upd (upd H1 dx (HO.own x)) x (HO.ins C dx []) a with
          | none => exact absurd z q2
          | some o => rw [hk' a o na z]; exact fun q => by cases q }
    · rw [upd_ne (ne_of_none e (j1.free hd1)), upd_ne (ne_of_none e gn), upd_ne (ne_of_none e gdx)]; exact e
    · rw [upd_ne (Ne.symm dx1)]; exact upd_same
/-- [e for i in range(n)], the items told by the turn, where e may change what is hidden -/
theorem em_mapR1H {ta : TA} {i0 : Nat} {vs : List Nat} (v : Nat → V) (h : AM U ta σ G fun ws G1 => ∃ n : Int, ws = [.int n] ∧ 0 ≤ n ∧ n ≤ 16000000 ∧ (∀ x, wipe ((wipe σ vs).set i0 (some x)) vs = wipe σ vs) ∧
    (∀ (i : Nat) G' (D : Addr) (acc : List V) (U' : Vx), U' = U.hide D (.lst acc) → ¬ U.m D → Ex G1 G' → (i : Int) < n → EM U' te ((wipe σ vs).set i0 (some (.int (i : Int)))) G' fun y G3 => y = v i ∧ Ex G' G3) ∧
    (∀ D G'', Ex G1 G'' → G1 D = none → G'' D = some (.lst ((List.range n.toNat).map v)) → Q (.ref D) G'')) : EM U (tLc (iRng1 ta) (gName i0) tYes te vs) σ G Q := by
  refine em_lcR1 (fun H j QH q => h H j QH fun ws H' G1 j1 ⟨n, e, b1, b2, hw, hs, hd⟩ => q ws H' G1 j1 ⟨n, e, b1, b2, hw, fun i acc G' => acc = (List.range i).map v ∧ Ex G1 G', ⟨rfl, Ex.refl G1⟩, fun i acc G' p => by rw [p.1]; simp, ?_, ?_⟩)
  · intro i acc G' D U' hU hm hi ⟨p1, p2⟩
    refine tm_yes ?_
    rw [if_pos rfl]
    intro H j QE qe
    refine hs i G' D acc U' hU hm p2 hi H j _ fun y H3 G3 j3 ⟨hy, e3⟩ => qe y H3 G3 j3 ⟨?_, p2.trans e3⟩
    rw [List.range_succ, List.map_append, p1, hy]; rfl
  · intro acc D G' G'' ⟨p1, p2⟩ e g1 g2
    refine hd D G'' (p2.trans e) (none_of_ex p2 g1) ?_
    rw [← p1]; exact g2
end
section
open PySem.Spec PyProof.Rows
/-! ### enumerate(tuple) -/
section
open PySem.AutoSeq1 (wpAny_loadPart')
theorem meets_enumerate_newT (l : Addr) (items : Array Value) (n : Nat) (dct : Option Addr) (sl : Array (Option Value)) :
    Meets (Builtin.«enumerate.__new__» ⟨[.type "enumerate", .ref l], []⟩) (fun _ R s => s.heap.get? l = some { cls := .type "tuple", dict := dct, data := .seq items n, slots := sl } ∧
      R (.ok (.ret (.ref (s.heap.push { cls := .type "tuple_iterator", data := .fields #[.ref l, .int 0 0] }).objs.size)))
        { s with heap := (s.heap.push { cls := .type "tuple_iterator", data := .fields #[.ref l, .int 0 0] }).push { cls := .type "enumerate", data := .fields #[.none, .bool false, .ref s.heap.objs.size, rawInt 0, .none, .none] } }) :=
  .of_wp fun prog w A R s h => by
    obtain ⟨hp, g, d, tk, os⟩ := s; obtain ⟨hl, h⟩ := h
    have hsub := sub_enumerate
    have hL : Heap.IsTuple (Shared.heap ⟨hp, g, d, tk, os⟩) l items := ⟨_, hl, rfl, n, rfl⟩
    wp_walk using wpAny_loadPart' hl
    refine wpAny_stack_any fun st => wpAny_pure ?_
    split
    · rename_i c _ _ _ _ _
      cases (c == Value.type "enumerate")
      · wp_walk using wpAny_loadPart' hl, wpAny_pyIter_tuple hL
        exact ⟨_, rfl, h⟩
      · wp_walk using wpAny_loadPart' hl, wpAny_pyIter_tuple hL
        exact ⟨_, rfl, h⟩
    · wp_walk using wpAny_loadPart' hl, wpAny_pyIter_tuple hL
      exact ⟨_, rfl, h⟩
theorem call_enumerate_tuple {prog : Program} {w : World} {A : Around} {E : Value → Shared → Prop} {s : Shared} {l : Addr} {items : Array Value} {Q : Value → Shared → Prop} (hL : s.heap.IsTuple l items)
    (h : ∀ h', IsEnum h' (s.heap.objs.size + 1) s.heap.objs.size 0 .none → h'.IsTupleIter s.heap.objs.size l 0 → h'.objs.size = s.heap.objs.size + 2 →
      (∀ b o, s.heap.get? b = some o → h'.get? b = some o) → Q (.ref (s.heap.objs.size + 1)) { s with heap := h' }) :
    wpAny (model prog w) A (call (.type "enumerate") [.ref l]) Q E s := by
  obtain ⟨⟨c, dct, dt, sl⟩, hl, hc, n, hd⟩ := hL
  replace hc : c = .type "tuple" := hc
  replace hd : dt = .seq items n := hd
  subst hc hd
  refine callType_new F.called_enumerate (by decide) (F.typeCall_enumerate_1 _) (F.newCall_enumerate_1 _) (fun obj => F.args_object_init_2 obj _) F.entry_enumerate_new
    (meets_enumerate_newT l items n dct sl) ⟨hl, ?_⟩
  have hz : (s.heap.push { cls := .type "tuple_iterator", data := .fields #[.ref l, .int 0 0] }).objs.size = s.heap.objs.size + 1 := Heap.size_push ..
  show _ ∧ _
  rw [hz]
  have he : IsEnum ((s.heap.push { cls := .type "tuple_iterator", data := .fields #[.ref l, .int 0 0] }).push
      { cls := .type "enumerate", data := .fields #[.none, .bool false, .ref s.heap.objs.size, rawInt 0, .none, .none] }) (s.heap.objs.size + 1) s.heap.objs.size 0 .none := by
    have := Heap.get?_push_size (s.heap.push { cls := .type "tuple_iterator", data := .fields #[.ref l, .int 0 0] })
      (o := { cls := .type "enumerate", data := .fields #[.none, .bool false, .ref s.heap.objs.size, rawInt 0, .none, .none] }) rfl
    rw [hz] at this; exact this
  refine ⟨⟨_, he, rfl⟩, h _ he ⟨_, Heap.get?_push_of_some _ (Heap.get?_push_size _ rfl), rfl, rfl⟩ (by rw [Heap.size_push, hz]) fun b o x => Heap.get?_push_of_some _ (Heap.get?_push_of_some _ x)⟩
def IteT (K : PySem.W.Frag) (a : Addr) : It :=
  ⟨fun i H => ∃ (xs : List V) (x : V), SqT K H a xs ∧ xs[i]? = some x, fun i H v H' => ∃ T x, v = .ref T ∧ H T = none ∧ H' = upd H T (.tup [.int (i : Nat), x]) ∧ ∀ xs, SqT K H a xs → xs[i]? = some x, fun i H => ∃ xs : List V, SqT K H a xs ∧ xs.length ≤ i⟩
theorem turn_enumT {P : Program} {w : World} {K : PySem.W.Frag} {elts : List Expr} {kk : Nat} {tpos : Pos} (a e it : Addr) :
    Turn P w K (.Tuple elts kk tpos) (IteT K a) [e, it] e (fun i h => (∃ old, IsEnum h e it ((i : Nat) : Int) old) ∧ h.IsTupleIter it a i ∧ e ≠ it ∧ a ≠ it ∧ e ≠ a) where
  mem := by simp
  obj := fun i h st b hb => by
    obtain ⟨⟨old, he⟩, ⟨o, ho, hc, hd⟩, _⟩ := st
    have e' : b = e ∨ b = it := by simpa using hb
    rcases e' with z | z
    · rw [z]; exact ⟨_, he, fun v q => nomatch q⟩
    · rw [z]; exact ⟨o, ho, fun v q => by rw [hd] at q; cases q⟩
  keep := fun i h h' st k => let ⟨⟨old, he⟩, hi, hne⟩ := st; ⟨⟨old, k e (by simp) _ he⟩, hi.at fun o q => k it (by simp) o q, hne⟩
  item := by
    intro X hP hw hK hc i pins s σ H E I hf st hg
    subst hP hw hK
    obtain ⟨⟨old, he⟩, hit, hne, hai, hea⟩ := st
    obtain ⟨xs, x, hq, hx⟩ := hg
    obtain ⟨its, rv, p, hz⟩ := I.tuple hq
    obtain ⟨u, hu, ru⟩ := rv.get hx
    have hel : e < s.heap.objs.size := Heap.lt_size he
    have hil : it < s.heap.objs.size := by obtain ⟨_, q, _⟩ := hit; exact Heap.lt_size q
    have D := Draws.tuple (prog := X.prog) (w := X.w) (A := X.A.in1) (I.ok.hd hc) it a hai its.toArray
    have hlt : i < its.toArray.size := by
      have := (List.getElem?_eq_some_iff.mp hu).1
      simpa using this
    refine wpAny_pyNext_enum_itemD D he ⟨hit, p⟩ hlt hne (by simp [hne, hea]) fun u' h' tk hPu ho hit' hT hsz hk => ?_
    have hu' : u' = u := by
      have h1 : its.toArray[i]? = some u' := hPu
      have h2 : its[i]? = some u' := by simpa using h1
      rw [hu] at h2; exact (Option.some.inj h2).symm
    subst hu'
    refine ⟨_, rfl, wpAny_letOwnedTupleGo_enum (s := { s with heap := h', toks := tk + 1 }) ho fun h'' he' sb => ?_⟩
    have hT2 : h''.get? s.heap.objs.size = some { cls := .type "tuple", data := .seq #[.int i tk, u'] } := (sb.2 _ (Nat.ne_of_gt hel)).trans hT
    have new : ObjOk X.prog X.w (upd H s.heap.objs.size (.tup [.int (i : Nat), x])) h'' s.heap.objs.size (.tup [.int (i : Nat), x]) :=
      ⟨by show 2 ≤ sizeLine; decide, [.int i tk, u'], .cons ⟨_, rfl⟩ (.cons ru .nil), ⟨_, hT2, rfl, _, rfl⟩⟩
    have I1 : Inv X pins σ (upd H s.heap.objs.size (.tup [.int (i : Nat), x])) { s with heap := h'', toks := tk + 1 } :=
      I.turnedNew (ch := [e, it]) (fun b ob hb q => (sb.2 b (fun z => hb (by simp [z]))).trans (hk b ob (fun z => hb (by simp [z])) (fun z => hb (by simp [z])) q)) hf (Nat.le_refl _) new
    refine ⟨.ref s.heap.objs.size, _, I1, rfl, ⟨_, x, rfl, I.hok.fresh (Nat.le_refl _), rfl, fun ys hy => by rw [I.tuple_inj hy hq]; exact hx⟩, ⟨⟨u', ?_⟩, hit'.1.at fun o q => (sb.2 it (Ne.symm hne)).trans q, hne, hai, hea⟩, fun b hb => ?_⟩
    · have e1 : ((i + 1 : Nat) : Int) = (i : Int) + 1 := by omega
      rw [e1]; exact he'
    · have hb' : b < s.heap.objs.size := by
        have e' : b = e ∨ b = it := by simpa using hb
        rcases e' with z | z
        · rw [z]; exact hel
        · rw [z]; exact hil
      rw [upd_ne (Nat.ne_of_lt hb')]
      exact (hf b hb).1
  done := by
    intro X hP hw hK hc i pins s σ H E I hf st hg
    subst hP hw hK
    obtain ⟨⟨old, he⟩, hit, hne, hai, hea⟩ := st
    obtain ⟨xs, hq, hx⟩ := hg
    obtain ⟨its, rv, p, hz⟩ := I.tuple hq
    obtain ⟨f0, f1, f2, f3, f4, f5⟩ := hf it (by simp)
    have hl := rv.length
    have hT : s.TypeIs (.ref e) "enumerate" := ⟨_, he, rfl⟩
    unfold pyNext
    refine wpAny_bind (wpAny_attempt (wpAny_callSpecial?_slot (name := Str.ofString "__next__") hT F.slot_enumerate_next
      (wpAny_call_entry F.slot_enumerate_next hT F.entry_enumerate_next ?_ (F.args_enumerate_next_1 _))))
    show wpAny _ _ (field (.ref e) 2 >>= _) _ _ _
    refine wpAny_bind (wpAny_field he rfl (x := .ref it) rfl ?_)
    refine wpAny_bind (wpAny_nextOf_tuple_end (I.ok.hd hc) hit p (by simp; omega) fun h' x he' hx' => ?_)
    obtain ⟨o, ho, hc'⟩ := hx'
    refine wpAny_bind (wpAny_isInstance (T := "StopIteration") (b := true) ⟨o, ho, hc'⟩ isSubtype_stop ?_)
    exact wpAny_pure ⟨rfl, I.turned (t' := s.toks) (fun b o hb q => he' b o hb q) f0 f1 f3 f4 f5⟩
  self := fun A i s Q E st h => let ⟨⟨_, he⟩, _⟩ := st; wpAny_pyIter_enum he h
def iEnumT (K : PySem.W.Frag) (ta : TA) : TI := fun σ H R => ta σ H fun vs H1 => ∃ a xs, vs = [.ref a] ∧ SqT K H1 a xs ∧ R (IteT K a) H1
theorem ki_enumT {X : Cx} {K : PySem.W.Frag} {e : Expr} {ta : TA} {p pos tpos : Pos} {elts : List Expr} {kk : Nat} (hg : Gl X "enumerate") (hm : X.mg "enumerate" = none) (ha : PA X [e] ta) (hs : starEach [e] X.env = [(false, eval e X.env)] := by rfl) (hK : X.K = K := by rfl) :
    PI X (.Tuple elts kk tpos) (.Call (.Name "enumerate" p) [e] [] pos) (iEnumT K ta) := by
  subst hK
  refine ⟨fun pins s σ H R I h => ?_⟩
  refine Call_ (ld_blt I hg hm PyProof.Rows.boot_enumerate (PyProof.Rows.callWith_type1 (thn (ha.run pos pins s σ H _ I h) fun us s1 ⟨vs, H1, I1, r1, q1⟩ => ?_) hs rfl))
  obtain ⟨a, xs, ex, hq, q⟩ := q1
  subst ex
  cases r1 with
  | cons r rr =>
    cases rr
    cases r
    obtain ⟨its, rv, p', hz⟩ := I1.tuple hq
    have hal : a < s1.heap.objs.size := p'.lt
    refine call_enumerate_tuple p' fun h' he hit hsz hk => wpAny_pyIter_enum he ?_
    have I2 : Inv X pins σ H1 { s1 with heap := h' } := I1.kept (t' := s1.toks) hk
    refine ⟨s1.heap.objs.size + 1, [s1.heap.objs.size + 1, s1.heap.objs.size], _, _, H1, rfl, I2, turn_enumT a (s1.heap.objs.size + 1) s1.heap.objs.size, ⟨⟨.none, he⟩, hit, Nat.succ_ne_self _, Nat.ne_of_lt hal, Nat.ne_of_gt (Nat.lt_succ_of_lt hal)⟩, fun b hb => ?_, q⟩
    have e' : b = s1.heap.objs.size + 1 ∨ b = s1.heap.objs.size := by simpa using hb
    have hle : s1.heap.objs.size ≤ b := by
      rcases e' with z | z
      · rw [z]; exact Nat.le_add_right _ _
      · rw [z]; exact Nat.le_refl _
    exact I1.fpOk hle (I1.hok.fresh hle)
end
end
section
variable {U : Vx} {σ : L2.St} {G : Hp} {Q : VK} {K : PySem.W.Frag}
/-- over enumerate(a tuple): a new pair each turn -/
theorem em_mapET {ta : TA} {te : TE} {i0 i1 : Nat} {vs : List Nat} (v : Nat → V → V) (h : AM U ta σ G fun ws G1 => ∃ a xs, ws = [.ref a] ∧ SqT K G1 a xs ∧ xs.length < 16000000 ∧
    (∀ x y, wipe (((wipe σ vs).set i0 (some x)).set i1 (some y)) vs = wipe σ vs) ∧
    (∀ (i : Nat) x G' (D : Addr) (acc : List V) (U' : Vx), U' = U.hide D (.lst acc) → ¬ U.m D → Ex G1 G' → xs[i]? = some x → EM U' te (((wipe σ vs).set i0 (some (.int (i : Int)))).set i1 (some x)) G' fun y G3 => y = v i x ∧ Ex G' G3) ∧
    (∀ D G'', Ex G1 G'' → G1 D = none → G'' D = some (.lst ((List.range xs.length).map fun i => v i (xs.getD i .non))) → Q (.ref D) G'')) : EM U (tLc (iEnumT K ta) (gTup K 2 (gCons (gName i0) (gCons (gName i1) gNil))) tYes te vs) σ G Q := fun H j QH q =>
  h H j _ fun ws H1 G1 j1 ⟨a, xs, e, hx, hlen, hw, hs, hd⟩ => ⟨a, xs, e, ex_t j1.up hx, fun D hD => by
    have nm : ¬ U.m D := fun z => (j1.msk D z).2 hD
    have nh : U.He D = none := none_of_ex j1.keep hD
    have wk : Walk (IteT K a) xs.length (fun H => SqT K H a xs) (fun i H v H' => ∃ T x, v = .ref T ∧ H T = none ∧ H' = upd H T (.tup [.int (i : Nat), x]) ∧ xs[i]? = some x) :=
      ⟨fun i H hi hq => ⟨xs, xs[i], hq, by simp [hi]⟩, fun H hq => ⟨xs, hq, Nat.le_refl _⟩, fun i H x H' hi hq ⟨T, y, e1, e2, e3, e4⟩ => ⟨T, y, e1, e2, e3, e4 xs hq⟩⟩
    refine lc_it wk (fun i H' => i ≤ xs.length ∧ ∃ G', J (U.hide D (.lst ((List.range i).map fun i => v i (xs.getD i .non)))) H' G' ∧ Ex G1 G') ⟨Nat.zero_le _, G1, ?_, Ex.refl _⟩ (fun i H' _ ⟨_, G', j', e'⟩ => ex_t j'.up (ex_t e' hx)) (fun i x H' H'' hi ⟨_, G', j', e'⟩ ⟨T, y, ex, hT, eH, hy⟩ => ?_) (fun H' ⟨_, G', j', e'⟩ => ?_)
    · have ja := j1.alloc (o := .lst []) hD
      refine ⟨fun a u e => ?_, ja.keep, j1.new, ⟨ja.hid, upd_same⟩, fun a ma => ?_⟩
      · rw [upd_ne (fun z => by subst z; rw [j1.free hD] at e; cases e)]; exact j1.up a u e
      · rcases ma with ma | rfl
        · obtain ⟨q1, q2⟩ := j1.msk a ma
          refine ⟨q1, ?_⟩
          rw [upd_ne (fun z => by subst z; exact q2 hD)]; exact q2
        · exact ⟨j1.free hD, by rw [upd_same]; exact fun q => by cases q⟩
    · subst ex eH
      have jT := j'.alloc (o := .tup [.int (i : Nat), y]) hT
      have gT := j'.free hT
      have e2 : Ex G' (upd G' T (.tup [.int (i : Nat), y])) := Ex.new gT
      refine ⟨T, [.int (i : Nat), y], rfl, SqT.of upd_same, rfl, _, _, rfl, _, _, rfl, rfl, hw _ _, ?_⟩
      show (if true = true then te (((wipe σ vs).set i0 (some (.int (i : Int)))).set i1 (some y)) (upd H' T (.tup [.int (i : Nat), y])) (fun y H4 => ∃ acc, H4 D = some (.lst acc) ∧ acc.length < sizeLine ∧ (i + 1 ≤ xs.length ∧ ∃ G', J (U.hide D (.lst ((List.range (i + 1)).map fun i => v i (xs.getD i .non)))) (upd H4 D (.lst (acc ++ [y]))) G' ∧ Ex G1 G')) else (i + 1 ≤ xs.length ∧ ∃ G'', J (U.hide D (.lst ((List.range (i + 1)).map fun i => v i (xs.getD i .non)))) (upd H' T (.tup [.int (i : Nat), y])) G'' ∧ Ex G1 G''))
      rw [if_pos rfl]
      refine hs i y _ D _ _ rfl nm (e'.trans e2) hy _ jT _ fun z H4 G4 j4 ⟨ez, e4⟩ => ⟨_, j4.hid.2, ?_, hi, G4, ?_, (e'.trans e2).trans e4⟩
      · rw [List.length_map, List.length_range]
        exact Nat.lt_of_lt_of_le (show i < 16000000 by omega) (by decide)
      · have je := j4.rehide (o' := .lst (((List.range i).map fun i => v i (xs.getD i .non)) ++ [z])) nm nh
        have el : (List.range (i + 1)).map (fun i => v i (xs.getD i .non)) = ((List.range i).map fun i => v i (xs.getD i .non)) ++ [z] := by
          rw [List.range_succ, List.map_append, ez]
          show _ ++ [v i (xs.getD i .non)] = _
          rw [List.getD_eq_getElem?_getD, hy]
          rfl
        rw [el]; exact je
    · have gd : G' D = none := (j'.msk D (.inr rfl)).1
      exact q _ _ _ (j'.unhide nm nh) (hd D _ (e'.trans (Ex.new gd)) (none_of_ex e' gd) upd_same)⟩
end
theorem ke_revL {X : Cx} {K : PySem.W.Frag} {e : Expr} {te : TE} {k : Nat} {p1 p2 p3 pos : Pos} (he : PE X e te) (h : X.K = K := by rfl) : PE X (.Subscript e (.Slice none none (some (.UnaryOp .USub (.Constant (.int 1) k p1) p2)) p3) pos) (tRevL K te) := by subst h; exact pe_revL he
theorem em_revL {U : Vx} {σ : L2.St} {G : Hp} {Q : VK} {K : PySem.W.Frag} {te : TE} (h : EM U te σ G fun x G1 => ∃ a xs, x = .ref a ∧ SqL K G1 a xs ∧ ∀ p G2, G1 p = none → Ex G1 G2 → G2 p = some (.lst xs.reverse) → Q (.ref p) G2) : EM U (tRevL K te) σ G Q := fun H j QH q =>
  h H j _ fun x H1 G1 j1 ⟨a, xs, e, hx, k⟩ => ⟨a, xs, e, ex_l j1.up hx, fun p hp => q _ _ _ (j1.alloc hp) (k p _ (j1.free hp) (Ex.new (j1.free hp)) upd_same)⟩
theorem sqt_wo {K : PySem.W.Frag} {G : Hp} {I p : Addr} {xs ys : List V} (h : G I = some (.lst xs)) (hp : SqT K G p ys) : SqT K (wo I G) p ys := by
  rcases hp with (hp | ⟨o, hp⟩) | hp
  · exact .inl (.inl (by rw [wo_ne (fun z => by rw [z, h] at hp; cases hp)]; exact hp))
  · exact .inl (.inr ⟨o, by rw [wo_ne (fun z => by rw [z, h] at hp; cases hp)]; exact hp⟩)
  · exact .inr hp
/-- for i, x in enumerate(a tuple) -/
theorem sm_forET {U : Vx} {σ : L2.St} {G : Hp} {K : PySem.W.Frag} {ta : TA} {ts : TS} {D : Ends} {i0 i1 : Nat} (h : AM U ta σ G fun vs G1 => ∃ a xs, vs = [.ref a] ∧ SqT K G1 a xs ∧ ∃ P : Nat → L2.St → Hp → Prop, P 0 σ G1 ∧ (∀ i σ' G', i ≤ xs.length → P i σ' G' → SqT K G' a xs) ∧
    (∀ (i : Nat) x σ' G' G'', xs[i]? = some x → P i σ' G' → Ex G' G'' → (∀ a o, (∃ ys, o = HO.lst ys) → G'' a = some o → G' a = some o) → SM U ts ⟨KJ U (P (i + 1)), D.rt, D.nx, KJ U (P (i + 1))⟩ ((σ'.set i0 (some (.int (i : Int)))).set i1 (some x)) G'') ∧ (∀ σ' G', P xs.length σ' G' → KM U D.nx σ' G')) : SM U (tFor (iEnumT K ta) (gTup K 2 (gCons (gName i0) (gCons (gName i1) gNil))) ts) D σ G := fun H j =>
  h H j _ fun vs H1 G1 j1 ⟨a, xs, e, hx, P, h0, hl, hs, hd⟩ => by
    have wk : Walk (IteT K a) xs.length (fun H => SqT K H a xs) (fun i H v H' => ∃ T x, v = .ref T ∧ H T = none ∧ H' = upd H T (.tup [.int (i : Nat), x]) ∧ xs[i]? = some x) :=
      ⟨fun i H hi hq => ⟨xs, xs[i], hq, by simp [hi]⟩, fun H hq => ⟨xs, hq, Nat.le_refl _⟩, fun i H x H' hi hq ⟨T, y, e1, e2, e3, e4⟩ => ⟨T, y, e1, e2, e3, e4 xs hq⟩⟩
    refine ⟨a, xs, e, ex_t j1.up hx, for_it wk (fun i => KJ U (P i)) ⟨G1, j1, h0⟩ (fun i σ' H' hi ⟨G', j', p⟩ => ex_t j'.up (hl i σ' G' hi p)) (fun i x σ' H' H'' hi ⟨G', j', p⟩ ⟨T, y, ex, hT, eH, hy⟩ => ?_) (fun σ' H' ⟨G', j', p⟩ => hd σ' G' p H' j')⟩
    subst ex eH
    have gT := j'.free hT
    refine ⟨T, [.int (i : Nat), y], rfl, SqT.of upd_same, rfl, _, _, rfl, _, _, rfl, rfl, ?_⟩
    have k := hs i y σ' G' (upd G' T (.tup [.int (i : Nat), y])) hy p (Ex.new gT) (fun b o ⟨ys, eo⟩ hb => by
      have nb : b ≠ T := fun z => by rw [z, upd_same, eo] at hb; cases hb
      rw [upd_ne nb] at hb; exact hb) _ (j'.alloc hT)
    exact k
end Wp

set_option Elab.async false
set_option linter.all false
set_option maxRecDepth 100000
set_option maxHeartbeats 4000000
/-! Data in place of addresses: what a part of the heap shows, by value. -/
namespace Wp
open PySem L2 Evl StX
set_option autoImplicit false
inductive D where
  | non
  | bl (b : Bool)
  | int (i : Int)
  | str (s : Str)
  | lst (ds : List D)
  | tup (ds : List D)
  | obj (C : Addr) (ks : List Str) (ds : List D)
  | dct (ks : List Key) (ds : List D)
  | adr (a : Addr)
mutual
inductive Rp (K : PySem.W.Frag) (F : Hp) : V → D → Prop
  | non : Rp K F .non .non
  | bl (b : Bool) : Rp K F (.bl b) (.bl b)
  | int (i : Int) : Rp K F (.int i) (.int i)
  | str (s : Str) : Rp K F (.str s) (.str s)
  | lst {a : Addr} {vs : List V} {ds : List D} : F a = some (.lst vs) → RpA K F vs ds → Rp K F (.ref a) (.lst ds)
  | tup {a : Addr} {vs : List V} {ds : List D} : SqT K F a vs → RpA K F vs ds → Rp K F (.ref a) (.tup ds)
  | obj {a C dx : Addr} {fvs : List (Str × V)} {ks : List Str} {ds : List D} : F a = some (.ins C dx fvs) → fvs.map (·.1) = ks → RpA K F (fvs.map (·.2)) ds → Rp K F (.ref a) (.obj C ks ds)
  | dct {a : Addr} {kvs : List (Key × V)} {ks : List Key} {ds : List D} : Rd F a (.dK kvs) → kvs.map (·.1) = ks → ks.Nodup → RpA K F (kvs.map (·.2)) ds → Rp K F (.ref a) (.dct ks ds)
  | adr (a : Addr) : Rp K F (.ref a) (.adr a)
inductive RpA (K : PySem.W.Frag) (F : Hp) : List V → List D → Prop
  | nil : RpA K F [] []
  | cons {v : V} {vs : List V} {d : D} {ds : List D} : Rp K F v d → RpA K F vs ds → RpA K F (v :: vs) (d :: ds)
end
section
variable {K : PySem.W.Frag} {F F' : Hp}
theorem rp_mono (e : Ex F F') : ∀ (d : D) (v : V), Rp K F v d → Rp K F' v d
  | .non, v, h => by cases h; exact .non
  | .bl b, v, h => by cases h; exact .bl b
  | .int b, v, h => by cases h; exact .int b
  | .str b, v, h => by cases h; exact .str b
  | .lst ds, v, h => by cases h with | lst a b => exact .lst (e _ _ a) (all ds _ b)
  | .tup ds, v, h => by cases h with | tup a b => exact .tup (ex_t e a) (all ds _ b)
  | .obj C ks ds, v, h => by cases h with | obj a k b => exact .obj (e _ _ a) k (all ds _ b)
  | .dct ks ds, v, h => by cases h with | dct a k n b => exact .dct (ex_rd e a) k n (all ds _ b)
  | .adr a, v, h => by cases h; exact .adr a
where
  all : ∀ (ds : List D) (vs : List V), RpA K F vs ds → RpA K F' vs ds
  | [], vs, h => by cases h; exact .nil
  | d :: ds, vs, h => by cases h with | cons a b => exact .cons (rp_mono e d _ a) (all ds _ b)
theorem Rp.mono {v : V} {d : D} (h : Rp K F v d) (e : Ex F F') : Rp K F' v d := rp_mono e d v h
theorem RpA.mono {vs : List V} {ds : List D} (h : RpA K F vs ds) (e : Ex F F') : RpA K F' vs ds := rp_mono.all e ds vs h
theorem RpA.len {vs : List V} : ∀ {ds : List D}, RpA K F vs ds → vs.length = ds.length := by
  induction vs with
  | nil => intro ds h; cases h; rfl
  | cons v vs ih => intro ds h; cases h with | cons a b => rw [List.length_cons, List.length_cons, ih b]
theorem RpA.at {vs : List V} : ∀ {ds : List D}, RpA K F vs ds → ∀ {i : Nat} {v : V}, vs[i]? = some v → ∃ d, ds[i]? = some d ∧ Rp K F v d := by
  induction vs with
  | nil => intro ds h i v e; simp at e
  | cons w ws ih =>
    intro ds h i v e
    cases h with
    | cons a b =>
      cases i with
      | zero => simp at e; subst e; exact ⟨_, rfl, a⟩
      | succ i => simp at e; obtain ⟨d, h1, h2⟩ := ih b e; exact ⟨d, by simpa using h1, h2⟩
theorem RpA.get {vs : List V} : ∀ {ds : List D}, RpA K F vs ds → ∀ {i : Nat} {d : D}, ds[i]? = some d → ∃ v, vs[i]? = some v ∧ Rp K F v d := by
  induction vs with
  | nil => intro ds h i v e; cases h; simp at e
  | cons w ws ih =>
    intro ds h i v e
    cases h with
    | cons a b =>
      cases i with
      | zero => simp at e; subst e; exact ⟨_, rfl, a⟩
      | succ i => simp at e; obtain ⟨d, h1, h2⟩ := ih b e; exact ⟨d, by simpa using h1, h2⟩
theorem RpA.app {vs ws : List V} {es : List D} (h2 : RpA K F ws es) : ∀ {ds : List D}, RpA K F vs ds → RpA K F (vs ++ ws) (ds ++ es) := by
  induction vs with
  | nil => intro ds h; cases h; exact h2
  | cons v vs ih => intro ds h; cases h with | cons a b => exact .cons a (ih b)
theorem RpA.one {v : V} {d : D} (h : Rp K F v d) : RpA K F [v] [d] := .cons h .nil
theorem RpA.drop {vs : List V} : ∀ {ds : List D} (n : Nat), RpA K F vs ds → RpA K F (vs.drop n) (ds.drop n) := by
  induction vs with
  | nil => intro ds n h; cases h; simp; exact .nil
  | cons v vs ih =>
    intro ds n h
    cases n with
    | zero => exact h
    | succ n => cases h with | cons a b => exact ih n b
theorem RpA.take {vs : List V} : ∀ {ds : List D} (n : Nat), RpA K F vs ds → RpA K F (vs.take n) (ds.take n) := by
  induction vs with
  | nil => intro ds n h; cases h; simp; exact .nil
  | cons v vs ih =>
    intro ds n h
    cases n with
    | zero => simp; exact .nil
    | succ n => cases h with | cons a b => exact .cons a (ih n b)
theorem RpA.rev {vs : List V} : ∀ {ds : List D}, RpA K F vs ds → RpA K F vs.reverse ds.reverse := by
  induction vs with
  | nil => intro ds h; cases h; exact .nil
  | cons v vs ih => intro ds h; cases h with | cons a b => rw [List.reverse_cons, List.reverse_cons]; exact (RpA.one a).app (ih b)
theorem RpA.set {vs : List V} {v : V} {d : D} (hv : Rp K F v d) : ∀ {ds : List D} (n : Nat), RpA K F vs ds → RpA K F (vs.set n v) (ds.set n d) := by
  induction vs with
  | nil => intro ds n h; cases h; exact .nil
  | cons w ws ih =>
    intro ds n h
    cases h with
    | cons a b =>
      cases n with
      | zero => exact .cons hv b
      | succ n => exact .cons a (ih n b)
theorem RpA.cut {vs : List V} {ds : List D} (h : RpA K F vs ds) (lo hi : Option Int) : RpA K F (cutV vs lo hi) ((ds.drop (HT.sIx ds.length 0 lo)).take (HT.sIx ds.length ds.length hi - HT.sIx ds.length 0 lo)) := by
  unfold cutV
  rw [h.len]
  exact (h.drop _).take _
theorem RpA.atI {vs : List V} {ds : List D} (h : RpA K F vs ds) {i : Int} {d : D} (e : atI ds i = some d) : ∃ v, atI vs i = some v ∧ Rp K F v d := by
  unfold L2.atI at e ⊢
  rw [h.len]
  cases z : ixN ds.length i with
  | none => rw [z] at e; simp at e
  | some j => rw [z] at e; simp at e ⊢; exact h.get e
/-! ### from the heap's data to the library's -/
mutual
def D.py : D → PyData
  | .non => .none
  | .bl b => .bool b
  | .int i => .int i
  | .str s => .str s
  | .lst ds => .list (D.pys ds)
  | .tup ds => .tuple (D.pys ds)
  | .obj _ _ _ => .none
  | .dct _ _ => .none
  | .adr _ => .none
def D.pys : List D → List PyData
  | [] => []
  | d :: ds => d.py :: D.pys ds
end
mutual
/-- no objects, no bools -/
def D.plain : D → Bool
  | .non => true
  | .bl _ => false
  | .int _ => true
  | .str s => PyData.strOk s
  | .lst ds => D.plains ds
  | .tup ds => D.plains ds
  | .obj _ _ _ => false
  | .dct _ _ => false
  | .adr _ => false
def D.plains : List D → Bool
  | [] => true
  | d :: ds => d.plain && D.plains ds
end
mutual
def D.dep : D → Nat
  | .lst ds => D.deps ds + 1
  | .tup ds => D.deps ds + 1
  | _ => 0
def D.deps : List D → Nat
  | [] => 0
  | d :: ds => max d.dep (D.deps ds)
end
theorem rp_dp : ∀ (d : D) (v : V), d.plain = true → Rp K F v d → Dp K F v d.py
  | .non, v, p, h => by cases h; exact .non
  | .bl b, v, p, h => by cases p
  | .int b, v, p, h => by cases h; exact .int b
  | .str b, v, p, h => by cases h; exact .str b
  | .lst ds, v, p, h => by cases h with | lst a b => exact .lst (.inl (.inl a)) (all ds _ p b)
  | .tup ds, v, p, h => by cases h with | tup a b => exact .tup a (all ds _ p b)
  | .obj C ks ds, v, p, h => by cases p
  | .dct ks ds, v, p, h => by cases p
  | .adr a, v, p, h => by cases p
where
  all : ∀ (ds : List D) (vs : List V), D.plains ds = true → RpA K F vs ds → DpAll K F vs (D.pys ds)
  | [], vs, p, h => by cases h; exact .nil
  | d :: ds, vs, p, h => by
    have p' : d.plain = true ∧ D.plains ds = true := by simpa [D.plains] using p
    cases h with | cons a b => exact .cons (rp_dp d _ p'.1 a) (all ds _ p'.2 b)
theorem py_eqv : ∀ (d e : D), d.plain = true → e.plain = true → (PyData.eqv d.py e.py = true ↔ d = e)
  | .non, e, p, q => by cases e <;> simp [D.py, PyData.eqv, D.plain] at *
  | .bl b, e, p, q => by cases p
  | .int b, e, p, q => by cases e <;> simp [D.py, PyData.eqv, D.plain] at *
  | .str b, e, p, q => by cases e <;> simp [D.py, PyData.eqv, D.plain] at *
  | .lst ds, e, p, q => by
    cases e <;> simp [D.py, PyData.eqv, D.plain] at *
    exact all ds _ p q
  | .tup ds, e, p, q => by
    cases e <;> simp [D.py, PyData.eqv, D.plain] at *
    exact all ds _ p q
  | .obj C ks ds, e, p, q => by cases p
  | .dct ks ds, e, p, q => by cases p
  | .adr a, e, p, q => by cases p
where
  all : ∀ (ds es : List D), D.plains ds = true → D.plains es = true → (PyData.eqvAll (D.pys ds) (D.pys es) = true ↔ ds = es)
  | [], es, p, q => by cases es <;> simp [D.pys, PyData.eqvAll]
  | d :: ds, es, p, q => by
    cases es with
    | nil => simp [D.pys, PyData.eqvAll]
    | cons e es =>
      have p' : d.plain = true ∧ D.plains ds = true := by simpa [D.plains] using p
      have q' : e.plain = true ∧ D.plains es = true := by simpa [D.plains] using q
      simp only [D.pys, PyData.eqvAll, Bool.and_eq_true, py_eqv d e p'.1 q'.1, all ds es p'.2 q'.2, List.cons.injEq]
theorem py_lay : ∀ (d : D), d.plain = true → PyData.canLay0 d.py = true
  | .non, _ => by simp [D.py, PyData.canLay0]
  | .bl b, _ => by simp [D.py, PyData.canLay0]
  | .int b, _ => by simp [D.py, PyData.canLay0]
  | .str b, h => by simp [D.py, PyData.canLay0]; exact h
  | .lst ds, h => by simp [D.py, PyData.canLay0]; exact all ds h
  | .tup ds, h => by simp [D.py, PyData.canLay0]; exact all ds h
  | .obj C ks ds, _ => by simp [D.py, PyData.canLay0]
  | .dct ks ds, _ => by simp [D.py, PyData.canLay0]
  | .adr a, _ => by simp [D.py, PyData.canLay0]
where
  all : ∀ (ds : List D), D.plains ds = true → PyData.canLayAll0 (D.pys ds) = true
  | [], _ => by simp [D.pys, PyData.canLayAll0]
  | d :: ds, h => by
    have p' : d.plain = true ∧ D.plains ds = true := by simpa [D.plains] using h
    simp [D.pys, PyData.canLayAll0]; exact ⟨py_lay d p'.1, all ds p'.2⟩
theorem py_dep : ∀ (d : D), PyData.depth d.py ≤ d.dep + 1
  | .non => by simp [D.py, PyData.depth]
  | .bl b => by simp [D.py, PyData.depth]
  | .int b => by simp [D.py, PyData.depth]
  | .str b => by simp [D.py, PyData.depth]
  | .lst ds => by simp [D.py, PyData.depth, D.dep]; have := all ds; omega
  | .tup ds => by simp [D.py, PyData.depth, D.dep]; have := all ds; omega
  | .obj C ks ds => by simp [D.py, PyData.depth]
  | .dct ks ds => by simp [D.py, PyData.depth]
  | .adr a => by simp [D.py, PyData.depth]
where
  all : ∀ (ds : List D), PyData.depthAll (D.pys ds) ≤ D.deps ds + 1
  | [] => by simp [D.pys, PyData.depthAll]
  | d :: ds => by simp [D.pys, PyData.depthAll, D.deps]; have h1 := py_dep d; have h2 := all ds; omega
theorem py_shaped {d : D} (hp : d.plain = true) (h : d.dep ≤ 60) : SeqAt.shaped d.py = true := by
  unfold SeqAt.shaped
  rw [py_lay d hp]
  have := py_dep d
  simp; omega
theorem plains_map {α : Type} {f : α → D} (h : ∀ x, (f x).plain = true) : ∀ xs : List α, D.plains (xs.map f) = true
  | [] => rfl
  | x :: xs => by rw [List.map_cons, D.plains, h x, plains_map h xs]; rfl
theorem deps_map {α : Type} {f : α → D} {n : Nat} (h : ∀ x, (f x).dep ≤ n) : ∀ xs : List α, D.deps (xs.map f) ≤ n
  | [] => Nat.zero_le _
  | x :: xs => by rw [List.map_cons, D.deps]; have := h x; have := deps_map h xs; omega
end
/-! ### owned objects are hidden -/
/-- what is known of a hidden object: just that one; or that it is one of some -/
inductive HI where
  | ex (o : HO)
  | ce (I : HO → Prop)
def HI.ok : HI → HO → Prop
  | .ex o, x => x = o
  | .ce I, x => I x
abbrev Ow := List (Addr × HI)
abbrev Ce := List (Addr × (HO → Prop))
def Vx.hides (U : Vx) (L : Ow) : Vx := ⟨U.He, U.Ge, fun H => U.I H ∧ ∀ p ∈ L, ∃ o, H p.1 = some o ∧ p.2.ok o, fun a => U.m a ∨ ∃ o, (a, o) ∈ L,
  fun H H' ⟨i, h⟩ e => ⟨U.st H H' i fun a ma => e a (.inl ma), fun p hp => by rw [e p.1 (.inr ⟨p.2, hp⟩)]; exact h p hp⟩⟩
section
variable {U : Vx} {L : Ow} {H G : Hp}
theorem J.hides_nil (j : J U H G) : J (U.hides []) H G := ⟨j.up, j.keep, j.new, ⟨j.hid, fun _ h => nomatch h⟩, fun a ma => j.msk a (ma.elim id fun ⟨_, h⟩ => nomatch h)⟩
theorem J.unhides (j : J (U.hides L) H G) : J U H G := ⟨j.up, j.keep, j.new, j.hid.1, fun a ma => j.msk a (.inl ma)⟩
/-- an object that is new and shown is hidden from here on -/
theorem J.own {p : Addr} {o : HO} {I : HI} (j : J (U.hides L) H G) (h : G p = some o) (hI : I.ok o) (hn : U.Ge p = none) : J (U.hides ((p, I) :: L)) H (wo p G) where
  up := fun a u e => by
    by_cases z : a = p
    · rw [z, wo_same] at e; cases e
    · rw [wo_ne z] at e; exact j.up a u e
  keep := j.keep
  new := fun a q g => by
    by_cases z : a = p
    · rw [z, wo_same] at q; exact absurd rfl q
    · rw [wo_ne z] at q; exact j.new a q g
  hid := ⟨j.hid.1, fun q hq => by
    rcases List.mem_cons.mp hq with rfl | hq
    · exact ⟨o, j.up _ _ h, hI⟩
    · exact j.hid.2 q hq⟩
  msk := fun a ma => by
    have k : (U.hides L).m a → (wo p G) a = none ∧ H a ≠ none := fun m => by
      obtain ⟨q1, q2⟩ := j.msk a m
      refine ⟨?_, q2⟩
      by_cases z : a = p
      · rw [z, wo_same]
      · rw [wo_ne z]; exact q1
    rcases ma with ma | ⟨ws, hw⟩
    · exact k (.inl ma)
    · rcases List.mem_cons.mp hw with e | hw
      · cases e; exact ⟨wo_same, by rw [j.up _ _ h]; exact fun q => by cases q⟩
      · exact k (.inr ⟨ws, hw⟩)
/-- an owned object is shown -/
theorem J.at {a : Addr} {o : HO} (j : J (U.hides L) H G) (h : (a, HI.ex o) ∈ L) : H a = some o := by
  obtain ⟨x, h1, h2⟩ := j.hid.2 _ h
  rw [h1, show x = o from h2]
theorem J.show {a : Addr} {o : HO} (j : J (U.hides L) H G) (h : (a, HI.ex o) ∈ L) (hm : ¬ U.m a) (hn : U.He a = none) : J (U.hides (L.filter fun p => decide (p.1 ≠ a))) H (upd G a o) where
  up := fun b u e => by
    by_cases z : b = a
    · subst z; rw [upd_same] at e; rw [j.at h]; exact e
    · rw [upd_ne z] at e; exact j.up b u e
  keep := j.keep
  new := fun b q g => by
    by_cases z : b = a
    · subst z; exact hn
    · rw [upd_ne z] at q; exact j.new b q g
  hid := ⟨j.hid.1, fun q hq => j.hid.2 q (List.mem_filter.mp hq).1⟩
  msk := fun b mb => by
    rcases mb with mb | ⟨ws, hw⟩
    · have : b ≠ a := fun z => by subst z; exact hm mb
      rw [upd_ne this]; exact j.msk b (.inl mb)
    · obtain ⟨h1, h2⟩ := List.mem_filter.mp hw
      have : b ≠ a := by simpa using h2
      rw [upd_ne this]; exact j.msk b (.inr ⟨ws, h1⟩)
def setO (a : Addr) (I : HI) (L : Ow) : Ow := L.map fun p => if p.1 = a then (a, I) else p
theorem setO_mem {a b : Addr} {I u : HI} {L : Ow} : (b, u) ∈ setO a I L → (b = a ∧ u = I ∧ ∃ x, (a, x) ∈ L) ∨ (b ≠ a ∧ (b, u) ∈ L) := by
  unfold setO
  intro h
  obtain ⟨p, hp, e⟩ := List.mem_map.mp h
  by_cases z : p.1 = a
  · rw [if_pos z] at e; cases e; exact .inl ⟨rfl, rfl, p.2, by rw [← z]; exact hp⟩
  · rw [if_neg z] at e; subst e; exact .inr ⟨z, hp⟩
theorem mem_setO {a b : Addr} {I u : HI} {L : Ow} (n : b ≠ a) (h : (b, u) ∈ L) : (b, u) ∈ setO a I L := List.mem_map.mpr ⟨(b, u), h, by rw [if_neg n]⟩
theorem mem_setO_self {a : Addr} {x I : HI} {L : Ow} (h : (a, x) ∈ L) : (a, I) ∈ setO a I L := List.mem_map.mpr ⟨(a, x), h, by rw [if_pos rfl]⟩
/-- an owned object is changed -/
theorem J.chg {a : Addr} {x I : HI} {o : HO} (j : J (U.hides L) H G) (h : (a, x) ∈ L) (hI : I.ok o) (hm : ¬ U.m a) (hn : U.He a = none) : J (U.hides (setO a I L)) (upd H a o) G where
  up := fun b u e => by
    have : b ≠ a := fun z => by subst z; rw [(j.msk b (.inr ⟨x, h⟩)).1] at e; cases e
    rw [upd_ne this]; exact j.up b u e
  keep := fun b u e => by
    have : b ≠ a := fun z => by subst z; exact absurd (show U.He b = some u from e) (by rw [hn]; exact fun q => by cases q)
    rw [upd_ne this]; exact j.keep b u e
  new := j.new
  hid := ⟨U.st H _ j.hid.1 fun b mb => by
    have : b ≠ a := fun z => by subst z; exact hm mb
    rw [upd_ne this], fun q hq => by
    rcases setO_mem (b := q.1) (u := q.2) hq with ⟨e1, e2, _⟩ | ⟨n, hq⟩
    · rw [e1, e2, upd_same]; exact ⟨o, rfl, hI⟩
    · rw [upd_ne n]; exact j.hid.2 _ hq⟩
  msk := fun b mb => by
    have k : (U.hides L).m b → G b = none ∧ (upd H a o) b ≠ none := fun m => by
      obtain ⟨q1, q2⟩ := j.msk b m
      refine ⟨q1, ?_⟩
      by_cases z : b = a
      · subst z; rw [upd_same]; exact fun q => by cases q
      · rw [upd_ne z]; exact q2
    rcases mb with mb | ⟨us, hu⟩
    · exact k (.inl mb)
    · rcases setO_mem hu with ⟨e1, _, vs', e2⟩ | ⟨_, hu⟩
      · rw [e1] at k ⊢; exact k (.inr ⟨vs', e2⟩)
      · exact k (.inr ⟨us, hu⟩)
theorem J.chgHead {a : Addr} {x I : HI} {o : HO} (j : J (U.hides ((a, x) :: L)) H G) (hI : I.ok o) (hL : ∀ q ∈ L, q.1 ≠ a) (hm : ¬ U.m a) (hn : U.He a = none) : J (U.hides ((a, I) :: L)) (upd H a o) G := by
  have jj := j.chg (o := o) (I := I) List.mem_cons_self hI hm hn
  refine ⟨jj.up, jj.keep, jj.new, ⟨jj.hid.1, fun q hq => ?_⟩, fun b ma => ?_⟩
  · rcases List.mem_cons.mp hq with rfl | hq
    · exact ⟨o, upd_same, hI⟩
    · rw [upd_ne (hL q hq)]; exact j.hid.2 _ (List.mem_cons_of_mem _ hq)
  · refine jj.msk b ?_
    rcases ma with ma | ⟨ws, hw'⟩
    · exact .inl ma
    · rcases List.mem_cons.mp hw' with e | hw'
      · cases e; exact .inr ⟨_, mem_setO_self List.mem_cons_self⟩
      · by_cases z : b = a
        · rw [z]; exact .inr ⟨_, mem_setO_self List.mem_cons_self⟩
        · exact .inr ⟨ws, mem_setO z (List.mem_cons_of_mem _ hw')⟩
/-! ### a hidden place of which something is known, whatever its object -/
structure CellOk (U : Vx) (a : Addr) (I : HO → Prop) : Prop where
  m : U.m a
  ne : U.He a = none
  at_ : ∀ H, U.I H → ∃ o, H a = some o ∧ I o
  to : ∀ H H', U.I H → (∀ x, U.m x → x ≠ a → H' x = H x) → (∃ o, H' a = some o ∧ I o) → U.I H'
end
end Wp

set_option Elab.async false
set_option linter.all false
set_option maxRecDepth 100000
set_option maxHeartbeats 4000000
namespace Wp
open PySem L2 Evl StX
set_option autoImplicit false
/-- an own thing, by data -/
inductive OD where
  | ins (C : Addr) (ks : List Str) (ds : List D)
  | dct (ks : List Key) (ds : List D)
  | lst (ds : List D)
inductive ODr (K : PySem.W.Frag) (G : Hp) : OD → HO → Prop
  | ins {C dx : Addr} {fvs : List (Str × V)} {ks : List Str} {ds : List D} : fvs.map (·.1) = ks → RpA K G (fvs.map (·.2)) ds → ODr K G (.ins C ks ds) (.ins C dx fvs)
  | dct {kvs : List (Key × V)} {ks : List Key} {ds : List D} : kvs.map (·.1) = ks → ks.Nodup → RpA K G (kvs.map (·.2)) ds → ODr K G (.dct ks ds) (.dK kvs)
  | lst {vs : List V} {ds : List D} : RpA K G vs ds → ODr K G (.lst ds) (.lst vs)
theorem ODr.mono {K : PySem.W.Frag} {G G' : Hp} {w : OD} {o : HO} (h : ODr K G w o) (e : Ex G G') : ODr K G' w o := by
  cases h with
  | ins a b => exact .ins a (b.mono e)
  | dct a n b => exact .dct a n (b.mono e)
  | lst b => exact .lst (b.mono e)
/-- what is known of a slot: a datum; a list, a dict, an object, a list of such of the def's own; the law's draws; its script -/
inductive E where
  | any
  | d (d : D)
  | own (ds : List D)
  | dic (ks : List Key) (ds : List D)
  | ob (C : Addr) (ks : List Str) (es : List E)
  | lo (es : List E)
  | st
  | sc
  | cd (d : D) (cs : Ce)
  | oa (a : Addr) (w : OD)
def E.known : E → Bool
  | .any => false
  | _ => true
/-- may stand at two names -/
def E.free : E → Bool
  | .d _ => true
  | .st => true
  | .sc => true
  | .cd _ _ => true
  | _ => false
section
variable {K : PySem.W.Frag}
mutual
inductive Sv (K : PySem.W.Frag) (U : Vx) (L : Ow) (G : Hp) : E → V → List Addr → Prop
  | any (v : V) : Sv K U L G .any v []
  | d {d : D} {v : V} : Rp K G v d → Sv K U L G (.d d) v []
  | own {a : Addr} {vs : List V} {ds : List D} : (a, HI.ex (.lst vs)) ∈ L → RpA K G vs ds → Sv K U L G (.own ds) (.ref a) [a]
  | dic {a : Addr} {kvs : List (Key × V)} {ks : List Key} {ds : List D} : (a, HI.ex (.dK kvs)) ∈ L → kvs.map (·.1) = ks → ks.Nodup → RpA K G (kvs.map (·.2)) ds → Sv K U L G (.dic ks ds) (.ref a) [a]
  | ob {a C dx : Addr} {fvs : List (Str × V)} {ks : List Str} {es : List E} {F : List Addr} : (a, HI.ex (.ins C dx fvs)) ∈ L → fvs.map (·.1) = ks → SvA K U L G es (fvs.map (·.2)) F → Sv K U L G (.ob C ks es) (.ref a) (a :: F)
  | lo {a : Addr} {vs : List V} {es : List E} {F : List Addr} : (a, HI.ex (.lst vs)) ∈ L → SvA K U L G es vs F → Sv K U L G (.lo es) (.ref a) (a :: F)
  | st {a : Addr} : DrawOk U a → Sv K U L G .st (.ref a) []
  | sc {a : Addr} {ns : List Int} : SqL K G a (ns.map V.int) → Sv K U L G .sc (.ref a) []
  | cd {d : D} {v : V} {cs : Ce} : Rp K G v d → (∀ c ∈ cs, CellOk U c.1 c.2 ∨ (c.1, HI.ce c.2) ∈ L) → Sv K U L G (.cd d cs) v []
  | oa {a : Addr} {o : HO} {w : OD} : (a, HI.ex o) ∈ L → ODr K G w o → Sv K U L G (.oa a w) (.ref a) [a]
inductive SvA (K : PySem.W.Frag) (U : Vx) (L : Ow) (G : Hp) : List E → List V → List Addr → Prop
  | nil : SvA K U L G [] [] []
  | cons {e : E} {v : V} {es : List E} {vs : List V} {F F' : List Addr} : Sv K U L G e v F → SvA K U L G es vs F' → SvA K U L G (e :: es) (v :: vs) (F ++ F')
end
def CeK (L L' : Ow) : Prop := ∀ a I, (a, HI.ce I) ∈ L → (a, HI.ce I) ∈ L'
theorem sv_mono {U : Vx} {L L' : Ow} {G G' : Hp} (x : Ex G G') (hc : CeK L L') : ∀ (e : E) (v : V) (F : List Addr), (∀ a ∈ F, ∀ o, (a, o) ∈ L → (a, o) ∈ L') → Sv K U L G e v F → Sv K U L' G' e v F
  | .any, v, F, hl, h => by cases h; exact .any _
  | .d d, v, F, hl, h => by cases h with | d r => exact .d (r.mono x)
  | .own ds, v, F, hl, h => by cases h with | own m r => exact .own (hl _ (by simp) _ m) (r.mono x)
  | .dic ks ds, v, F, hl, h => by cases h with | dic m k n r => exact .dic (hl _ (by simp) _ m) k n (r.mono x)
  | .ob C ks es, v, F, hl, h => by cases h with | ob m k s => exact .ob (hl _ (by simp) _ m) k (all es _ _ (fun a ha => hl a (List.mem_cons_of_mem _ ha)) s)
  | .lo es, v, F, hl, h => by cases h with | lo m s => exact .lo (hl _ (by simp) _ m) (all es _ _ (fun a ha => hl a (List.mem_cons_of_mem _ ha)) s)
  | .st, v, F, hl, h => by cases h with | st d => exact .st d
  | .sc, v, F, hl, h => by cases h with | sc s => exact .sc (ex_l x s)
  | .cd d cs, v, F, hl, h => by cases h with | cd r q => exact .cd (r.mono x) fun c hm => (q c hm).imp id (hc _ _)
  | .oa b w, v, F, hl, h => by cases h with | oa m r => exact .oa (hl _ (by simp) _ m) (r.mono x)
where
  all : ∀ (es : List E) (vs : List V) (F : List Addr), (∀ a ∈ F, ∀ o, (a, o) ∈ L → (a, o) ∈ L') → SvA K U L G es vs F → SvA K U L' G' es vs F
  | [], vs, F, hl, h => by cases h; exact .nil
  | e :: es, vs, F, hl, h => by
    cases h with
    | cons a b => exact .cons (sv_mono x hc e _ _ (fun a ha => hl a (List.mem_append_left _ ha)) a) (all es _ _ (fun a ha => hl a (List.mem_append_right _ ha)) b)
theorem sv_in {U : Vx} {L : Ow} {G : Hp} : ∀ (e : E) (v : V) (F : List Addr), Sv K U L G e v F → ∀ a ∈ F, ∃ o, (a, o) ∈ L
  | .any, v, F, h, a, ha => by cases h; simp at ha
  | .d d, v, F, h, a, ha => by cases h; simp at ha
  | .own ds, v, F, h, a, ha => by cases h with | own m r => simp at ha; subst ha; exact ⟨_, m⟩
  | .dic ks ds, v, F, h, a, ha => by cases h with | dic m k n r => simp at ha; subst ha; exact ⟨_, m⟩
  | .ob C ks es, v, F, h, a, ha => by
    cases h with
    | ob m k s => rcases List.mem_cons.mp ha with rfl | ha; exact ⟨_, m⟩; exact all es _ _ s a ha
  | .lo es, v, F, h, a, ha => by
    cases h with
    | lo m s => rcases List.mem_cons.mp ha with rfl | ha; exact ⟨_, m⟩; exact all es _ _ s a ha
  | .st, v, F, h, a, ha => by cases h; simp at ha
  | .sc, v, F, h, a, ha => by cases h; simp at ha
  | .cd d cs, v, F, h, a, ha => by cases h; simp at ha
  | .oa b w, v, F, h, a, ha => by cases h with | oa m r => simp at ha; subst ha; exact ⟨_, m⟩
where
  all : ∀ (es : List E) (vs : List V) (F : List Addr), SvA K U L G es vs F → ∀ a ∈ F, ∃ o, (a, o) ∈ L
  | [], vs, F, h, a, ha => by cases h; simp at ha
  | e :: es, vs, F, h, a, ha => by
    cases h with
    | cons x y => rcases List.mem_append.mp ha with ha | ha; exact sv_in e _ _ x a ha; exact all es _ _ y a ha
def SlotV (K : PySem.W.Frag) (U : Vx) (L : Ow) (G : Hp) : E → V → Prop
  | .any, _ => True
  | .d d, v => Rp K G v d
  | .own ds, v => ∃ a vs, v = .ref a ∧ (a, HI.ex (.lst vs)) ∈ L ∧ RpA K G vs ds
  | .dic ks ds, v => ∃ a kvs, v = .ref a ∧ (a, HI.ex (.dK kvs)) ∈ L ∧ kvs.map (·.1) = ks ∧ ks.Nodup ∧ RpA K G (kvs.map (·.2)) ds
  | .ob C ks es, v => ∃ F, Sv K U L G (.ob C ks es) v F
  | .lo es, v => ∃ F, Sv K U L G (.lo es) v F
  | .st, v => ∃ a, v = .ref a ∧ DrawOk U a
  | .sc, v => ∃ (a : Addr) (ns : List Int), v = .ref a ∧ SqL K G a (ns.map V.int)
  | .cd d cs, v => Rp K G v d ∧ ∀ c ∈ cs, CellOk U c.1 c.2 ∨ (c.1, HI.ce c.2) ∈ L
  | .oa a w, v => v = .ref a ∧ ∃ o, (a, HI.ex o) ∈ L ∧ ODr K G w o
theorem Sv.slot {U : Vx} {L : Ow} {G : Hp} {e : E} {v : V} {F : List Addr} (h : Sv K U L G e v F) : SlotV K U L G e v := by
  cases h with
  | any => trivial
  | d h => exact h
  | own m r => exact ⟨_, _, rfl, m, r⟩
  | dic m k n r => exact ⟨_, _, rfl, m, k, n, r⟩
  | ob m k s => exact ⟨_, .ob m k s⟩
  | lo m s => exact ⟨_, .lo m s⟩
  | st d => exact ⟨_, rfl, d⟩
  | sc s => exact ⟨_, _, rfl, s⟩
  | cd r q => exact ⟨r, q⟩
  | oa m r => exact ⟨rfl, _, m, r⟩
theorem SlotV.sv {U : Vx} {L : Ow} {G : Hp} {e : E} {v : V} (h : SlotV K U L G e v) : ∃ F, Sv K U L G e v F := by
  cases e with
  | any => exact ⟨_, .any v⟩
  | d d => exact ⟨_, .d h⟩
  | own ds => obtain ⟨a, vs, rfl, m, r⟩ := h; exact ⟨_, .own m r⟩
  | dic ks ds => obtain ⟨a, vs, rfl, m, k, n, r⟩ := h; exact ⟨_, .dic m k n r⟩
  | ob C ks es => exact h
  | lo es => exact h
  | st => obtain ⟨a, rfl, d⟩ := h; exact ⟨_, .st d⟩
  | sc => obtain ⟨a, ns, rfl, d⟩ := h; exact ⟨_, .sc d⟩
  | cd d cs => exact ⟨_, .cd h.1 h.2⟩
  | oa a w => obtain ⟨rfl, o, m, r⟩ := h; exact ⟨_, .oa m r⟩
theorem SlotV.mono {U : Vx} {L : Ow} {G G' : Hp} {e : E} {v : V} (h : SlotV K U L G e v) (x : Ex G G') : SlotV K U L G' e v := let ⟨F, h⟩ := h.sv; (sv_mono x (fun _ _ h => h) e v F (fun _ _ _ h => h) h).slot
theorem SlotV.more {U : Vx} {L L' : Ow} {G : Hp} {e : E} {v : V} (h : SlotV K U L G e v) (hl : ∀ p ∈ L, p ∈ L') : SlotV K U L' G e v := let ⟨F, h⟩ := h.sv; (sv_mono (Ex.refl G) (fun _ _ h => hl _ h) e v F (fun _ _ _ h => hl _ h) h).slot
theorem sv_free {U : Vx} {L : Ow} {G : Hp} {e : E} {v : V} {F : List Addr} (f : e.free = true) (h : Sv K U L G e v F) : F = [] := by
  cases h <;> first | rfl | cases f
structure LOk (U : Vx) (L : Ow) : Prop where
  nm : ∀ p ∈ L, ¬ U.m p.1 ∧ U.He p.1 = none ∧ U.Ge p.1 = none
  fn : ∀ a x y, (a, x) ∈ L → (a, y) ∈ L → x = y
structure EnvF (K : PySem.W.Frag) (U : Vx) (ρ : List E) (σ : L2.St) (L : Ow) (G : Hp) (fp : Nat → List Addr) : Prop where
  sl : ∀ (i : Nat) (e : E), ρ[i]? = some e → ∃ o, σ[i]? = some o ∧ ((e = .any ∧ fp i = []) ∨ ∃ v, o = some v ∧ Sv K U L G e v (fp i))
  nd : ∀ i, (fp i).Nodup
  ds : ∀ i j a, i ≠ j → a ∈ fp i → a ∈ fp j → False
  il : ∀ i, ∀ a ∈ fp i, ∃ o, (a, o) ∈ L
structure EnvOk (K : PySem.W.Frag) (U : Vx) (ρ : List E) (σ : L2.St) (L : Ow) (G : Hp) : Prop where
  len : σ.length = ρ.length
  fs : ∃ fp, EnvF K U ρ σ L G fp
  lo : LOk U L
  ge : Ex U.Ge G
section
variable {U : Vx} {ρ ρ' : List E} {σ : L2.St} {L L' : Ow} {G G' : Hp} {fp : Nat → List Addr}
theorem EnvF.mono (o : EnvF K U ρ σ L G fp) (x : Ex G G') : EnvF K U ρ σ L G' fp := ⟨fun i e h => let ⟨u, h1, h2⟩ := o.sl i e h; ⟨u, h1, h2.elim .inl fun ⟨v, h3, h4⟩ => .inr ⟨v, h3, sv_mono x (fun _ _ h => h) _ _ _ (fun _ _ _ h => h) h4⟩⟩, o.nd, o.ds, o.il⟩
theorem EnvOk.mono (o : EnvOk K U ρ σ L G) (x : Ex G G') : EnvOk K U ρ σ L G' := ⟨o.len, o.fs.elim fun fp h => ⟨fp, h.mono x⟩, o.lo, o.ge.trans x⟩
theorem EnvF.at (o : EnvF K U ρ σ L G fp) {i : Nat} {e : E} (h : ρ[i]? = some e) (k : e.known = true) : ∃ v, σ[i]? = some (some v) ∧ Sv K U L G e v (fp i) := by
  obtain ⟨u, h1, h2⟩ := o.sl i e h
  rcases h2 with ⟨h2, _⟩ | ⟨v, h3, h4⟩
  · subst h2; cases k
  · subst h3; exact ⟨v, h1, h4⟩
theorem EnvOk.at (o : EnvOk K U ρ σ L G) {i : Nat} {e : E} (h : ρ[i]? = some e) (k : e.known = true) : ∃ v, σ[i]? = some (some v) ∧ SlotV K U L G e v := by
  obtain ⟨fp, f⟩ := o.fs
  obtain ⟨v, h1, h2⟩ := f.at h k
  exact ⟨v, h1, h2.slot⟩
/-- a slot is set, and the heap's hidden part changed at no other slot's places -/
theorem EnvF.put (o : EnvF K U ρ σ L G fp) {i : Nat} {e : E} {v : V} {F : List Addr} (x : Ex G G') (hc : CeK L L') (hl : ∀ j, j ≠ i → ∀ a ∈ fp j, ∀ h, (a, h) ∈ L → (a, h) ∈ L') (s : Sv K U L' G' e v F) (nd : F.Nodup) (dj : ∀ j, j ≠ i → ∀ a ∈ fp j, a ∉ F) (σ' : L2.St) (hσ : ∀ j, j ≠ i → σ'[j]? = σ[j]?) (hi : i < ρ.length → σ'[i]? = some (some v)) :
    EnvF K U (ρ.set i e) σ' L' G' (fun j => if j = i then F else fp j) where
  sl := fun j e' hj => by
    by_cases z : i = j
    · subst z
      rw [List.getElem?_set] at hj
      split at hj
      · split at hj
        · rename_i hl'
          cases hj
          exact ⟨_, hi hl', .inr ⟨v, rfl, by rw [if_pos rfl]; exact s⟩⟩
        · cases hj
      · exact absurd rfl ‹_›
    · rw [List.getElem?_set_ne z] at hj
      rw [hσ j (Ne.symm z)]
      obtain ⟨u, h1, h2⟩ := o.sl j e' hj
      rw [if_neg (Ne.symm z)]
      exact ⟨u, h1, h2.elim .inl fun ⟨w, h3, h4⟩ => .inr ⟨w, h3, sv_mono x hc _ _ _ (hl j (Ne.symm z)) h4⟩⟩
  nd := fun j => by
    try dsimp only
    split
    · exact nd
    · exact o.nd j
  ds := fun j k a n h1 h2 => by
    try dsimp only at h1 h2
    split at h1 <;> split at h2
    · rename_i p q; exact n (p.trans q.symm)
    · rename_i p q; exact dj k q a h2 h1
    · rename_i p q; exact dj j p a h1 h2
    · exact o.ds j k a n h1 h2
  il := fun j a ha => by
    try dsimp only at ha
    split at ha
    · exact sv_in _ _ _ s a ha
    · rename_i z; obtain ⟨u, hu⟩ := o.il j a ha; exact ⟨u, hl j z a ha u hu⟩
theorem set_ne {α : Type} {xs : List α} {i j : Nat} {x : α} (h : j ≠ i) : (xs.set i x)[j]? = xs[j]? := List.getElem?_set_ne (Ne.symm h)
theorem EnvOk.set (o : EnvOk K U ρ σ L G) {i : Nat} {e : E} {v : V} (f : e.free = true) (h : SlotV K U L G e v) : EnvOk K U (ρ.set i e) (σ.set i (some v)) L G := by
  obtain ⟨fp, of⟩ := o.fs
  obtain ⟨F, s⟩ := h.sv
  have := sv_free f s
  subst this
  exact ⟨by rw [List.length_set, List.length_set, o.len], ⟨_, of.put (Ex.refl G) (fun _ _ h => h) (fun _ _ _ _ _ h => h) s List.nodup_nil (fun _ _ _ _ h => by simp at h) _ (fun j hj => set_ne hj) (fun hi => by rw [List.getElem?_set_self (by rw [o.len]; exact hi)])⟩, o.lo, o.ge⟩
/-- a new thing of the def's own, at slot i -/
theorem EnvOk.put (o : EnvOk K U ρ σ L G) {i : Nat} {e : E} {v : V} {F : List Addr} (x : Ex G G') (hl : ∀ p ∈ L, p ∈ L') (lo : LOk U L') (s : Sv K U L' G' e v F) (nd : F.Nodup) (hf : ∀ a ∈ F, ∀ u, (a, u) ∉ L) : EnvOk K U (ρ.set i e) (σ.set i (some v)) L' G' := by
  obtain ⟨fp, of⟩ := o.fs
  exact ⟨by rw [List.length_set, List.length_set, o.len], ⟨_, of.put x (fun _ _ h => hl _ h) (fun _ _ _ _ _ h => hl _ h) s nd (fun j _ a ha hF => by obtain ⟨u, hu⟩ := of.il j a ha; exact hf a hF u hu) _ (fun j hj => set_ne hj) (fun hi => by rw [List.getElem?_set_self (by rw [o.len]; exact hi)])⟩, lo, o.ge.trans x⟩
/-- what stands at slot i is changed in its place -/
theorem EnvOk.upd (o : EnvOk K U ρ σ L G) {i : Nat} {e : E} (hi : ρ[i]? = some e) (hk : e.known = true) : ∃ v F, σ[i]? = some (some v) ∧ Sv K U L G e v F ∧ F.Nodup ∧
    ∀ L' G' e' F', Ex G G' → CeK L L' → (∀ a u, a ∉ F → (a, u) ∈ L → (a, u) ∈ L') → LOk U L' → Sv K U L' G' e' v F' → F'.Nodup → (∀ a ∈ F', a ∈ F ∨ ∀ u, (a, u) ∉ L) → EnvOk K U (ρ.set i e') σ L' G' := by
  obtain ⟨fp, of⟩ := o.fs
  obtain ⟨v, h1, h2⟩ := of.at hi hk
  refine ⟨v, fp i, h1, h2, of.nd i, fun L' G' e' F' x hc hl lo s nd hF => ⟨by rw [List.length_set, o.len], ⟨_, of.put (σ' := σ) x hc (fun j hj a ha u hu => hl a u (fun z => of.ds j i a hj ha z) hu) s nd (fun j hj a ha hF' => ?_) (fun _ _ => rfl) (fun _ => h1)⟩, lo, o.ge.trans x⟩⟩
  rcases hF a hF' with z | z
  · exact of.ds j i a hj ha z
  · obtain ⟨u, hu⟩ := of.il j a ha; exact z u hu
theorem EnvOk.wipe1 (o : EnvOk K U ρ σ L G) (i : Nat) (u : Option V) : EnvOk K U (ρ.set i .any) (σ.set i u) L G := by
  obtain ⟨fp, of⟩ := o.fs
  refine ⟨by rw [List.length_set, List.length_set, o.len], ⟨fun j => if j = i then [] else fp j, ?_, fun j => ?_, fun j k a n h1 h2 => ?_, fun j a ha => ?_⟩, o.lo, o.ge⟩
  · intro j e' hj
    by_cases z : i = j
    · subst z
      rw [List.getElem?_set] at hj
      split at hj
      · split at hj
        · rename_i hl
          cases hj
          exact ⟨u, by rw [List.getElem?_set_self (by rw [o.len]; exact hl)], .inl ⟨rfl, by rw [if_pos rfl]⟩⟩
        · cases hj
      · exact absurd rfl ‹_›
    · rw [List.getElem?_set_ne z] at hj ⊢
      rw [if_neg (Ne.symm z)]
      exact of.sl j e' hj
  · try dsimp only
    split
    · exact List.nodup_nil
    · exact of.nd j
  · try dsimp only at h1 h2
    split at h1
    · simp at h1
    · split at h2
      · simp at h2
      · exact of.ds j k a n h1 h2
  · try dsimp only at ha
    split at ha
    · simp at ha
    · exact of.il j a ha
def wipeE (ρ : List E) : List Nat → List E
  | [] => ρ
  | v :: vs => (wipeE ρ vs).set v .any
theorem EnvOk.wipe (o : EnvOk K U ρ σ L G) : ∀ vs, EnvOk K U (wipeE ρ vs) (L2.wipe σ vs) L G
  | [] => o
  | v :: vs => (EnvOk.wipe o vs).wipe1 v none
theorem LOk.nce (lo : LOk U L) {a b : Addr} {I : HO → Prop} {u : HO} (h1 : (b, HI.ce I) ∈ L) (h2 : (a, HI.ex u) ∈ L) : b ≠ a := fun z => by subst z; cases lo.fn _ _ _ h1 h2
theorem LOk.cons (lo : LOk U L) {p : Addr} {o : HI} (hl : ∀ u, (p, u) ∉ L) (hm : ¬ U.m p) (hn : U.He p = none) (hg : U.Ge p = none) : LOk U ((p, o) :: L) := ⟨fun q hq => by
  rcases List.mem_cons.mp hq with rfl | hq
  · exact ⟨hm, hn, hg⟩
  · exact lo.nm q hq, fun a us ws h1 h2 => by
  rcases List.mem_cons.mp h1 with e1 | h1 <;> rcases List.mem_cons.mp h2 with e2 | h2
  · cases e1; cases e2; rfl
  · cases e1; exact absurd h2 (hl _)
  · cases e2; exact absurd h1 (hl _)
  · exact lo.fn a us ws h1 h2⟩
theorem LOk.filter (lo : LOk U L) (p : Addr × HI → Bool) : LOk U (L.filter p) := ⟨fun q hq => lo.nm q (List.mem_filter.mp hq).1, fun b us ws h1 h2 => lo.fn b us ws (List.mem_filter.mp h1).1 (List.mem_filter.mp h2).1⟩
theorem LOk.setO (lo : LOk U L) (a : Addr) (o : HI) : LOk U (Wp.setO a o L) := ⟨fun q hq => by
  rcases setO_mem (b := q.1) (u := q.2) hq with ⟨e1, _, us, e2⟩ | ⟨_, e2⟩
  · rw [e1]; exact lo.nm _ e2
  · exact lo.nm _ e2, fun b us xs h1 h2 => by
  rcases setO_mem h1 with ⟨e1, e2, _⟩ | ⟨n1, h1⟩ <;> rcases setO_mem h2 with ⟨f1, f2, _⟩ | ⟨n2, h2⟩
  · rw [e2, f2]
  · exact absurd e1 n2
  · exact absurd f1 n1
  · exact lo.fn b us xs h1 h2⟩
theorem woEx {G G' : Hp} {p : Addr} (np : G p = none) (x : Ex G G') : Ex G (wo p G') := fun a u e => by
  have : a ≠ p := fun z => by rw [z, np] at e; cases e
  rw [wo_ne this]; exact x a u e
/-- a new object, at no other name, becomes the def's own, at slot i -/
theorem EnvOk.own (o : EnvOk K U ρ σ L G) {i : Nat} {p : Addr} {u : HI} {e : E} (np : G p = none) (x : Ex G G') (s : Ex G (wo p G') → Sv K U ((p, u) :: L) (wo p G') e (.ref p) [p]) (hl : ∀ ws, (p, ws) ∉ L) (hm : ¬ U.m p) (hn : U.He p = none) (hg : U.Ge p = none) :
    EnvOk K U (ρ.set i e) (σ.set i (some (.ref p))) ((p, u) :: L) (wo p G') :=
  o.put (woEx np x) (fun q hq => List.mem_cons_of_mem _ hq) (o.lo.cons hl hm hn hg) (s (woEx np x)) (by simp) (fun a ha u hu => by simp at ha; subst ha; exact hl u hu)
/-- the def's own flat thing at slot i is shown: it is a datum from here on -/
theorem EnvOk.shown (o : EnvOk K U ρ σ L G) {i : Nat} {e : E} {d : D} {a : Addr} {u : HO} (hi : ρ[i]? = some e) (hk : e.known = true) (hF : ∀ F, Sv K U L G e (.ref a) F → F = [a]) (hs : σ[i]? = some (some (.ref a))) (hx : (a, HI.ex u) ∈ L) (na : G a = none) (h : Ex G (L2.upd G a u) → Rp K (L2.upd G a u) (.ref a) d) :
    EnvOk K U (ρ.set i (.d d)) σ (L.filter fun p => decide (p.1 ≠ a)) (L2.upd G a u) := by
  obtain ⟨v, F, h1, h2, h3, h4⟩ := o.upd hi hk
  rw [hs] at h1; injection h1 with h1; injection h1 with h1; subst h1
  have := hF F h2
  subst this
  exact h4 _ _ _ [] (Ex.new na) (fun b I hb => List.mem_filter.mpr ⟨hb, by simpa using o.lo.nce hb hx⟩) (fun b w nb hb => List.mem_filter.mpr ⟨hb, by simpa using nb⟩) (o.lo.filter _) (.d (h (Ex.new na))) List.nodup_nil (fun _ h => by simp at h)
/-- the def's own flat thing at slot i is changed -/
theorem EnvOk.chg (o : EnvOk K U ρ σ L G) {i : Nat} {e e' : E} {a : Addr} {u : HO} (hi : ρ[i]? = some e) (hk : e.known = true) (hF : ∀ F, Sv K U L G e (.ref a) F → F = [a]) (hs : σ[i]? = some (some (.ref a))) {u0 : HO} (hx : (a, HI.ex u0) ∈ L) (h : Sv K U (setO a (.ex u) L) G e' (.ref a) [a]) :
    EnvOk K U (ρ.set i e') σ (setO a (.ex u) L) G := by
  obtain ⟨v, F, h1, h2, h3, h4⟩ := o.upd hi hk
  rw [hs] at h1; injection h1 with h1; injection h1 with h1; subst h1
  have := hF F h2
  subst this
  exact h4 _ _ _ [a] (Ex.refl G) (fun b I hb => mem_setO (o.lo.nce hb hx) hb) (fun b w nb hb => mem_setO (by simpa using nb) hb) (o.lo.setO _ _) h (by simp) (fun _ h => .inl h)
inductive EnvLe : List E → List E → Prop
  | nil : EnvLe [] []
  | same {e : E} {r r' : List E} : EnvLe r r' → EnvLe (e :: r) (e :: r')
  | any {e : E} {r r' : List E} : EnvLe r r' → EnvLe (e :: r) (.any :: r')
theorem EnvLe.refl : ∀ r : List E, EnvLe r r
  | [] => .nil
  | _ :: r => .same (EnvLe.refl r)
theorem EnvLe.at {r r' : List E} (h : EnvLe r r') : ∀ (i : Nat) (e : E), r'[i]? = some e → ∃ e', r[i]? = some e' ∧ (e = .any ∨ e' = e) := by
  induction h with
  | nil => intro i e h; simp at h
  | same _ ih =>
    intro i e h
    cases i with
    | zero => simp at h; subst h; exact ⟨_, rfl, .inr rfl⟩
    | succ i => simp at h; obtain ⟨e', h1, h2⟩ := ih i e h; exact ⟨e', by simpa using h1, h2⟩
  | any _ ih =>
    intro i e h
    cases i with
    | zero => simp at h; subst h; exact ⟨_, rfl, .inl rfl⟩
    | succ i => simp at h; obtain ⟨e', h1, h2⟩ := ih i e h; exact ⟨e', by simpa using h1, h2⟩
theorem EnvLe.len {r r' : List E} (h : EnvLe r r') : r.length = r'.length := by
  induction h with
  | nil => rfl
  | same _ ih => rw [List.length_cons, List.length_cons, ih]
  | any _ ih => rw [List.length_cons, List.length_cons, ih]
theorem EnvLe.sameE {e e' : E} {r r' : List E} (k : EnvLe r r') (h : e = e') : EnvLe (e :: r) (e' :: r') := by subst h; exact .same k
open Classical in
theorem EnvOk.le (o : EnvOk K U ρ σ L G) (h : EnvLe ρ ρ') : EnvOk K U ρ' σ L G := by
  obtain ⟨fp, of⟩ := o.fs
  refine ⟨by rw [o.len, h.len], ⟨fun i => if ρ'[i]? = some .any then [] else fp i, fun i e hi => ?_, fun i => ?_, fun i j a n h1 h2 => ?_, fun i a ha => ?_⟩, o.lo, o.ge⟩
  · obtain ⟨e', h1, h2⟩ := h.at i e hi
    obtain ⟨u, h3, h4⟩ := of.sl i e' h1
    rcases h2 with rfl | rfl
    · exact ⟨u, h3, .inl ⟨rfl, by rw [if_pos hi]⟩⟩
    · by_cases z : e' = .any
      · subst z; exact ⟨u, h3, .inl ⟨rfl, by rw [if_pos hi]⟩⟩
      · rw [if_neg (fun q => z (by rw [hi] at q; injection q))]; exact ⟨u, h3, h4⟩
  · try dsimp only
    split
    · exact List.nodup_nil
    · exact of.nd i
  · try dsimp only at h1 h2
    split at h1
    · simp at h1
    · split at h2
      · simp at h2
      · exact of.ds i j a n h1 h2
  · try dsimp only at ha
    split at ha
    · simp at ha
    · exact of.il i a ha
theorem EnvOk.more (o : EnvOk K U ρ σ L G) (hl : ∀ p ∈ L, p ∈ L') (lo : LOk U L') : EnvOk K U ρ σ L' G := by
  obtain ⟨fp, of⟩ := o.fs
  exact ⟨o.len, ⟨fp, fun i e h => let ⟨u, h1, h2⟩ := of.sl i e h; ⟨u, h1, h2.elim .inl fun ⟨v, h3, h4⟩ => .inr ⟨v, h3, sv_mono (Ex.refl G) (fun _ _ h => hl _ h) _ _ _ (fun _ _ _ h => hl _ h) h4⟩⟩, of.nd, of.ds, fun i a ha => let ⟨u, hu⟩ := of.il i a ha; ⟨u, hl _ hu⟩⟩, lo, o.ge⟩
theorem CellOk.hides {a : Addr} {I : HO → Prop} (c : CellOk U a I) (lo : LOk U L) : CellOk (U.hides L) a I where
  m := .inl c.m
  ne := c.ne
  at_ := fun H i => c.at_ H i.1
  to := fun H H' i e s => ⟨c.to H H' i.1 (fun x mx nx => e x (.inl mx) nx) s, fun p hp => by
    rw [e p.1 (.inr ⟨p.2, hp⟩) (fun z => (lo.nm p hp).1 (z ▸ c.m))]; exact i.2 p hp⟩
theorem CellOk.of {a : Addr} {I : HO → Prop} (h : (a, HI.ce I) ∈ L) (lo : LOk U L) : CellOk (U.hides L) a I where
  m := .inr ⟨_, h⟩
  ne := (lo.nm _ h).2.1
  at_ := fun H i => i.2 _ h
  to := fun H H' i e s => ⟨U.st H H' i.1 fun b mb => e b (.inl mb) fun z => (lo.nm _ h).1 (z ▸ mb), fun p hp => by
    by_cases z : p.1 = a
    · have : p.2 = HI.ce I := lo.fn a _ _ (z ▸ hp) h
      rw [z, this]; exact s
    · rw [e p.1 (.inr ⟨p.2, hp⟩) z]; exact i.2 p hp⟩
theorem cell_ok {a : Addr} {I : HO → Prop} (h : CellOk U a I ∨ (a, HI.ce I) ∈ L) (lo : LOk U L) : CellOk (U.hides L) a I := h.elim (fun h => h.hides lo) (fun h => .of h lo)
theorem DrawOk.hides {st : Addr} (d : DrawOk U st) (lo : LOk U L) : DrawOk (U.hides L) st where
  m := .inl d.m
  ne := d.ne
  at_ := fun H i => d.at_ H i.1
  to := fun H H' i e s => ⟨d.to H H' i.1 (fun x mx nx => e x (.inl mx) nx) s, fun p hp => by
    rw [e p.1 (.inr ⟨p.2, hp⟩) (fun z => (lo.nm p hp).1 (z ▸ d.m))]; exact i.2 p hp⟩
theorem own1 {ds : List D} {a : Addr} : ∀ F, Sv K U L G (.own ds) (.ref a) F → F = [a] := fun F h => by cases h; rfl
theorem oa1 {w : OD} {a : Addr} : ∀ F, Sv K U L G (.oa a w) (.ref a) F → F = [a] := fun F h => by cases h; rfl
theorem dic1 {ks : List Key} {ds : List D} {a : Addr} : ∀ F, Sv K U L G (.dic ks ds) (.ref a) F → F = [a] := fun F h => by cases h; rfl
end
end
end Wp

set_option Elab.async false
set_option linter.all false
set_option maxRecDepth 100000
set_option maxHeartbeats 4000000
namespace Wp
open PySem L2 Evl StX
set_option autoImplicit false
section
variable {K : PySem.W.Frag} {U : Vx} {σ : L2.St} {G : Hp} {te : TE} {ta : TA} {tt : TT} {g : TG}
theorem EM.w {Q Q' : VK} (h : EM U te σ G Q) (k : ∀ v G', Q v G' → Q' v G') : EM U te σ G Q' := fun H j QH q => h H j QH fun v H' G' j' p => q v H' G' j' (k v G' p)
theorem TM.w {Q Q' : Bool → Hp → Prop} (h : TM U tt σ G Q) (k : ∀ v G', Q v G' → Q' v G') : TM U tt σ G Q' := fun H j QH q => h H j QH fun v H' G' j' p => q v H' G' j' (k v G' p)
theorem AM.w {Q Q' : List V → Hp → Prop} (h : AM U ta σ G Q) (k : ∀ v G', Q v G' → Q' v G') : AM U ta σ G Q' := fun H j QH q => h H j QH fun v H' G' j' p => q v H' G' j' (k v G' p)
theorem RM.w {r : Hp → VK → Prop} {Q Q' : VK} (h : RM U r G Q) (k : ∀ v G', Q v G' → Q' v G') : RM U r G Q' := fun H j QH q => h H j QH fun v H' G' j' p => q v H' G' j' (k v G' p)
theorem CM.w {sp : Sp} {vs : List V} {Q Q' : VK} (h : CM U sp vs G Q) (k : ∀ v G', Q v G' → Q' v G') : CM U sp vs G Q' := fun H j QH q => h H j QH fun v H' G' j' p => q v H' G' j' (k v G' p)
theorem GM.w {v : V} {Q Q' : L2.St → Hp → Prop} (h : GM U g v σ G Q) (k : ∀ v G', Q v G' → Q' v G') : GM U g v σ G Q' := fun H j QH q => h H j QH fun v H' G' j' p => q v H' G' j' (k v G' p)
theorem OM.w {to : TO} {Q Q' : Option Int → Hp → Prop} (h : OM U to σ G Q) (k : ∀ v G', Q v G' → Q' v G') : OM U to σ G Q' := fun H j QH q => h H j QH fun v H' G' j' p => q v H' G' j' (k v G' p)
theorem GsM.w {gs : TGs} {vs : List V} {Q Q' : L2.St → Hp → Prop} (h : GsM U gs vs σ G Q) (k : ∀ v G', Q v G' → Q' v G') : GsM U gs vs σ G Q' := fun H j QH q => h H j QH fun v H' G' j' p => q v H' G' j' (k v G' p)
def Po (K : PySem.W.Frag) (U : Vx) (L : Ow) (G : Hp) (Q : E → Prop) : VK := fun v G' => Ex G G' ∧ ∃ e, SlotV K U L G' e v ∧ Q e
def DE (K : PySem.W.Frag) (te : TE) (ρ : List E) (Q : E → Prop) : Prop := ∀ U σ L G, EnvOk K U ρ σ L G → EM (U.hides L) te σ G (Po K U L G Q)
def DT (K : PySem.W.Frag) (tt : TT) (ρ : List E) (Q : Bool → Prop) : Prop := ∀ U σ L G, EnvOk K U ρ σ L G → TM (U.hides L) tt σ G fun b G' => Ex G G' ∧ Q b
def DA (K : PySem.W.Frag) (ta : TA) (ρ : List E) (Q : List D → Prop) : Prop := ∀ U σ L G, EnvOk K U ρ σ L G → AM (U.hides L) ta σ G fun vs G' => Ex G G' ∧ ∃ ds, RpA K G' vs ds ∧ Q ds
def DO (K : PySem.W.Frag) (to : TO) (ρ : List E) (Q : Option Int → Prop) : Prop := ∀ U σ L G, EnvOk K U ρ σ L G → OM (U.hides L) to σ G fun o G' => Ex G G' ∧ Q o
def DR (K : PySem.W.Frag) (r : R2) (x y : E) (Q : E → Prop) : Prop := ∀ U L G v w, LOk U L → SlotV K U L G x v → SlotV K U L G y w → RM (U.hides L) (r v w) G (Po K U L G Q)
def DU (K : PySem.W.Frag) (r : V → Hp → VK → Prop) (x : E) (Q : E → Prop) : Prop := ∀ U L G v, LOk U L → SlotV K U L G x v → RM (U.hides L) (r v) G (Po K U L G Q)
def DB (K : PySem.W.Frag) (r : List V → Hp → VK → Prop) (ds : List D) (Q : E → Prop) : Prop := ∀ U L G vs, LOk U L → RpA K G vs ds → RM (U.hides L) (r vs) G (Po K U L G Q)
def DC (K : PySem.W.Frag) (sp : Sp) (ds : List D) (Q : E → Prop) : Prop := ∀ U L G vs, LOk U L → RpA K G vs ds → CM (U.hides L) sp vs G (Po K U L G Q)
def DG (K : PySem.W.Frag) (g : TG) (e : E) (ρ : List E) (N : List E → Prop) : Prop := ∀ U σ L G v, EnvOk K U ρ σ L G → SlotV K U L G e v → GM (U.hides L) g v σ G fun σ' G' => Ex G G' ∧ ∃ ρ', EnvOk K U ρ' σ' L G' ∧ N ρ'
def DGs (K : PySem.W.Frag) (gs : TGs) (ds : List D) (ρ : List E) (N : List E → Prop) : Prop := ∀ U σ L G vs, EnvOk K U ρ σ L G → RpA K G vs ds → GsM (U.hides L) gs vs σ G fun σ' G' => Ex G G' ∧ ∃ ρ', EnvOk K U ρ' σ' L G' ∧ N ρ'
/-- a new list -/
def DN (K : PySem.W.Frag) (te : TE) (ρ : List E) (Q : List D → Prop) : Prop := ∀ U σ L G, EnvOk K U ρ σ L G → EM (U.hides L) te σ G fun v G' => ∃ p vs ds G1, v = .ref p ∧ Ex G G1 ∧ G1 p = none ∧ Ex G1 G' ∧ G' p = some (.lst vs) ∧ RpA K G1 vs ds ∧ Q ds
/-- a new dict -/
def DND (K : PySem.W.Frag) (te : TE) (ρ : List E) (Q : List Key → List D → Prop) : Prop := ∀ U σ L G, EnvOk K U ρ σ L G → EM (U.hides L) te σ G fun v G' => ∃ p kvs ks ds G1, v = .ref p ∧ Ex G G1 ∧ G1 p = none ∧ Ex G1 G' ∧ G' p = some (.dK kvs) ∧ kvs.map (·.1) = ks ∧ ks.Nodup ∧ RpA K G1 (kvs.map (·.2)) ds ∧ Q ks ds
def SE (e : E) (P : List D → Prop) : Prop := ∃ es, (e = .d (.tup es) ∨ e = .d (.lst es) ∨ e = .own es) ∧ P es
theorem se_tup {es : List D} {P : List D → Prop} (h : P es) : SE (.d (.tup es)) P := ⟨es, .inl rfl, h⟩
theorem se_lst {es : List D} {P : List D → Prop} (h : P es) : SE (.d (.lst es)) P := ⟨es, .inr (.inl rfl), h⟩
theorem se_own {es : List D} {P : List D → Prop} (h : P es) : SE (.own es) P := ⟨es, .inr (.inr rfl), h⟩
def ME (C : Addr) (m : Str) (e : E) (P : List Str → List D → Prop) : Prop := ∃ ks ds, e = .d (.obj C ks ds) ∧ m ∉ ks ∧ P ks ds
theorem me {C : Addr} {m : Str} {ks : List Str} {ds : List D} {P : List Str → List D → Prop} (n : m ∉ ks) (h : P ks ds) : ME C m (.d (.obj C ks ds)) P := ⟨ks, ds, rfl, n, h⟩
def FE (K : PySem.W.Frag) (f : Str) (e : E) (P : D → Prop) : Prop := ∃ C ks ds, e = .d (.obj C ks ds) ∧ Cls K C ∧ NoAttr K C f ∧ ∃ d, (ks.zip ds).lookup f = some d ∧ P d
theorem fe {K : PySem.W.Frag} {f : Str} {C : Addr} {ks : List Str} {ds : List D} {P : D → Prop} {d : D} (c : Cls K C) (n : NoAttr K C f) (l : (ks.zip ds).lookup f = some d) (h : P d) : FE K f (.d (.obj C ks ds)) P := ⟨C, ks, ds, rfl, c, n, d, l, h⟩
def Sz (n : Nat) (P : Prop) : Prop := n ≤ sizeLine ∧ P
theorem sz_ {n : Nat} {P : Prop} (h : n ≤ sizeLine) (k : P) : Sz n P := ⟨h, k⟩
def BE (e : E) (P : Bool → Prop) : Prop := ∃ b, e = .d (.bl b) ∧ P b
theorem be {b : Bool} {P : Bool → Prop} (h : P b) : BE (.d (.bl b)) P := ⟨b, rfl, h⟩
def IE (e : E) (P : Int → Prop) : Prop := ∃ b, e = .d (.int b) ∧ P b
theorem ie {b : Int} {P : Int → Prop} (h : P b) : IE (.d (.int b)) P := ⟨b, rfl, h⟩
/-- a datum -/
def DD (e : E) (P : D → Prop) : Prop := ∃ d, e = .d d ∧ P d
theorem dd {d : D} {P : D → Prop} (h : P d) : DD (.d d) P := ⟨d, rfl, h⟩
end
section
variable {K : PySem.W.Frag} {ρ : List E} {Q : E → Prop} {te ta tb tc tx : TE} {t u tt : TT} {r r' : R2} {QT : Bool → Prop} {tas tr : TA} {QA : List D → Prop} {x y : E}
theorem de_var {i : Nat} (h : ∃ e, ρ[i]? = some e ∧ e.known = true ∧ Q e) : DE K (tVar i) ρ Q := fun U σ L G o => by
  obtain ⟨e, h1, h2, q⟩ := h
  obtain ⟨v, h3, h4⟩ := o.at h1 h2
  exact em_var h3 ⟨Ex.refl G, e, h4, q⟩
theorem de_cI {i : Int} (k : Q (.d (.int i))) : DE K (tC (.int i)) ρ Q := fun U σ L G o => em_c ⟨Ex.refl G, .d (.int _), Rp.int i, k⟩
theorem de_cB {i : Bool} (k : Q (.d (.bl i))) : DE K (tC (.bl i)) ρ Q := fun U σ L G o => em_c ⟨Ex.refl G, .d (.bl _), Rp.bl i, k⟩
theorem de_cS {i : Str} (k : Q (.d (.str i))) : DE K (tC (.str i)) ρ Q := fun U σ L G o => em_c ⟨Ex.refl G, .d (.str _), Rp.str i, k⟩
theorem de_cN (k : Q (.d .non)) : DE K (tC .non) ρ Q := fun U σ L G o => em_c ⟨Ex.refl G, .d .non, Rp.non, k⟩
theorem de_op (h : DE K ta ρ fun x => DE K tb ρ fun y => DR K r x y Q) : DE K (tOp r ta tb) ρ Q := fun U σ L G o =>
  em_op ((h U σ L G o).w fun v G1 ⟨e1, x, sx, hx⟩ => (hx U σ L G1 (o.mono e1)).w fun w G2 ⟨e2, y, sy, hy⟩ => (hy U L G2 v w o.lo (sx.mono e2) sy).w fun z G3 ⟨e3, k⟩ => ⟨(e1.trans e2).trans e3, k⟩)
theorem de_un {ru : V → Hp → VK → Prop} (h : DE K ta ρ fun x => DU K ru x Q) : DE K (tUn ru ta) ρ Q := fun U σ L G o =>
  em_un ((h U σ L G o).w fun v G1 ⟨e1, x, sx, hx⟩ => (hx U L G1 v o.lo sx).w fun z G3 ⟨e3, k⟩ => ⟨e1.trans e3, k⟩)
theorem dr_I {C : Int → Int → Prop} {g : Int → Int → V} {i j : Int} {d : D} (c : C i j) (h : ∀ F, Rp K F (g i j) d) (k : Q (.d d)) : DR K (rI C g) (.d (.int i)) (.d (.int j)) Q := fun U L G v w _ sx sy => by
  cases (sx : Rp K G v (.int i)); cases (sy : Rp K G w (.int j))
  exact rm_I c ⟨Ex.refl G, .d d, h G, k⟩
theorem dr_I0 {g : Int → Int → V} {i j : Int} {d : D} (h : ∀ F, Rp K F (g i j) d) (k : Q (.d d)) : DR K (rI0 g) (.d (.int i)) (.d (.int j)) Q := fun U L G v w _ sx sy => by
  cases (sx : Rp K G v (.int i)); cases (sy : Rp K G w (.int j))
  exact rm_I0 ⟨Ex.refl G, .d d, h G, k⟩
theorem du_U {g : Int → V} {i : Int} {d : D} (h : ∀ F, Rp K F (g i) d) (k : Q (.d d)) : DU K (rU g) (.d (.int i)) Q := fun U L G v _ sx => by
  cases (sx : Rp K G v (.int i))
  exact rm_U ⟨Ex.refl G, .d d, h G, k⟩
theorem dr_eqI {i j : Int} (k : Q (.d (.bl (decide (i = j))))) : DR K rEq (.d (.int i)) (.d (.int j)) Q := fun U L G v w _ sx sy => by
  cases (sx : Rp K G v (.int i)); cases (sy : Rp K G w (.int j))
  exact rm_eqI ⟨Ex.refl G, .d (.bl _), Rp.bl _, k⟩
theorem dr_neI {i j : Int} (k : Q (.d (.bl (!decide (i = j))))) : DR K rNe (.d (.int i)) (.d (.int j)) Q := fun U L G v w _ sx sy => by
  cases (sx : Rp K G v (.int i)); cases (sy : Rp K G w (.int j))
  exact rm_neI ⟨Ex.refl G, .d (.bl _), Rp.bl _, k⟩
theorem dr_eqS {i j : Str} (k : Q (.d (.bl (decide (i = j))))) : DR K rEq (.d (.str i)) (.d (.str j)) Q := fun U L G v w _ sx sy => by
  cases (sx : Rp K G v (.str i)); cases (sy : Rp K G w (.str j))
  exact rm_eqS ⟨Ex.refl G, .d (.bl _), Rp.bl _, k⟩
theorem dr_neS {i j : Str} (k : Q (.d (.bl (!decide (i = j))))) : DR K rNe (.d (.str i)) (.d (.str j)) Q := fun U L G v w _ sx sy => by
  cases (sx : Rp K G v (.str i)); cases (sy : Rp K G w (.str j))
  exact rm_neS ⟨Ex.refl G, .d (.bl _), Rp.bl _, k⟩
theorem dr_eqB {i j : Bool} (k : Q (.d (.bl (decide (i = j))))) : DR K rEq (.d (.bl i)) (.d (.bl j)) Q := fun U L G v w _ sx sy => by
  cases (sx : Rp K G v (.bl i)); cases (sy : Rp K G w (.bl j))
  exact rm_eqB ⟨Ex.refl G, .d (.bl _), Rp.bl _, k⟩
theorem dr_neB {i j : Bool} (k : Q (.d (.bl (!decide (i = j))))) : DR K rNe (.d (.bl i)) (.d (.bl j)) Q := fun U L G v w _ sx sy => by
  cases (sx : Rp K G v (.bl i)); cases (sy : Rp K G w (.bl j))
  exact rm_neB ⟨Ex.refl G, .d (.bl _), Rp.bl _, k⟩
theorem dr_isB {i j : Bool} (k : Q (.d (.bl (decide (i = j))))) : DR K rIsB (.d (.bl i)) (.d (.bl j)) Q := fun U L G v w _ sx sy => by
  cases (sx : Rp K G v (.bl i)); cases (sy : Rp K G w (.bl j))
  exact rm_isB ⟨Ex.refl G, .d (.bl _), Rp.bl _, k⟩
theorem dr_notB {i j : Bool} (k : Q (.d (.bl (!decide (i = j))))) : DR K rNotB (.d (.bl i)) (.d (.bl j)) Q := fun U L G v w _ sx sy => by
  cases (sx : Rp K G v (.bl i)); cases (sy : Rp K G w (.bl j))
  exact rm_notB ⟨Ex.refl G, .d (.bl _), Rp.bl _, k⟩
def D.isN : D → Bool
  | .non => true
  | _ => false
theorem isN_of {F : Hp} {v : V} {d : D} (h : Rp K F v d) : decide (v = .non) = d.isN := by
  cases h <;> simp [D.isN]
theorem dr_isN {d : D} (k : Q (.d (.bl d.isN))) : DR K rIsN (.d d) (.d .non) Q := fun U L G v w _ sx sy H j _ q => by
  cases (sy : Rp K G w .non)
  refine ⟨rfl, q _ _ _ j ⟨Ex.refl G, _, (?_ : SlotV K U L G (.d (.bl d.isN)) _), k⟩⟩
  rw [isN_of sx]; exact .bl _
theorem dr_notN {d : D} (k : Q (.d (.bl (!d.isN)))) : DR K rNotN (.d d) (.d .non) Q := fun U L G v w _ sx sy H j _ q => by
  cases (sy : Rp K G w .non)
  refine ⟨rfl, q _ _ _ j ⟨Ex.refl G, _, (?_ : SlotV K U L G (.d (.bl (!d.isN))) _), k⟩⟩
  rw [isN_of sx]; exact .bl _
/-- data compared; b says whether they are one -/
theorem dr_eqD {d e : D} (b : Bool) (hb : b = true ↔ d = e) (hd : d.plain = true) (he : e.plain = true) (sd : d.dep ≤ 60) (se : e.dep ≤ 60) (k : Q (.d (.bl b))) : DR K (rEqD K) (.d d) (.d e) Q := fun U L G v w _ sx sy =>
  rm_eqD (rp_dp d v hd sx) (rp_dp e w he sy) (py_shaped hd sd) (py_shaped he se) ⟨Ex.refl G, .d (.bl b), by
    have z : PyData.eqv d.py e.py = b := Bool.eq_iff_iff.mpr ((py_eqv d e hd he).trans hb.symm)
    rw [z]; exact .bl _, k⟩
theorem dr_neD {d e : D} (b : Bool) (hb : b = true ↔ d = e) (hd : d.plain = true) (he : e.plain = true) (sd : d.dep ≤ 60) (se : e.dep ≤ 60) (k : Q (.d (.bl (!b)))) : DR K (rNeD K) (.d d) (.d e) Q := fun U L G v w _ sx sy =>
  rm_neD (rp_dp d v hd sx) (rp_dp e w he sy) (py_shaped hd sd) (py_shaped he se) ⟨Ex.refl G, .d (.bl (!b)), by
    have z : PyData.eqv d.py e.py = b := Bool.eq_iff_iff.mpr ((py_eqv d e hd he).trans hb.symm)
    rw [z]; exact .bl _, k⟩
theorem dr_ixL {ds : List D} {i : Int} (h : ∃ d, atI ds i = some d ∧ Q (.d d)) : DR K (rIxL K) (.d (.lst ds)) (.d (.int i)) Q := fun U L G v w _ sx sy => by
  obtain ⟨d, e, q⟩ := h
  cases (sy : Rp K G w (.int i))
  cases (sx : Rp K G v (.lst ds)) with
  | lst a b =>
    obtain ⟨v, h1, h2⟩ := b.atI e
    exact rm_ixL (sq_of a) h1 ⟨Ex.refl G, .d d, h2, q⟩
theorem dr_ixO {ds : List D} {i : Int} (h : ∃ d, atI ds i = some d ∧ Q (.d d)) : DR K (rIxL K) (.own ds) (.d (.int i)) Q := fun U L G v w _ sx sy => by
  obtain ⟨d, e, q⟩ := h
  cases (sy : Rp K G w (.int i))
  obtain ⟨a, vs, rfl, hm, b⟩ := sx
  obtain ⟨v, h1, h2⟩ := b.atI e
  exact fun H j _ q' => ⟨a, vs, i, v, rfl, rfl, sq_of (j.at hm), h1, q' v H G j ⟨Ex.refl G, .d d, h2, q⟩⟩
theorem dr_ixT {ds : List D} {i : Int} (h : ∃ d, atI ds i = some d ∧ Q (.d d)) : DR K (rIxT K) (.d (.tup ds)) (.d (.int i)) Q := fun U L G v w _ sx sy => by
  obtain ⟨d, e, q⟩ := h
  cases (sy : Rp K G w (.int i))
  cases (sx : Rp K G v (.tup ds)) with
  | tup a b =>
    obtain ⟨v, h1, h2⟩ := b.atI e
    exact rm_ixT a h1 ⟨Ex.refl G, .d d, h2, q⟩
theorem dr_cat {ds es : List D} (hz : ds.length + es.length ≤ sizeLine) (k : Q (.d (.lst (ds ++ es)))) : DR K rCat (.d (.lst ds)) (.d (.lst es)) Q := fun U L G v w _ sx sy => by
  cases (sx : Rp K G v (.lst ds)) with
  | lst a b =>
    cases (sy : Rp K G w (.lst es)) with
    | lst a' b' => exact rm_cat a a' (by rw [b.len, b'.len]; exact hz) fun p G' _ e g => ⟨e, .d (.lst (ds ++ es)), .lst g ((b'.mono e).app (b.mono e)), k⟩
theorem dr_catT {ds es : List D} (hn : ds ≠ []) (hz : ds.length + es.length ≤ sizeLine) (k : Q (.d (.tup (ds ++ es)))) : DR K (rCatT K) (.d (.tup ds)) (.d (.tup es)) Q := fun U L G v w _ sx sy => by
  cases (sx : Rp K G v (.tup ds)) with
  | tup a b =>
    cases (sy : Rp K G w (.tup es)) with
    | tup a' b' => exact rm_catT a a' (fun z => by have := b.len; rw [z] at this; exact hn (List.length_eq_zero_iff.mp this.symm)) (by rw [b.len, b'.len]; exact hz) fun p G' e g => ⟨e, .d (.tup (ds ++ es)), .tup g ((b'.mono e).app (b.mono e)), k⟩
theorem de_orV (h : DE K ta ρ fun x => BE x fun c => if c = true then Q (.d (.bl true)) else DE K tb ρ Q) : DE K (tOrV ta tb) ρ Q := fun U σ L G o =>
  em_orV ((h U σ L G o).w fun v G1 ⟨e1, x, sx, b, eb, hb⟩ => by
    subst eb; cases (sx : Rp K G1 v (.bl b))
    refine ⟨b, rfl, ?_⟩
    cases b with
    | true => rw [if_pos rfl] at hb ⊢; exact ⟨e1, .d (.bl _), Rp.bl true, hb⟩
    | false => rw [if_neg Bool.false_ne_true] at hb ⊢; exact (hb U σ L G1 (o.mono e1)).w fun v G2 ⟨e2, k⟩ => ⟨e1.trans e2, k⟩)
theorem de_andV (h : DE K ta ρ fun x => BE x fun c => if c = true then DE K tb ρ Q else Q (.d (.bl false))) : DE K (tAndV ta tb) ρ Q := fun U σ L G o =>
  em_andV ((h U σ L G o).w fun v G1 ⟨e1, x, sx, b, eb, hb⟩ => by
    subst eb; cases (sx : Rp K G1 v (.bl b))
    refine ⟨b, rfl, ?_⟩
    cases b with
    | false => rw [if_neg Bool.false_ne_true] at hb ⊢; exact ⟨e1, .d (.bl _), Rp.bl false, hb⟩
    | true => rw [if_pos rfl] at hb ⊢; exact (hb U σ L G1 (o.mono e1)).w fun v G2 ⟨e2, k⟩ => ⟨e1.trans e2, k⟩)
theorem de_notV (h : DE K ta ρ fun x => BE x fun c => Q (.d (.bl (!c)))) : DE K (tNotV ta) ρ Q := fun U σ L G o =>
  em_notV ((h U σ L G o).w fun v G1 ⟨e1, x, sx, b, eb, hb⟩ => by
    subst eb; cases (sx : Rp K G1 v (.bl b))
    exact ⟨b, rfl, e1, .d (.bl _), Rp.bl _, hb⟩)
theorem de_if (h : DT K t ρ fun c => if c = true then DE K ta ρ Q else DE K tb ρ Q) : DE K (tIf t ta tb) ρ Q := fun U σ L G o =>
  em_if ((h U σ L G o).w fun c G1 ⟨e1, hb⟩ => by
    cases c with
    | true => rw [if_pos rfl] at hb ⊢; exact (hb U σ L G1 (o.mono e1)).w fun v G2 ⟨e2, k⟩ => ⟨e1.trans e2, k⟩
    | false => rw [if_neg Bool.false_ne_true] at hb ⊢; exact (hb U σ L G1 (o.mono e1)).w fun v G2 ⟨e2, k⟩ => ⟨e1.trans e2, k⟩)
theorem de_chain (h : DE K ta ρ fun x => DE K tb ρ fun y => DR K r x y fun z => BE z fun k => if k = true then DE K tc ρ fun w => DR K r' y w Q else Q (.d (.bl false))) : DE K (tChain r r' ta tb tc) ρ Q := fun U σ L G o =>
  em_chain ((h U σ L G o).w fun v G1 ⟨e1, x, sx, hx⟩ => (hx U σ L G1 (o.mono e1)).w fun w G2 ⟨e2, y, sy, hy⟩ => (hy U L G2 v w o.lo (sx.mono e2) sy).w fun z G3 ⟨e3, b', sz, b, eb, hb⟩ => by
    subst eb; cases (sz : Rp K G3 z (.bl b))
    refine ⟨b, rfl, ?_⟩
    cases b with
    | true =>
      rw [if_pos rfl] at hb ⊢
      exact (hb U σ L G3 (o.mono ((e1.trans e2).trans e3))).w fun s G4 ⟨e4, w', sw, hw⟩ => (hw U L G4 w s o.lo ((sy.mono e3).mono e4) sw).w fun z G5 ⟨e5, k⟩ => ⟨((e1.trans e2).trans e3).trans (e4.trans e5), k⟩
    | false => rw [if_neg Bool.false_ne_true] at hb ⊢; exact ⟨(e1.trans e2).trans e3, .d (.bl _), Rp.bl false, hb⟩)
theorem da_nil (k : QA []) : DA K tNil ρ QA := fun U σ L G o => am_nil ⟨Ex.refl G, [], .nil, k⟩
theorem da_cons (h : DE K ta ρ fun x => DD x fun d => DA K tr ρ fun ds => QA (d :: ds)) : DA K (tCons ta tr) ρ QA := fun U σ L G o =>
  am_cons ((h U σ L G o).w fun v G1 ⟨e1, x, sx, d, ed, hd⟩ => (hd U σ L G1 (o.mono e1)).w fun vs G2 ⟨e2, ds, sd, k⟩ => ⟨e1.trans e2, d :: ds, .cons (by subst ed; exact SlotV.mono sx e2) sd, k⟩)
theorem da_star (h : DE K ta ρ fun x => SE x fun es => DA K tr ρ fun ds => QA (es ++ ds)) : DA K (tStar K ta tr) ρ QA := fun U σ L G o H j QH q =>
  h U σ L G o H j _ fun v H1 G1 j1 ⟨e1, x, sx, es, ed, hd⟩ => by
    have k : ∃ p xs, v = V.ref p ∧ (SqT K H1 p xs ∨ SqL K H1 p xs) ∧ RpA K G1 xs es := by
      rcases ed with rfl | rfl | rfl
      · cases (sx : Rp K G1 v (.tup es)) with | tup a b => exact ⟨_, _, rfl, .inl (ex_t j1.up a), b⟩
      · cases (sx : Rp K G1 v (.lst es)) with | lst a b => exact ⟨_, _, rfl, .inr (ex_l j1.up (sq_of a)), b⟩
      · obtain ⟨a, vs, rfl, hm, b⟩ := sx
        exact ⟨_, _, rfl, .inr (sq_of (j1.at hm)), b⟩
    obtain ⟨p, xs, rfl, hp, b⟩ := k
    exact ⟨p, xs, rfl, hp, hd U σ L G1 (o.mono e1) H1 j1 _ fun vs H2 G2 j2 ⟨e2, ds, sd, k⟩ => q _ _ _ j2 ⟨e1.trans e2, es ++ ds, sd.app (b.mono e2), k⟩⟩
theorem de_lst (h : DA K tas ρ fun ds => Sz ds.length (Q (.d (.lst ds)))) : DE K (tLst tas) ρ Q := fun U σ L G o =>
  em_lst ((h U σ L G o).w fun vs G1 ⟨e1, ds, sd, hz, k⟩ => ⟨by rw [sd.len]; exact hz, fun p G2 _ e2 g => ⟨e1.trans e2, .d (.lst ds), .lst g (sd.mono e2), k⟩⟩)
theorem de_tup (h : DA K tas ρ fun ds => Sz ds.length (Q (.d (.tup ds)))) : DE K (tTup tas) ρ Q := fun U σ L G o =>
  em_tup ((h U σ L G o).w fun vs G1 ⟨e1, ds, sd, hz, k⟩ => ⟨by rw [sd.len]; exact hz, fun p G2 _ e2 g => ⟨e1.trans e2, .d (.tup ds), .tup (st_of g) (sd.mono e2), k⟩⟩)
theorem dn_lst {QN : List D → Prop} (h : DA K tas ρ fun ds => Sz ds.length (QN ds)) : DN K (tLst tas) ρ QN := fun U σ L G o =>
  em_lst ((h U σ L G o).w fun vs G1 ⟨e1, ds, sd, hz, k⟩ => ⟨by rw [sd.len]; exact hz, fun p G2 n e2 g => ⟨p, vs, ds, G1, rfl, e1, n, e2, g, sd, k⟩⟩)
theorem de_cb {rc : List V → Hp → VK → Prop} (h : DA K tas ρ fun ds => DB K rc ds Q) : DE K (tCB rc tas) ρ Q := fun U σ L G o =>
  em_cb ((h U σ L G o).w fun vs G1 ⟨e1, ds, sd, hd⟩ => (hd U L G1 vs o.lo sd).w fun z G3 ⟨e3, k⟩ => ⟨e1.trans e3, k⟩)
theorem de_bits (h : DE K ta ρ fun x => IE x fun i => Q (.d (.int (Builtin.Int.intBits i : Nat)))) : DE K (tBits ta) ρ Q := fun U σ L G o =>
  em_bits ((h U σ L G o).w fun v G1 ⟨e1, x, sx, i, ei, k⟩ => by subst ei; cases (sx : Rp K G1 v (.int i)); exact ⟨i, rfl, e1, .d (.int _), Rp.int _, k⟩)
theorem de_call {sp : Sp} {E' : XK} (h : DA K tas ρ fun ds => DC K sp ds Q) : DE K (tCall sp [] E' tas) ρ Q := fun U σ L G o =>
  em_call ((h U σ L G o).w fun vs G1 ⟨e1, ds, sd, hd⟩ => (hd U L G1 vs o.lo sd).w fun z G3 ⟨e3, k⟩ => ⟨e1.trans e3, k⟩)
/-! ### len and its like, of a list of the def's own -/
theorem de_lenO {i : Nat} (h : ∃ ds, ρ[i]? = some (.own ds) ∧ Q (.d (.int (ds.length : Nat)))) : DE K (tCB (rLenQ K) (tCons (tVar i) tNil)) ρ Q := fun U σ L G o H j QH q => by
  obtain ⟨ds, h1, h2⟩ := h
  obtain ⟨v, h3, a, vs, rfl, hm, b⟩ := o.at h1 rfl
  refine ⟨_, h3, a, vs, rfl, .inl (sq_of (j.at hm)), q _ _ _ j ⟨Ex.refl G, .d (.int (ds.length : Nat)), ?_, h2⟩⟩
  rw [b.len]; exact .int _
theorem db_lenL {ds : List D} (k : Q (.d (.int (ds.length : Nat)))) : DB K (rLenQ K) [.lst ds] Q := fun U L G vs _ h => by
  cases h with
  | cons a n => cases n; cases a with | lst x b => exact rm_lenL (sq_of x) ⟨Ex.refl G, .d (.int (ds.length : Nat)), by rw [b.len]; exact .int _, k⟩
theorem db_lenT {ds : List D} (k : Q (.d (.int (ds.length : Nat)))) : DB K (rLenQ K) [.tup ds] Q := fun U L G vs _ h => by
  cases h with
  | cons a n => cases n; cases a with | tup x b => exact rm_lenT x ⟨Ex.refl G, .d (.int (ds.length : Nat)), by rw [b.len]; exact .int _, k⟩
theorem db_lenM {α : Type} {f : α → D} {xs : List α} (k : Q (.d (.int (xs.length : Nat)))) : DB K (rLenQ K) [.lst (xs.map f)] Q := db_lenL (by rw [List.length_map]; exact k)
theorem db_lenMT {α : Type} {f : α → D} {xs : List α} (k : Q (.d (.int (xs.length : Nat)))) : DB K (rLenQ K) [.tup (xs.map f)] Q := db_lenT (by rw [List.length_map]; exact k)
theorem db_int {i : Int} (k : Q (.d (.int i))) : DB K rIntQ [.int i] Q := fun U L G vs _ h => by
  cases h with | cons a n => cases n; cases a; exact rm_int ⟨Ex.refl G, .d (.int _), Rp.int _, k⟩
theorem db_intB {b : Bool} (k : Q (.d (.int (if b then 1 else 0)))) : DB K rIntQ [.bl b] Q := fun U L G vs _ h => by
  cases h with | cons a n => cases n; cases a; exact fun H j _ q => .inr ⟨b, rfl, q _ _ _ j ⟨Ex.refl G, .d (.int _), Rp.int _, k⟩⟩
theorem db_max {i l : Int} (k : Q (.d (.int (if l > i then l else i)))) : DB K rMaxQ [.int i, .int l] Q := fun U L G vs _ h => by
  cases h with | cons a n => cases n with | cons a' n => cases n; cases a; cases a'; exact rm_max ⟨Ex.refl G, .d (.int _), Rp.int _, k⟩
theorem db_min {i l : Int} (k : Q (.d (.int (if l < i then l else i)))) : DB K rMinQ [.int i, .int l] Q := fun U L G vs _ h => by
  cases h with | cons a n => cases n with | cons a' n => cases n; cases a; cases a'; exact rm_min ⟨Ex.refl G, .d (.int _), Rp.int _, k⟩
theorem db_listL {ds : List D} (k : Q (.d (.lst ds))) : DB K (rListQ K) [.lst ds] Q := fun U L G vs _ h => by
  cases h with
  | cons a n => cases n; cases a with | lst x b => exact rm_list (.inl (sq_of x)) fun l G' _ e g => ⟨e, .d (.lst ds), .lst g (b.mono e), k⟩
theorem db_listT {ds : List D} (k : Q (.d (.lst ds))) : DB K (rListQ K) [.tup ds] Q := fun U L G vs _ h => by
  cases h with
  | cons a n => cases n; cases a with | tup x b => exact rm_list (.inr x) fun l G' _ e g => ⟨e, .d (.lst ds), .lst g (b.mono e), k⟩
theorem db_tupL {ds : List D} (k : Q (.d (.tup ds))) : DB K (rTupQ K) [.lst ds] Q := fun U L G vs _ h => by
  cases h with
  | cons a n => cases n; cases a with | lst x b => exact rm_tupL (sq_of x) fun l G' _ e g => ⟨e, .d (.tup ds), .tup (st_of g) (b.mono e), k⟩
theorem db_tupT {ds : List D} (k : Q (.d (.tup ds))) : DB K (rTupQ K) [.tup ds] Q := fun U L G vs _ h => by
  cases h with
  | cons a n => cases n; cases a with | tup x b => exact rm_tupT x ⟨Ex.refl G, .d (.tup ds), .tup x b, k⟩
theorem rpa_ints {F : Hp} {ns : List Int} : ∀ {vs : List V}, RpA K F vs (ns.map D.int) → vs = ns.map V.int := by
  induction ns with
  | nil => intro vs h; cases h; rfl
  | cons n ns ih => intro vs h; cases h with | cons a b => cases a; rw [ih b]; rfl
theorem rpa_bls {F : Hp} {ns : List Bool} : ∀ {vs : List V}, RpA K F vs (ns.map D.bl) → vs = ns.map V.bl := by
  induction ns with
  | nil => intro vs h; cases h; rfl
  | cons n ns ih => intro vs h; cases h with | cons a b => cases a; rw [ih b]; rfl
theorem db_sum {ns : List Int} (k : Q (.d (.int ns.sum))) : DB K (rSum K) [.lst (ns.map D.int)] Q := fun U L G vs _ h => by
  cases h with
  | cons a n => cases n; cases a with | lst x b => rw [rpa_ints b] at x; exact rm_sum (sq_of x) ⟨Ex.refl G, .d (.int _), Rp.int _, k⟩
theorem db_all {ns : List Bool} (k : Q (.d (.bl (ns.all id)))) : DB K (rAll K) [.lst (ns.map D.bl)] Q := fun U L G vs _ h => by
  cases h with
  | cons a n => cases n; cases a with | lst x b => rw [rpa_bls b] at x; exact rm_all (sq_of x) ⟨Ex.refl G, .d (.bl _), Rp.bl _, k⟩
theorem db_any {ns : List Bool} (k : Q (.d (.bl (ns.any id)))) : DB K (rAny K) [.lst (ns.map D.bl)] Q := fun U L G vs _ h => by
  cases h with
  | cons a n => cases n; cases a with | lst x b => rw [rpa_bls b] at x; exact rm_any (sq_of x) ⟨Ex.refl G, .d (.bl _), Rp.bl _, k⟩
/-! ### slices -/
def cutO (ds : List D) (lo hi : Option Int) : List D := (ds.drop (HT.sIx ds.length 0 lo)).take (HT.sIx ds.length ds.length hi - HT.sIx ds.length 0 lo)
theorem do_none {QO : Option Int → Prop} (k : QO none) : DO K tNoPart ρ QO := fun U σ L G o => om_none ⟨Ex.refl G, k⟩
theorem do_some {QO : Option Int → Prop} (h : DE K te ρ fun x => IE x fun i => QO (some i)) : DO K (tPart te) ρ QO := fun U σ L G o =>
  om_some ((h U σ L G o).w fun v G1 ⟨e1, x, sx, i, ei, k⟩ => by subst ei; cases (sx : Rp K G1 v (.int i)); exact ⟨i, rfl, e1, k⟩)
/-- a slice by its reading -/
def DSl (K : PySem.W.Frag) (r : V → Option Int → Option Int → Hp → VK → Prop) (x : E) (lo hi : Option Int) (Q : E → Prop) : Prop := ∀ U L G v, LOk U L → SlotV K U L G x v → RM (U.hides L) (r v lo hi) G (Po K U L G Q)
theorem de_sl {r : V → Option Int → Option Int → Hp → VK → Prop} {tl th : TO} (h : DE K te ρ fun x => DO K tl ρ fun l => DO K th ρ fun u => DSl K r x l u Q) : DE K (tSl r te tl th) ρ Q := fun U σ L G o =>
  em_sl ((h U σ L G o).w fun v G1 ⟨e1, x, sx, hx⟩ => (hx U σ L G1 (o.mono e1)).w fun l G2 ⟨e2, h2⟩ => (h2 U σ L G2 (o.mono (e1.trans e2))).w fun u G3 ⟨e3, h3⟩ => (h3 U L G3 v o.lo ((sx.mono e2).mono e3)).w fun z G4 ⟨e4, k⟩ => ⟨((e1.trans e2).trans e3).trans e4, k⟩)
theorem dsl_L {ds : List D} {lo hi : Option Int} (k : Q (.d (.lst (cutO ds lo hi)))) : DSl K (rSlL K) (.d (.lst ds)) lo hi Q := fun U L G v _ sx => by
  cases (sx : Rp K G v (.lst ds)) with
  | lst a b => exact rm_slL (sq_of a) fun p G' _ e g => ⟨e, .d (.lst (cutO ds lo hi)), .lst g ((b.mono e).cut lo hi), k⟩
theorem dsl_O {ds : List D} {lo hi : Option Int} (k : Q (.d (.lst (cutO ds lo hi)))) : DSl K (rSlL K) (.own ds) lo hi Q := fun U L G v _ sx H j _ q => by
  obtain ⟨a, vs, rfl, hm, b⟩ := sx
  exact ⟨a, vs, rfl, sq_of (j.at hm), fun p hp => q _ _ _ (j.alloc hp) ⟨Ex.new (j.free hp), .d (.lst (cutO ds lo hi)), .lst upd_same ((b.mono (Ex.new (j.free hp))).cut lo hi), k⟩⟩
theorem dsl_T {ds : List D} {lo hi : Option Int} (hn : ¬ (HT.sIx ds.length 0 lo = 0 ∧ HT.sIx ds.length ds.length hi = ds.length)) (k : Q (.d (.tup (cutO ds lo hi)))) : DSl K (rSlT K) (.d (.tup ds)) lo hi Q := fun U L G v _ sx => by
  cases (sx : Rp K G v (.tup ds)) with
  | tup a b => exact rm_slT a (by rw [b.len]; exact hn) fun p G' e g => ⟨e, .d (.tup (cutO ds lo hi)), .tup (st_of g) ((b.mono e).cut lo hi), k⟩
theorem de_revL (h : DE K te ρ fun x => ∃ ds, (x = .d (.lst ds) ∨ x = .own ds) ∧ Q (.d (.lst ds.reverse))) : DE K (tRevL K te) ρ Q := fun U σ L G o H j QH q =>
  h U σ L G o H j _ fun v H1 G1 j1 ⟨e1, x, sx, es, ed, hd⟩ => by
    have k : ∃ p xs, v = V.ref p ∧ SqL K H1 p xs ∧ RpA K G1 xs es := by
      rcases ed with rfl | rfl
      · cases (sx : Rp K G1 v (.lst es)) with | lst a b => exact ⟨_, _, rfl, ex_l j1.up (sq_of a), b⟩
      · obtain ⟨a, vs, rfl, hm, b⟩ := sx
        exact ⟨_, _, rfl, sq_of (j1.at hm), b⟩
    obtain ⟨p, xs, rfl, hp, b⟩ := k
    exact ⟨p, xs, rfl, hp, fun l hl => q _ _ _ (j1.alloc hl) ⟨e1.trans (Ex.new (j1.free hl)), .d (.lst es.reverse), .lst upd_same (b.mono (Ex.new (j1.free hl))).rev, hd⟩⟩
/-! ### fields and methods -/
theorem lk_of {F : Hp} : ∀ {fvs : List (Str × V)} {ds : List D}, RpA K F (fvs.map (·.2)) ds → ∀ {f : Str} {d : D}, ((fvs.map (·.1)).zip ds).lookup f = some d → ∃ v, fvs.lookup f = some v ∧ Rp K F v d
  | [], ds, h, f, d, e => by simp at e
  | (k, v) :: fvs, ds, h, f, d, e => by
    cases ds with
    | nil => cases h
    | cons d' ds =>
      cases h with
      | cons a b =>
        simp only [List.map_cons, List.zip_cons_cons, List.lookup_cons] at e ⊢
        cases z : f == k with
        | true => rw [z] at e; simp at e; subst e; exact ⟨v, by simp, a⟩
        | false => rw [z] at e; simp at e ⊢; exact lk_of b e
theorem lk_none : ∀ {fvs : List (Str × V)} {f : Str}, f ∉ fvs.map (·.1) → fvs.lookup f = none
  | [], f, h => rfl
  | (k, v) :: fvs, f, h => by
    simp only [List.map_cons, List.mem_cons, not_or] at h
    rw [List.lookup_cons]
    have : (f == k) = false := by simpa using h.1
    rw [this]
    exact lk_none h.2
theorem de_fld {f : Str} (h : DE K ta ρ fun x => FE K f x fun d => Q (.d d)) : DE K (tFld K ta f) ρ Q := fun U σ L G o =>
  em_fld ((h U σ L G o).w fun v G1 ⟨e1, x, sx, C, ks, ds, ed, hc, hn, d, hl, k⟩ => by
    subst ed
    cases (sx : Rp K G1 v (.obj C ks ds)) with
    | obj a kk b =>
      subst kk
      obtain ⟨w, h1, h2⟩ := lk_of b hl
      exact ⟨_, C, _, _, w, rfl, a, hc, hn, h1, e1, .d d, h2, k⟩)
theorem de_meth {C : Addr} {m : Str} {sp : Sp} {E' : XK} (h : DE K ta ρ fun x => ME C m x fun ks ds => DA K tas ρ fun as => DC K sp (.obj C ks ds :: as) Q) : DE K (tMeth C m sp [] E' ta tas) ρ Q := fun U σ L G o =>
  em_meth ((h U σ L G o).w fun v G1 ⟨e1, x, sx, ks, ds, ed, hn, hd⟩ => by
    subst ed
    cases id (sx : Rp K G1 v (.obj C ks ds)) with
    | obj a kk b =>
      subst kk
      exact ⟨_, _, _, rfl, a, lk_none hn, (hd U σ L G1 (o.mono e1)).w fun vs G2 ⟨e2, as, sa, k⟩ => (k U L G2 _ o.lo (.cons (Rp.mono (.obj a rfl b) e2) sa)).w fun z G3 ⟨e3, k⟩ => ⟨(e1.trans e2).trans e3, k⟩⟩)
/-! ### tests -/
theorem dt_test (h : DE K te ρ fun x => BE x fun k => QT k) : DT K (tTest te) ρ QT := fun U σ L G o =>
  tm_test ((h U σ L G o).w fun v G1 ⟨e1, x, sx, b, eb, hb⟩ => by subst eb; cases (sx : Rp K G1 v (.bl b)); exact ⟨b, rfl, e1, hb⟩)
theorem dt_B (h : DE K te ρ fun x => BE x fun k => QT k) : DT K (tB te) ρ QT := fun U σ L G o =>
  tm_B ((h U σ L G o).w fun v G1 ⟨e1, x, sx, b, eb, hb⟩ => by subst eb; cases (sx : Rp K G1 v (.bl b)); exact ⟨b, rfl, e1, hb⟩)
theorem dt_and (h : DT K t ρ fun c => if c = true then DT K u ρ QT else QT false) : DT K (tAnd t u) ρ QT := fun U σ L G o =>
  tm_and ((h U σ L G o).w fun c G1 ⟨e1, hb⟩ => by
    cases c with
    | true => rw [if_pos rfl] at hb ⊢; exact (hb U σ L G1 (o.mono e1)).w fun v G2 ⟨e2, k⟩ => ⟨e1.trans e2, k⟩
    | false => rw [if_neg Bool.false_ne_true] at hb ⊢; exact ⟨e1, hb⟩)
theorem dt_or (h : DT K t ρ fun c => if c = true then QT true else DT K u ρ QT) : DT K (tOr t u) ρ QT := fun U σ L G o =>
  tm_or ((h U σ L G o).w fun c G1 ⟨e1, hb⟩ => by
    cases c with
    | true => rw [if_pos rfl] at hb ⊢; exact ⟨e1, hb⟩
    | false => rw [if_neg Bool.false_ne_true] at hb ⊢; exact (hb U σ L G1 (o.mono e1)).w fun v G2 ⟨e2, k⟩ => ⟨e1.trans e2, k⟩)
theorem dt_not (h : DT K t ρ fun c => QT (!c)) : DT K (tNot t) ρ QT := fun U σ L G o => tm_not (h U σ L G o)
theorem dt_yes (k : QT true) : DT K tYes ρ QT := fun U σ L G o => tm_yes ⟨Ex.refl G, k⟩
/-! ### targets -/
variable {N : List E → Prop}
theorem dg_name {i : Nat} {e : E} {ρ' : List E} (f : e.free = true) (hr : ρ.set i e = ρ') (k : N ρ') : DG K (gName i) e ρ N := fun U σ L G v o s => gm_name ⟨Ex.refl G, _, o.set f s, by rw [hr]; exact k⟩
theorem dg_tup {n : Nat} {gs : TGs} {ds : List D} (hl : ds.length = n) (k : DGs K gs ds ρ N) : DG K (gTup K n gs) (.d (.tup ds)) ρ N := fun U σ L G v o s => by
  cases (s : Rp K G v (.tup ds)) with
  | tup a b => exact gm_tup a (by rw [b.len]; exact hl) (k U σ L G _ o b)
theorem dgs_nil (k : N ρ) : DGs K gNil [] ρ N := fun U σ L G vs o s => by cases s; exact gs_nil ⟨Ex.refl G, ρ, o, k⟩
theorem dgs_cons {g : TG} {gs : TGs} {d : D} {ds : List D} (k : DG K g (.d d) ρ fun ρ' => DGs K gs ds ρ' N) : DGs K (gCons g gs) (d :: ds) ρ N := fun U σ L G vs o s => by
  cases s with
  | cons a b => exact gs_cons ((k U σ L G _ o a).w fun σ1 G1 ⟨e1, ρ1, o1, k1⟩ => (k1 U σ1 L G1 _ o1 (b.mono e1)).w fun σ2 G2 ⟨e2, k2⟩ => ⟨e1.trans e2, k2⟩)
end
end Wp

set_option Elab.async false
set_option linter.all false
set_option maxRecDepth 100000
set_option maxHeartbeats 4000000
namespace Wp
open PySem L2 Evl StX
set_option autoImplicit false
def KN (K : PySem.W.Frag) (U : Vx) (kn : L2.St → Hp → Prop) (G : Hp) (N : List E → Prop) : Prop := ∀ ρ' σ' L' G', N ρ' → EnvOk K U ρ' σ' L' G' → Ex G G' → KM (U.hides L') kn σ' G'
def KR (K : PySem.W.Frag) (U : Vx) (rt : VK) (G : Hp) (R : D → Prop) : Prop := ∀ d v L' G', R d → Rp K G' v d → Ex G G' → LOk U L' → KV (U.hides L') rt v G'
def DS (K : PySem.W.Frag) (ts : TS) (ρ : List E) (N B C : List E → Prop) (R : D → Prop) : Prop := ∀ U σ L G (Dn : Ends), EnvOk K U ρ σ L G → KN K U Dn.nx G N → KN K U Dn.bk G B → KN K U Dn.ct G C → KR K U Dn.rt G R → SM (U.hides L) ts Dn σ G
/-- weaker, and then P -/
def Wk (P : List E → Prop) : List E → Prop := fun ρ => ∃ ρ', EnvLe ρ ρ' ∧ P ρ'
/-- behind the change of a slot -/
def SetTo (ρ : List E) (i : Nat) (e : E) (N : List E → Prop) : Prop := ∃ ρ', ρ.set i e = ρ' ∧ N ρ'
theorem set_to {ρ ρ' : List E} {i : Nat} {e : E} {N : List E → Prop} (h : ρ.set i e = ρ') (k : N ρ') : SetTo ρ i e N := ⟨ρ', h, k⟩
section
variable {K : PySem.W.Frag} {U : Vx} {kn : L2.St → Hp → Prop} {rt : VK} {G G' : Hp} {N : List E → Prop} {R : D → Prop}
theorem KN.mono (h : KN K U kn G N) (e : Ex G G') : KN K U kn G' N := fun ρ' σ' L' G2 n o e2 => h ρ' σ' L' G2 n o (e.trans e2)
theorem KR.mono (h : KR K U rt G R) (e : Ex G G') : KR K U rt G' R := fun d v L' G2 r s e2 lo => h d v L' G2 r s (e.trans e2) lo
theorem Ex.wo' {G G1 : Hp} {p : Addr} (n : G p = none) (e : Ex G G1) : Ex G (wo p G1) := fun a u h => by
  have : a ≠ p := fun z => by rw [z, n] at h; cases h
  rw [wo_ne this]; exact e a u h
end
section
variable {K : PySem.W.Frag} {ρ : List E} {te ti tl : TE} {tt : TT} {g : TG} {ts t1 t2 : TS} {ta : TA} {N B C : List E → Prop} {R : D → Prop} {Q : E → Prop}
theorem ds_seq (h : DS K t1 ρ (fun ρ' => DS K t2 ρ' N B C R) B C R) : DS K (tSeq t1 t2) ρ N B C R := fun U σ L G Dn o n b c r =>
  sm_seq (h U σ L G ⟨t2 Dn, Dn.rt, Dn.bk, Dn.ct⟩ o (fun ρ' σ' L' G' k o' e => fun H j => k U σ' L' G' Dn o' (n.mono e) (b.mono e) (c.mono e) (r.mono e) H j) b c r)
theorem ds_next (k : N ρ) : DS K tNext ρ N B C R := fun U σ L G Dn o n b c r => sm_next (n ρ σ L G k o (Ex.refl G))
theorem ds_brk (k : B ρ) : DS K tBreak ρ N B C R := fun U σ L G Dn o n b c r => sm_brk (b ρ σ L G k o (Ex.refl G))
theorem ds_cont (k : C ρ) : DS K tCont ρ N B C R := fun U σ L G Dn o n b c r => sm_cont (c ρ σ L G k o (Ex.refl G))
theorem ds_asg (h : DE K te ρ fun e => DG K g e ρ N) : DS K (tAsg te g) ρ N B C R := fun U σ L G Dn o n b c r =>
  sm_asg ((h U σ L G o).w fun v G1 ⟨e1, x, sx, hx⟩ => (hx U σ L G1 v (o.mono e1) sx).w fun σ2 G2 ⟨e2, ρ2, o2, n2⟩ => n ρ2 σ2 L G2 n2 o2 (e1.trans e2))
theorem ds_drop (h : DE K te ρ fun _ => N ρ) : DS K (tDrop te) ρ N B C R := fun U σ L G Dn o n b c r =>
  sm_drop ((h U σ L G o).w fun v G1 ⟨e1, x, sx, hx⟩ => n ρ σ L G1 hx (o.mono e1) e1)
theorem ds_ret (h : DE K te ρ fun e => DD e R) : DS K (tRet te) ρ N B C R := fun U σ L G Dn o n b c r =>
  sm_ret ((h U σ L G o).w fun v G1 ⟨e1, x, sx, d, ed, hd⟩ => by subst ed; exact r d v L G1 hd sx e1 o.lo)
theorem ds_retN (h : R .non) : DS K tRetN ρ N B C R := fun U σ L G Dn o n b c r => sm_retN (r .non .non L G h .non (Ex.refl G) o.lo)
theorem ds_if (h : DT K tt ρ fun c => if c = true then DS K t1 ρ N B C R else DS K t2 ρ N B C R) : DS K (tIfS tt t1 t2) ρ N B C R := fun U σ L G Dn o n b c r =>
  sm_if ((h U σ L G o).w fun x G1 ⟨e1, hb⟩ => by
    cases x with
    | true => rw [if_pos rfl] at hb ⊢; exact hb U σ L G1 Dn (o.mono e1) (n.mono e1) (b.mono e1) (c.mono e1) (r.mono e1)
    | false => rw [if_neg Bool.false_ne_true] at hb ⊢; exact hb U σ L G1 Dn (o.mono e1) (n.mono e1) (b.mono e1) (c.mono e1) (r.mono e1))
theorem ds_cut (P : List E → Prop) (h : DS K ts ρ (Wk P) B C R) (k : ∀ ρ', P ρ' → N ρ') : DS K (tCut ts) ρ N B C R := fun U σ L G Dn o n b c r H j =>
  ⟨fun σ' H' => ∃ ρ' L' G', P ρ' ∧ EnvOk K U ρ' σ' L' G' ∧ Ex G G' ∧ J (U.hides L') H' G', fun σ' H' ⟨ρ', L', G', p, o', e', j'⟩ => n ρ' σ' L' G' (k ρ' p) o' e' H' j',
    h U σ L G ⟨fun σ' H' => ∃ ρ' L' G', P ρ' ∧ EnvOk K U ρ' σ' L' G' ∧ Ex G G' ∧ J (U.hides L') H' G', Dn.rt, Dn.bk, Dn.ct⟩ o (fun ρ' σ' L' G' ⟨ρ2, le, p⟩ o' e H' j' => ⟨ρ2, L', G', p, o'.le le, e, j'⟩) b c r H j⟩
/-- the def's own list is a datum from here on -/
theorem ds_freeze (i : Nat) {ds : List D} {ρ' : List E} (hi : ρ[i]? = some (.own ds)) (hr : ρ.set i (.d (.lst ds)) = ρ') (h : DS K ts ρ' N B C R) : DS K ts ρ N B C R := fun U σ L G Dn o n b c r H j => by
  obtain ⟨v, h3, a, vs, rfl, hm, k⟩ := o.at hi rfl
  have na : G a = none := (j.msk a (.inr ⟨_, hm⟩)).1
  have e : Ex G (upd G a (.lst vs)) := Ex.new na
  obtain ⟨n1, n2, _⟩ := o.lo.nm _ hm
  subst hr
  exact h U σ _ _ Dn (o.shown hi rfl own1 h3 hm na fun x => .lst upd_same (k.mono x)) (n.mono e) (b.mono e) (c.mono e) (r.mono e) H (j.show hm n1 n2)
/-- .. and its own dict -/
theorem ds_freezeD (i : Nat) {ks : List Key} {ds : List D} {ρ' : List E} (hi : ρ[i]? = some (.dic ks ds)) (hr : ρ.set i (.d (.dct ks ds)) = ρ') (h : DS K ts ρ' N B C R) : DS K ts ρ N B C R := fun U σ L G Dn o n b c r H j => by
  obtain ⟨v, h3, a, vs, rfl, hm, hk, hnd, k⟩ := o.at hi rfl
  have na : G a = none := (j.msk a (.inr ⟨_, hm⟩)).1
  have e : Ex G (upd G a (.dK vs)) := Ex.new na
  obtain ⟨n1, n2, _⟩ := o.lo.nm _ hm
  subst hr
  exact h U σ _ _ Dn (o.shown hi rfl dic1 h3 hm na fun x =>   .dct (.inl upd_same) hk hnd (k.mono x)) (n.mono e) (b.mono e) (c.mono e) (r.mono e) H (j.show hm n1 n2)
theorem ds_retO {i : Nat} (h : ∃ ds, ρ[i]? = some (.own ds) ∧ R (.lst ds)) : DS K (tRet (tVar i)) ρ N B C R := by
  obtain ⟨ds, h1, h2⟩ := h
  refine ds_freeze i h1 rfl (ds_ret (de_var ⟨.d (.lst ds), ?_, rfl, ⟨_, rfl, h2⟩⟩))
  have hl := (List.getElem?_eq_some_iff.mp h1).1
  rw [List.getElem?_set_self hl]
theorem ds_retD {i : Nat} (h : ∃ ks ds, ρ[i]? = some (.dic ks ds) ∧ R (.dct ks ds)) : DS K (tRet (tVar i)) ρ N B C R := by
  obtain ⟨ks, ds, h1, h2⟩ := h
  refine ds_freezeD i h1 rfl (ds_ret (de_var ⟨.d (.dct ks ds), ?_, rfl, ⟨_, rfl, h2⟩⟩))
  have hl := (List.getElem?_eq_some_iff.mp h1).1
  rw [List.getElem?_set_self hl]
/-- a new list stays the def's own -/
theorem ds_own {i : Nat} (h : DN K te ρ fun ds => SetTo ρ i (.own ds) N) : DS K (tAsg te (gName i)) ρ N B C R := fun U σ L G Dn o n b c r H j =>
  h U σ L G o H j _ fun v H1 G1 j1 ⟨p, vs, ds, G0, ev, e1, np, e2, gp, k, ρ', hr, kn⟩ => by
    subst ev hr
    have hp : U.Ge p = none := none_of_ex o.ge (none_of_ex e1 np)
    have o1 := (o.mono e1)
    have hl : ∀ ws, (p, ws) ∉ L := fun ws hw => by
      have := (j1.msk p (.inr ⟨ws, hw⟩)).1
      rw [gp] at this; cases this
    have hm : ¬ U.m p := fun z => by
      have := (j1.msk p (.inl z)).1
      rw [gp] at this; cases this
    have hn : U.He p = none := j1.new p (by rw [gp]; exact fun q => by cases q) hp
    exact n _ _ _ _ kn (o1.own np e2 (fun x => .own List.mem_cons_self (k.mono x)) hl hm hn hp) (e1.trans (Ex.wo' np e2)) H1 (j1.own gp rfl hp)
/-- .. and a new dict -/
theorem ds_ownD {i : Nat} (h : DND K te ρ fun ks ds => SetTo ρ i (.dic ks ds) N) : DS K (tAsg te (gName i)) ρ N B C R := fun U σ L G Dn o n b c r H j =>
  h U σ L G o H j _ fun v H1 G1 j1 ⟨p, kvs, ks, ds, G0, ev, e1, np, e2, gp, hk, hnd, k, ρ', hr, kn⟩ => by
    subst ev hr
    have hp : U.Ge p = none := none_of_ex o.ge (none_of_ex e1 np)
    have o1 := (o.mono e1)
    have hl : ∀ ws, (p, ws) ∉ L := fun ws hw => by
      have := (j1.msk p (.inr ⟨ws, hw⟩)).1
      rw [gp] at this; cases this
    have hm : ¬ U.m p := fun z => by
      have := (j1.msk p (.inl z)).1
      rw [gp] at this; cases this
    have hn : U.He p = none := j1.new p (by rw [gp]; exact fun q => by cases q) hp
    exact n _ _ _ _ kn (o1.own np e2 (fun x => .dic List.mem_cons_self hk hnd (k.mono x)) hl hm hn hp) (e1.trans (Ex.wo' np e2)) H1 (j1.own gp rfl hp)
/-- xs.append(e) of the def's own list -/
theorem ds_append {i : Nat} (h : ∃ ds, ρ[i]? = some (.own ds) ∧ DE K te ρ fun e => DD e fun d => ds.length < sizeLine ∧ SetTo ρ i (.own (ds ++ [d])) N) : DS K (tDrop (tBM K "list" rAppend (tVar i) (tCons te tNil))) ρ N B C R := fun U σ L G Dn o n b c r H j => by
  obtain ⟨ds, hi, h⟩ := h
  obtain ⟨v, h3, a, vs, rfl, hm, k⟩ := o.at hi rfl
  obtain ⟨n1, n2, _⟩ := o.lo.nm _ hm
  refine ⟨_, h3, .inl ⟨rfl, vs, sq_of (j.at hm)⟩, h U σ L G o H j _ fun y H1 G1 j1 ⟨e1, x, sx, d, ed, hz, ρ', hr, kn⟩ => ⟨a, vs, y, rfl, rfl, j1.at hm, by rw [k.len]; exact hz, ?_⟩⟩
  subst ed hr
  exact n _ _ _ _ kn ((o.mono e1).chg hi rfl own1 h3 hm (.own (mem_setO_self hm) ((RpA.one sx).app (k.mono e1)))) e1 _ (j1.chg hm rfl n1 n2)
theorem ds_extend {i : Nat} (h : ∃ ds, ρ[i]? = some (.own ds) ∧ DE K te ρ fun e => ∃ es, e = .d (.lst es) ∧ ds.length + es.length ≤ sizeLine ∧ SetTo ρ i (.own (ds ++ es)) N) : DS K (tDrop (tBM K "list" rExtend (tVar i) (tCons te tNil))) ρ N B C R := fun U σ L G Dn o n b c r H j => by
  obtain ⟨ds, hi, h⟩ := h
  obtain ⟨v, h3, a, vs, rfl, hm, k⟩ := o.at hi rfl
  obtain ⟨n1, n2, _⟩ := o.lo.nm _ hm
  refine ⟨_, h3, .inl ⟨rfl, vs, sq_of (j.at hm)⟩, h U σ L G o H j _ fun y H1 G1 j1 ⟨e1, x, sx, es, ed, hz, ρ', hr, kn⟩ => ?_⟩
  subst ed hr
  cases (sx : Rp K G1 y (.lst es)) with
  | lst p q => exact ⟨a, _, vs, _, rfl, rfl, j1.at hm, j1.up _ _ p, by rw [k.len, q.len]; exact hz, n _ _ _ _ kn ((o.mono e1).chg hi rfl own1 h3 hm (.own (mem_setO_self hm) (q.app (k.mono e1)))) e1 _ (j1.chg hm rfl n1 n2)⟩
/-- xs[i] = v of the def's own list -/
theorem ds_store {i : Nat} (h : DE K te ρ fun e => DD e fun d => ∃ ds, ρ[i]? = some (.own ds) ∧ DE K ti ρ fun y => IE y fun m => ∃ j, ixN ds.length m = some j ∧ SetTo ρ i (.own (ds.set j d)) N) : DS K (tAsg te (gSub (tVar i) ti rSetL)) ρ N B C R := fun U σ L G Dn o n b c r H j => by
  refine h U σ L G o H j _ fun w H1 G1 j1 ⟨e1, x, sx, d, ed, ds, hi, k2⟩ => ?_
  obtain ⟨v, h3, a, vs, rfl, hm, k⟩ := (o.mono e1).at hi rfl
  obtain ⟨n1, n2, _⟩ := o.lo.nm _ hm
  refine ⟨_, h3, k2 U σ L G1 (o.mono e1) H1 j1 _ fun y H2 G2 j2 ⟨e2, z, sz, m, em, jj, hj, ρ', hr, kn⟩ => ?_⟩
  subst ed em hr
  cases (sz : Rp K G2 y (.int m))
  refine ⟨a, vs, m, jj, rfl, rfl, j2.at hm, by rw [k.len]; exact hj, ?_⟩
  exact n _ _ _ _ kn ((o.mono (e1.trans e2)).chg hi rfl own1 h3 hm (.own (mem_setO_self hm) ((k.mono e2).set (SlotV.mono sx e2) jj))) (e1.trans e2) _ (j2.chg hm rfl n1 n2)
/-- xs.pop() of the def's own list, the item forgotten -/
theorem ds_popO {i : Nat} (h : ∃ ds d, ρ[i]? = some (.own (ds ++ [d])) ∧ SetTo ρ i (.own ds) N) : DS K (tDrop (tBM0 K "list" rPop (tVar i))) ρ N B C R := fun U σ L G Dn o n b c r H j => by
  obtain ⟨ds, d, hi, ρ', hr, kn⟩ := h
  obtain ⟨v, h3, a, vs, rfl, hm, k⟩ := o.at hi rfl
  obtain ⟨n1, n2, _⟩ := o.lo.nm _ hm
  subst hr
  obtain ⟨w, hw, _⟩ := k.get (i := ds.length) (d := d) (by simp)
  have hat : vs[vs.length - 1]? = some w := by rw [k.len]; simpa using hw
  have hl : vs.dropLast = vs.take ds.length := by rw [List.dropLast_eq_take, k.len]; simp
  refine ⟨_, h3, .inl ⟨rfl, vs, sq_of (j.at hm)⟩, a, vs, _, rfl, rfl, j.at hm, hat, ?_⟩
  exact n _ _ _ _ kn (o.chg hi rfl own1 h3 hm (.own (mem_setO_self hm) (by rw [hl]; have := k.take ds.length; simpa using this))) (Ex.refl G) _ (j.chg hm rfl n1 n2)
/-! ### loops -/
theorem loop_env {I : Nat → List E → Prop} {U : Vx} {G1 : Hp} {Dn : Ends} {i : Nat} {g : TG} {x : V} {σ' : L2.St} {H' : Hp} (n : KN K U Dn.nx G1 N) (r : KR K U Dn.rt G1 R) {ρ' : List E} {L' : Ow} {G' : Hp} {e : E} (o' : EnvOk K U ρ' σ' L' G') (e' : Ex G1 G') (j' : J (U.hides L') H' G') (sx : SlotV K U L' G' e x)
    (h : DG K g e ρ' fun ρ2 => DS K ts ρ2 (Wk (I (i + 1))) N (Wk (I (i + 1))) R) :
    g x σ' H' fun σ2 H2 => ts ⟨fun σ H => ∃ ρ L G', I (i + 1) ρ ∧ EnvOk K U ρ σ L G' ∧ Ex G1 G' ∧ J (U.hides L) H G', Dn.rt, Dn.nx, fun σ H => ∃ ρ L G', I (i + 1) ρ ∧ EnvOk K U ρ σ L G' ∧ Ex G1 G' ∧ J (U.hides L) H G'⟩ σ2 H2 :=
  h U σ' L' G' x o' sx H' j' _ fun σ2 H2 G2 j2 ⟨e2, ρ2, o2, k2⟩ => k2 U σ2 L' G2 ⟨fun σ H => ∃ ρ L G', I (i + 1) ρ ∧ EnvOk K U ρ σ L G' ∧ Ex G1 G' ∧ J (U.hides L) H G', Dn.rt, Dn.nx, fun σ H => ∃ ρ L G', I (i + 1) ρ ∧ EnvOk K U ρ σ L G' ∧ Ex G1 G' ∧ J (U.hides L) H G'⟩ o2 (fun ρ3 σ3 L3 G3 ⟨ρ4, le, p4⟩ o3 e3 H3 j3 => ⟨ρ4, L3, G3, p4, o3.le le, (e'.trans e2).trans e3, j3⟩) (n.mono (e'.trans e2))
    (fun ρ3 σ3 L3 G3 ⟨ρ4, le, p4⟩ o3 e3 H3 j3 => ⟨ρ4, L3, G3, p4, o3.le le, (e'.trans e2).trans e3, j3⟩) (r.mono (e'.trans e2)) H2 j2
theorem ds_forL (h : DE K tl ρ fun e => ∃ ds, e = .d (.lst ds) ∧ ∃ I : Nat → List E → Prop, Wk (I 0) ρ ∧ (∀ (i : Nat) d ρ', ds[i]? = some d → I i ρ' → DG K g (.d d) ρ' fun ρ2 => DS K ts ρ2 (Wk (I (i + 1))) N (Wk (I (i + 1))) R) ∧ ∀ ρ', I ds.length ρ' → N ρ') : DS K (tFor (iList K tl) g ts) ρ N B C R := fun U σ L G Dn o n b c r H j =>
  h U σ L G o H j _ fun v H1 G1 j1 ⟨e1, x, sx, ds, ed, I, ⟨ρ0, le0, h0⟩, hs, hd⟩ => by
    subst ed
    cases (sx : Rp K G1 v (.lst ds)) with
    | lst a k =>
      refine ⟨_, rfl, ⟨_, sq_of (j1.up _ _ a)⟩, for_list (fun i σ' H' => ∃ ρ' L' G', I i ρ' ∧ EnvOk K U ρ' σ' L' G' ∧ Ex G1 G' ∧ J (U.hides L') H' G') ⟨ρ0, L, G1, h0, (o.mono e1).le le0, Ex.refl _, j1⟩ (fun i σ' H' _ ⟨ρ', L', G', p, o', e', j'⟩ => sq_of (j'.up _ _ (e' _ _ a))) (fun i y σ' H' hy ⟨ρ', L', G', p, o', e', j'⟩ => ?_) (fun σ' H' ⟨ρ', L', G', p, o', e', j'⟩ => ?_)⟩
      · obtain ⟨d, h1, h2⟩ := k.at hy
        exact loop_env (n.mono e1) (r.mono e1) o' e' j' (e := .d d) (h2.mono e') (hs i d ρ' h1 p)
      · rw [k.len] at p; exact n ρ' σ' L' G' (hd ρ' p) o' (e1.trans e') H' j'
theorem ds_forT (h : DE K tl ρ fun e => ∃ ds, e = .d (.tup ds) ∧ ∃ I : Nat → List E → Prop, Wk (I 0) ρ ∧ (∀ (i : Nat) d ρ', ds[i]? = some d → I i ρ' → DG K g (.d d) ρ' fun ρ2 => DS K ts ρ2 (Wk (I (i + 1))) N (Wk (I (i + 1))) R) ∧ ∀ ρ', I ds.length ρ' → N ρ') : DS K (tFor (iTup K tl) g ts) ρ N B C R := fun U σ L G Dn o n b c r H j =>
  h U σ L G o H j _ fun v H1 G1 j1 ⟨e1, x, sx, ds, ed, I, ⟨ρ0, le0, h0⟩, hs, hd⟩ => by
    subst ed
    cases (sx : Rp K G1 v (.tup ds)) with
    | tup a k =>
      refine ⟨_, rfl, ⟨_, ex_t j1.up a⟩, for_tup (fun i σ' H' => ∃ ρ' L' G', I i ρ' ∧ EnvOk K U ρ' σ' L' G' ∧ Ex G1 G' ∧ J (U.hides L') H' G') ⟨ρ0, L, G1, h0, (o.mono e1).le le0, Ex.refl _, j1⟩ (fun i σ' H' _ ⟨ρ', L', G', p, o', e', j'⟩ => ex_t j'.up (ex_t e' a)) (fun i y σ' H' hy ⟨ρ', L', G', p, o', e', j'⟩ => ?_) (fun σ' H' ⟨ρ', L', G', p, o', e', j'⟩ => ?_)⟩
      · obtain ⟨d, h1, h2⟩ := k.at hy
        exact loop_env (n.mono e1) (r.mono e1) o' e' j' (e := .d d) (h2.mono e') (hs i d ρ' h1 p)
      · rw [k.len] at p; exact n ρ' σ' L' G' (hd ρ' p) o' (e1.trans e') H' j'
theorem ds_forR1 (h : DA K ta ρ fun ws => ∃ m : Int, ws = [.int m] ∧ -(2 ^ 62) ≤ m ∧ m < 2 ^ 62 ∧ ∃ I : Nat → List E → Prop, Wk (I 0) ρ ∧ (∀ (i : Nat) ρ', (i : Int) < m → I i ρ' → DG K g (.d (.int (i : Int))) ρ' fun ρ2 => DS K ts ρ2 (Wk (I (i + 1))) N (Wk (I (i + 1))) R) ∧ ∀ ρ', I m.toNat ρ' → N ρ') : DS K (tFor (iRng1 ta) g ts) ρ N B C R := fun U σ L G Dn o n b c r H j =>
  h U σ L G o H j _ fun vs H1 G1 j1 ⟨e1, ws, sw, m, ew, b1, b2, I, ⟨ρ0, le0, h0⟩, hs, hd⟩ => by
    subst ew
    cases sw with
    | cons sa sn =>
      cases sn
      cases sa
      refine ⟨m, rfl, b1, b2, for_range (lo := 0) (n := m.toNat) (fun i σ' H' => ∃ ρ' L' G', I i ρ' ∧ EnvOk K U ρ' σ' L' G' ∧ Ex G1 G' ∧ J (U.hides L') H' G') ⟨ρ0, L, G1, h0, (o.mono e1).le le0, Ex.refl _, j1⟩ (fun i σ' H' hi ⟨ρ', L', G', p, o', e', j'⟩ => ?_) (fun σ' H' ⟨ρ', L', G', p, o', e', j'⟩ => n ρ' σ' L' G' (hd ρ' p) o' (e1.trans e') H' j')⟩
      have e0 : (0 : Int) + (i : Int) = (i : Int) := Int.zero_add _
      rw [e0]
      exact loop_env (n.mono e1) (r.mono e1) o' e' j' (e := .d (.int (i : Int))) (Rp.int _) (hs i ρ' (by omega) p)
theorem ds_forR2 (h : DA K ta ρ fun ws => ∃ lo m : Int, ws = [.int lo, .int m] ∧ (-(2 ^ 62) ≤ lo ∧ lo < 2 ^ 62 ∧ -(2 ^ 62) ≤ m ∧ m < 2 ^ 62) ∧ ∃ I : Nat → List E → Prop, Wk (I 0) ρ ∧ (∀ (i : Nat) ρ', lo + (i : Int) < m → I i ρ' → DG K g (.d (.int (lo + (i : Int)))) ρ' fun ρ2 => DS K ts ρ2 (Wk (I (i + 1))) N (Wk (I (i + 1))) R) ∧ ∀ ρ', I (m - lo).toNat ρ' → N ρ') : DS K (tFor (iRng2 ta) g ts) ρ N B C R := fun U σ L G Dn o n b c r H j =>
  h U σ L G o H j _ fun vs H1 G1 j1 ⟨e1, ws, sw, lo, m, ew, b1, I, ⟨ρ0, le0, h0⟩, hs, hd⟩ => by
    subst ew
    cases sw with
    | cons sa sn =>
      cases sn with
      | cons sb sn =>
        cases sn
        cases sa
        cases sb
        refine ⟨lo, m, rfl, b1, for_range (lo := lo) (n := (m - lo).toNat) (fun i σ' H' => ∃ ρ' L' G', I i ρ' ∧ EnvOk K U ρ' σ' L' G' ∧ Ex G1 G' ∧ J (U.hides L') H' G') ⟨ρ0, L, G1, h0, (o.mono e1).le le0, Ex.refl _, j1⟩ (fun i σ' H' hi ⟨ρ', L', G', p, o', e', j'⟩ => ?_) (fun σ' H' ⟨ρ', L', G', p, o', e', j'⟩ => n ρ' σ' L' G' (hd ρ' p) o' (e1.trans e') H' j')⟩
        exact loop_env (n.mono e1) (r.mono e1) o' e' j' (e := .d (.int (lo + (i : Int)))) (Rp.int _) (hs i ρ' (by omega) p)
theorem ds_while (W : Nat → List E → Prop) (m0 : Nat) (h0 : Wk (W m0) ρ)
    (hs : ∀ m ρ', W m ρ' → DT K tt ρ' fun b => if b = true then DS K ts ρ' (Wk fun ρ2 => ∃ m', m' < m ∧ W m' ρ2) N (Wk fun ρ2 => ∃ m', m' < m ∧ W m' ρ2) R else N ρ') : DS K (tWhile tt ts) ρ N B C R := fun U σ L G Dn o n b c r H j => by
  obtain ⟨ρ0, le0, w0⟩ := h0
  refine ⟨fun m σ' H' => ∃ ρ' L' G', W m ρ' ∧ EnvOk K U ρ' σ' L' G' ∧ Ex G G' ∧ J (U.hides L') H' G', ⟨m0, ρ0, L, G, w0, o.le le0, Ex.refl _, j⟩, fun m σ' H' ⟨ρ', L', G', w, o', e', j'⟩ => ?_⟩
  refine hs m ρ' w U σ' L' G' o' H' j' _ fun x H1 G1 j1 ⟨e1, h1⟩ => ?_
  cases x with
  | true =>
    rw [if_pos rfl] at h1 ⊢
    refine ⟨fun σ2 H2 => ∃ m', m' < m ∧ ∃ ρ' L' G', W m' ρ' ∧ EnvOk K U ρ' σ2 L' G' ∧ Ex G G' ∧ J (U.hides L') H2 G', fun σ2 H2 h => h, ?_⟩
    have k : ∀ ρ3 σ3 L3 G3, Wk (fun ρ2 => ∃ m', m' < m ∧ W m' ρ2) ρ3 → EnvOk K U ρ3 σ3 L3 G3 → Ex G1 G3 → KM (U.hides L3) (fun σ2 H2 => ∃ m', m' < m ∧ ∃ ρ' L' G', W m' ρ' ∧ EnvOk K U ρ' σ2 L' G' ∧ Ex G G' ∧ J (U.hides L') H2 G') σ3 G3 :=
      fun ρ3 σ3 L3 G3 ⟨ρ4, le, m', hm, w'⟩ o3 e3 H3 j3 => ⟨m', hm, ρ4, L3, G3, w', o3.le le, (e'.trans e1).trans e3, j3⟩
    exact h1 U σ' L' G1 ⟨fun σ2 H2 => ∃ m', m' < m ∧ ∃ ρ' L' G', W m' ρ' ∧ EnvOk K U ρ' σ2 L' G' ∧ Ex G G' ∧ J (U.hides L') H2 G', Dn.rt, Dn.nx, fun σ2 H2 => ∃ m', m' < m ∧ ∃ ρ' L' G', W m' ρ' ∧ EnvOk K U ρ' σ2 L' G' ∧ Ex G G' ∧ J (U.hides L') H2 G'⟩ (o'.mono e1) k (n.mono (e'.trans e1)) k (r.mono (e'.trans e1)) H1 j1
  | false =>
    rw [if_neg Bool.false_ne_true] at h1 ⊢
    exact n ρ' σ' L' G1 h1 (o'.mono e1) (e'.trans e1) H1 j1
/-! ### comprehensions -/
/-- a target of a comprehension: only its own slots change -/
def DGW (K : PySem.W.Frag) (g : TG) (e : E) (vs : List Nat) (ρ : List E) (N : List E → Prop) : Prop := ∀ U σ L G v, EnvOk K U ρ σ L G → SlotV K U L G e v → GM (U.hides L) g v (L2.wipe σ vs) G fun σ' G' => L2.wipe σ' vs = L2.wipe σ vs ∧ Ex G G' ∧ ∃ ρ', EnvOk K U ρ' σ' L G' ∧ N ρ'
theorem set_same {α : Type} : ∀ (xs : List α) (i : Nat) (x y : α), (xs.set i x).set i y = xs.set i y
  | [], i, x, y => rfl
  | a :: xs, 0, x, y => rfl
  | a :: xs, i + 1, x, y => by simp [List.set]
theorem wipe_set {i : Nat} {x : Option V} : ∀ {vs : List Nat} (σ : L2.St), i ∈ vs → L2.wipe (σ.set i x) vs = L2.wipe σ vs
  | [], σ, h => by simp at h
  | v :: vs, σ, h => by
    show (L2.wipe (σ.set i x) vs).set v none = (L2.wipe σ vs).set v none
    by_cases z : i ∈ vs
    · rw [wipe_set σ z]
    · rcases List.mem_cons.mp h with e | h'
      · subst e
        have aux : ∀ (ws : List Nat), i ∉ ws → L2.wipe (σ.set i x) ws = (L2.wipe σ ws).set i x := by
          intro ws
          induction ws with
          | nil => intro _; rfl
          | cons w ws ih =>
            intro hw
            simp only [List.mem_cons, not_or] at hw
            show (L2.wipe (σ.set i x) ws).set w none = ((L2.wipe σ ws).set w none).set i x
            rw [ih hw.2, List.set_comm _ _ hw.1]
        rw [aux vs z, set_same]
      · exact absurd h' z
theorem wipe_wipe (σ : L2.St) : ∀ vs ws : List Nat, (∀ v ∈ vs, v ∈ ws) → L2.wipe (L2.wipe σ vs) ws = L2.wipe σ ws
  | [], ws, _ => rfl
  | v :: vs, ws, h => by
    show L2.wipe ((L2.wipe σ vs).set v none) ws = _
    rw [wipe_set _ (h v (by simp)), wipe_wipe σ vs ws fun u hu => h u (by simp [hu])]
theorem dgw_name {i : Nat} {e : E} {vs : List Nat} (f : e.free = true) (hi : i ∈ vs) {ρ' : List E} (hr : (wipeE ρ vs).set i e = ρ') (k : N ρ') : DGW K (gName i) e vs ρ N := fun U σ L G v o s =>
  gm_name ⟨by rw [wipe_set _ hi, wipe_wipe σ vs vs fun _ h => h], Ex.refl G, _, (o.wipe vs).set f s, by rw [hr]; exact k⟩
theorem dgw_pair {i j : Nat} {d1 d2 : D} {vs : List Nat} (hi : i ∈ vs) (hj : j ∈ vs) {ρ' : List E} (hr : ((wipeE ρ vs).set i (.d d1)).set j (.d d2) = ρ') (k : N ρ') : DGW K (gTup K 2 (gCons (gName i) (gCons (gName j) gNil))) (.d (.tup [d1, d2])) vs ρ N := fun U σ L G v o s => by
  cases (s : Rp K G v (.tup [d1, d2])) with
  | tup a b =>
    cases b with
    | cons b1 b =>
      cases b with
      | cons b2 b =>
        cases b
        exact gm_tup a rfl (gs_cons (gm_name (gs_cons (gm_name (gs_nil ⟨by rw [wipe_set _ hj, wipe_set _ hi, wipe_wipe σ vs vs fun _ h => h], Ex.refl G, _, ((o.wipe vs).set (e := .d d1) rfl b1).set (e := .d d2) rfl b2, by rw [hr]; exact k⟩)))))
/-- a turn of a comprehension -/
theorem lc_env {P : Nat → List D → Prop} {U : Vx} {G1 : Hp} {i : Nat} {x : V} {σ : L2.St} {H' : Hp} {vs : List Nat} {Dd : Addr} {L : Ow} {acc : List V} {ads : List D} {G' : Hp} {e : E} (hDd : ∀ q ∈ L, q.1 ≠ Dd) (hlo : LOk U ((Dd, HI.ex (.lst acc)) :: L)) (o' : EnvOk K U ρ σ L G') (e' : Ex G1 G') (j' : J (U.hides ((Dd, HI.ex (.lst acc)) :: L)) H' G') (sx : SlotV K U L G' e x) (ka : RpA K G' acc ads) (hz : ads.length < 16000000)
    (h : DGW K g e vs ρ fun ρ2 => DT K tt ρ2 fun b => if b = true then DE K te ρ2 fun y => DD y fun dy => P (i + 1) (ads ++ [dy]) else P (i + 1) ads) :
    g x (L2.wipe σ vs) H' fun σ2 H2 => L2.wipe σ2 vs = L2.wipe σ vs ∧ tt σ2 H2 fun b H3 => if b = true then te σ2 H3 fun y H4 => ∃ acc, H4 Dd = some (.lst acc) ∧ acc.length < sizeLine ∧ ∃ acc' ads' G', P (i + 1) ads' ∧ RpA K G' acc' ads' ∧ Ex G1 G' ∧ J (U.hides ((Dd, HI.ex (.lst acc')) :: L)) (upd H4 Dd (.lst (acc ++ [y]))) G' else ∃ acc' ads' G', P (i + 1) ads' ∧ RpA K G' acc' ads' ∧ Ex G1 G' ∧ J (U.hides ((Dd, HI.ex (.lst acc')) :: L)) H3 G' := by
  have sx' : SlotV K U ((Dd, HI.ex (.lst acc)) :: L) G' e x := sx.more fun _ h => List.mem_cons_of_mem _ h
  refine h U σ _ G' x (o'.more (fun _ h => List.mem_cons_of_mem _ h) hlo) sx' H' j' _ fun σ2 H2 G2 j2 ⟨hw, e2, ρ2, o2, k2⟩ => ⟨hw, k2 U σ2 _ G2 o2 H2 j2 _ fun b H3 G3 j3 ⟨e3, k3⟩ => ?_⟩
  cases b with
  | true =>
    rw [if_pos rfl] at k3 ⊢
    refine k3 U σ2 _ G3 (o2.mono e3) H3 j3 _ fun y H4 G4 j4 ⟨e4, ey, sy, dy, ed, k4⟩ => ⟨acc, j4.at List.mem_cons_self, ?_, acc ++ [y], ads ++ [dy], G4, k4, ?_, ((e'.trans e2).trans e3).trans e4, ?_⟩
    · rw [ka.len]; exact Nat.lt_of_lt_of_le hz (by decide)
    · subst ed; exact (RpA.one sy).app (ka.mono ((e2.trans e3).trans e4))
    · obtain ⟨n1, n2, _⟩ := hlo.nm (Dd, _) List.mem_cons_self
      exact j4.chgHead rfl hDd n1 n2
  | false =>
    rw [if_neg Bool.false_ne_true] at k3 ⊢
    exact ⟨acc, ads, G3, k3, ka.mono (e2.trans e3), (e'.trans e2).trans e3, j3⟩
end
end Wp

set_option Elab.async false
set_option linter.all false
set_option maxRecDepth 100000
set_option maxHeartbeats 4000000
namespace Wp
open PySem L2 Evl StX
set_option autoImplicit false
section
variable {K : PySem.W.Frag} {ρ : List E} {te ti tl : TE} {tt : TT} {g : TG} {ts t1 t2 : TS} {ta tr : TA} {N B C : List E → Prop} {R : D → Prop} {Q : E → Prop} {QN : List D → Prop} {vs : List Nat}
theorem J.showHead {U : Vx} {L : Ow} {H G : Hp} {a : Addr} {o : HO} (j : J (U.hides ((a, HI.ex o) :: L)) H G) (hm : ¬ U.m a) (hn : U.He a = none) (hL : ∀ q ∈ L, q.1 ≠ a) : J (U.hides L) H (upd G a o) where
  up := fun b u e => by
    by_cases z : b = a
    · subst z; rw [upd_same] at e; rw [j.at List.mem_cons_self]; exact e
    · rw [upd_ne z] at e; exact j.up b u e
  keep := j.keep
  new := fun b q g => by
    by_cases z : b = a
    · subst z; exact hn
    · rw [upd_ne z] at q; exact j.new b q g
  hid := ⟨j.hid.1, fun q hq => j.hid.2 q (List.mem_cons_of_mem _ hq)⟩
  msk := fun b mb => by
    rcases mb with mb | ⟨ws, hw⟩
    · have : b ≠ a := fun z => by subst z; exact hm mb
      rw [upd_ne this]; exact j.msk b (.inl mb)
    · have : b ≠ a := hL _ hw
      rw [upd_ne this]; exact j.msk b (.inr ⟨ws, List.mem_cons_of_mem _ hw⟩)
theorem de_new (h : DN K te ρ fun ds => Q (.d (.lst ds))) : DE K te ρ Q := fun U σ L G o =>
  (h U σ L G o).w fun v G' ⟨p, vs, ds, G1, ev, e1, np, e2, gp, k, q⟩ => ⟨e1.trans e2, .d (.lst ds), by subst ev; exact .lst gp (k.mono e2), q⟩
/-- what every comprehension starts and ends with -/
structure LcOk (U : Vx) (L : Ow) (Dd : Addr) : Prop where
  nm : ¬ U.m Dd
  nh : U.He Dd = none
  ng : U.Ge Dd = none
  nl : ∀ q ∈ L, q.1 ≠ Dd
theorem LcOk.lo {U : Vx} {L : Ow} {Dd : Addr} (c : LcOk U L Dd) (lo : LOk U L) (o : HI) : LOk U ((Dd, o) :: L) := lo.cons (fun u hu => c.nl _ hu rfl) c.nm c.nh c.ng
theorem lc_ok {U : Vx} {σ : L2.St} {L : Ow} {G G1 H1 : Hp} {Dd : Addr} (o : EnvOk K U ρ σ L G) (e1 : Ex G G1) (j1 : J (U.hides L) H1 G1) (hD : H1 Dd = none) : LcOk U L Dd :=
  ⟨fun z => (j1.msk Dd (.inl z)).2 hD, none_of_ex j1.keep hD, none_of_ex o.ge (none_of_ex e1 (j1.free hD)), fun q hq z => (j1.msk Dd (.inr ⟨q.2, by rw [← z]; exact hq⟩)).2 hD⟩
theorem lc_start {U : Vx} {σ : L2.St} {L : Ow} {G1 H1 : Hp} {Dd : Addr} (c : LcOk U L Dd) (j1 : J (U.hides L) H1 G1) (hD : H1 Dd = none) : ∃ G', Ex G1 G' ∧ J (U.hides ((Dd, HI.ex (.lst [])) :: L)) (upd H1 Dd (.lst [])) G' :=
  ⟨_, Ex.wo' (j1.free hD) (Ex.new (j1.free hD)), (j1.alloc hD).own upd_same rfl c.ng⟩
def LcP (K : PySem.W.Frag) (U : Vx) (L : Ow) (G1 : Hp) (Dd : Addr) (P : Nat → List D → Prop) (i : Nat) (H : Hp) : Prop := ∃ acc' ads' G', P i ads' ∧ RpA K G' acc' ads' ∧ Ex G1 G' ∧ J (U.hides ((Dd, HI.ex (.lst acc')) :: L)) H G'
theorem lc_done {U : Vx} {L : Ow} {G G1 H : Hp} {Dd : Addr} {P : Nat → List D → Prop} {n : Nat} (c : LcOk U L Dd) (e1 : Ex G G1) (h : LcP K U L G1 Dd P n H) (hd : ∀ acc, P n acc → QN acc) : ∃ G2, J (U.hides L) H G2 ∧ ∃ p vs ds G1, V.ref Dd = .ref p ∧ Ex G G1 ∧ G1 p = none ∧ Ex G1 G2 ∧ G2 p = some (.lst vs) ∧ RpA K G1 vs ds ∧ QN ds := by
  obtain ⟨acc, ads, G', p, ka, e', j'⟩ := h
  have gd : G' Dd = none := (j'.msk Dd (.inr ⟨_, List.mem_cons_self⟩)).1
  exact ⟨_, j'.showHead c.nm c.nh c.nl, Dd, acc, ads, G', rfl, e1.trans e', gd, Ex.new gd, upd_same, ka, hd ads p⟩
theorem dn_lcL (h : DE K tl ρ fun e => ∃ ds, e = .d (.lst ds) ∧ ds.length < 16000000 ∧ ∃ P : Nat → List D → Prop, P 0 [] ∧ (∀ i acc, P i acc → acc.length ≤ i) ∧ (∀ (i : Nat) d acc, ds[i]? = some d → P i acc → DGW K g (.d d) vs ρ fun ρ2 => DT K tt ρ2 fun b => if b = true then DE K te ρ2 fun y => DD y fun dy => P (i + 1) (acc ++ [dy]) else P (i + 1) acc) ∧ ∀ acc, P ds.length acc → QN acc) : DN K (tLc (iList K tl) g tt te vs) ρ QN := fun U σ L G o H j QH q =>
  h U σ L G o H j _ fun v H1 G1 j1 ⟨e1, x, sx, ds, ed, hlen, P, h0, hz, hs, hd⟩ => by
    subst ed
    cases (sx : Rp K G1 v (.lst ds)) with
    | lst a k =>
      refine ⟨_, rfl, ⟨_, sq_of (j1.up _ _ a)⟩, fun Dd hD => ?_⟩
      have c := lc_ok o e1 j1 hD
      refine lc_list (LcP K U L G1 Dd P) ?_ (fun i H' _ ⟨acc, ads, G', p, ka, e', j'⟩ => sq_of (j'.up _ _ (e' _ _ a))) (fun i x H' hi ⟨acc, ads, G', p, ka, e', j'⟩ => ?_) (fun H' hp => ?_)
      · obtain ⟨G', e', j'⟩ := lc_start (σ := σ) c j1 hD
        exact ⟨[], [], G', h0, .nil, e', j'⟩
      · obtain ⟨d, h1, h2⟩ := k.at hi
        have hil := (List.getElem?_eq_some_iff.mp h1).1
        exact lc_env (e := .d d) c.nl (c.lo o.lo (.ex (.lst acc))) (o.mono (e1.trans e')) e' j' (h2.mono e') ka (by have := hz i ads p; omega) (hs i d ads h1 p)
      · rw [k.len] at hp
        obtain ⟨G2, j2, r⟩ := lc_done c e1 hp hd
        exact q _ _ _ j2 r
theorem dn_lcT (h : DE K tl ρ fun e => ∃ ds, e = .d (.tup ds) ∧ ds.length < 16000000 ∧ ∃ P : Nat → List D → Prop, P 0 [] ∧ (∀ i acc, P i acc → acc.length ≤ i) ∧ (∀ (i : Nat) d acc, ds[i]? = some d → P i acc → DGW K g (.d d) vs ρ fun ρ2 => DT K tt ρ2 fun b => if b = true then DE K te ρ2 fun y => DD y fun dy => P (i + 1) (acc ++ [dy]) else P (i + 1) acc) ∧ ∀ acc, P ds.length acc → QN acc) : DN K (tLc (iTup K tl) g tt te vs) ρ QN := fun U σ L G o H j QH q =>
  h U σ L G o H j _ fun v H1 G1 j1 ⟨e1, x, sx, ds, ed, hlen, P, h0, hz, hs, hd⟩ => by
    subst ed
    cases (sx : Rp K G1 v (.tup ds)) with
    | tup a k =>
      refine ⟨_, rfl, ⟨_, ex_t j1.up a⟩, fun Dd hD => ?_⟩
      have c := lc_ok o e1 j1 hD
      refine lc_tup (LcP K U L G1 Dd P) ?_ (fun i H' _ ⟨acc, ads, G', p, ka, e', j'⟩ => ex_t j'.up (ex_t e' a)) (fun i x H' hi ⟨acc, ads, G', p, ka, e', j'⟩ => ?_) (fun H' hp => ?_)
      · obtain ⟨G', e', j'⟩ := lc_start (σ := σ) c j1 hD
        exact ⟨[], [], G', h0, .nil, e', j'⟩
      · obtain ⟨d, h1, h2⟩ := k.at hi
        have hil := (List.getElem?_eq_some_iff.mp h1).1
        exact lc_env (e := .d d) c.nl (c.lo o.lo (.ex (.lst acc))) (o.mono (e1.trans e')) e' j' (h2.mono e') ka (by have := hz i ads p; omega) (hs i d ads h1 p)
      · rw [k.len] at hp
        obtain ⟨G2, j2, r⟩ := lc_done c e1 hp hd
        exact q _ _ _ j2 r
theorem dn_lcR1 (h : DA K ta ρ fun ws => ∃ m : Int, ws = [.int m] ∧ 0 ≤ m ∧ m < 16000000 ∧ ∃ P : Nat → List D → Prop, P 0 [] ∧ (∀ i acc, P i acc → acc.length ≤ i) ∧ (∀ (i : Nat) acc, (i : Int) < m → P i acc → DGW K g (.d (.int (i : Int))) vs ρ fun ρ2 => DT K tt ρ2 fun b => if b = true then DE K te ρ2 fun y => DD y fun dy => P (i + 1) (acc ++ [dy]) else P (i + 1) acc) ∧ ∀ acc, P m.toNat acc → QN acc) : DN K (tLc (iRng1 ta) g tt te vs) ρ QN := fun U σ L G o H j QH q =>
  h U σ L G o H j _ fun us H1 G1 j1 ⟨e1, ws, sw, m, ew, b1, b2, P, h0, hz, hs, hd⟩ => by
    subst ew
    cases sw with
    | cons sa sn =>
      cases sn
      cases sa
      refine ⟨m, rfl, by omega, by omega, fun Dd hD => ?_⟩
      have c := lc_ok o e1 j1 hD
      refine lc_range (lo := 0) (n := m.toNat) (LcP K U L G1 Dd P) ?_ (fun i H' hi ⟨acc, ads, G', p, ka, e', j'⟩ => ?_) (fun H' hp => ?_)
      · obtain ⟨G', e', j'⟩ := lc_start (σ := σ) c j1 hD
        exact ⟨[], [], G', h0, .nil, e', j'⟩
      · have e0 : (0 : Int) + (i : Int) = (i : Int) := Int.zero_add _
        rw [e0]
        exact lc_env (e := .d (.int (i : Int))) c.nl (c.lo o.lo (.ex (.lst acc))) (o.mono (e1.trans e')) e' j' (Rp.int _) ka (by have := hz i ads p; omega) (hs i ads (by omega) p)
      · obtain ⟨G2, j2, r⟩ := lc_done c e1 hp hd
        exact q _ _ _ j2 r
/-- over enumerate of a list or a tuple -/
theorem dn_lcE {i0 i1 : Nat} (h : DA K ta ρ fun ws => ∃ ds, ws = [.lst ds] ∧ ds.length < 16000000 ∧ i0 ∈ vs ∧ i1 ∈ vs ∧ ∃ P : Nat → List D → Prop, P 0 [] ∧ (∀ i acc, P i acc → acc.length ≤ i) ∧ (∀ (i : Nat) d acc, ds[i]? = some d → P i acc → DT K tt (((wipeE ρ vs).set i0 (.d (.int (i : Int)))).set i1 (.d d)) fun b => if b = true then DE K te (((wipeE ρ vs).set i0 (.d (.int (i : Int)))).set i1 (.d d)) fun y => DD y fun dy => P (i + 1) (acc ++ [dy]) else P (i + 1) acc) ∧ ∀ acc, P ds.length acc → QN acc) : DN K (tLc (iEnum K ta) (gTup K 2 (gCons (gName i0) (gCons (gName i1) gNil))) tt te vs) ρ QN := fun U σ L G o H j QH q =>
  h U σ L G o H j _ fun us H1 G1 j1 ⟨e1, ws, sw, ds, ew, hlen, m0, m1, P, h0, hz, hs, hd⟩ => by
    subst ew
    cases sw with
    | cons sa sn =>
      cases sn
      cases sa with
      | @lst a xs _ ha k =>
      refine ⟨_, _, rfl, sq_of (j1.up _ _ ha), fun Dd hD => ?_⟩
      have c := lc_ok o e1 j1 hD
      have wk : Walk (Ite K a) xs.length (fun H => SqL K H a xs) (fun i H v H' => ∃ T x, v = .ref T ∧ H T = none ∧ H' = upd H T (.tup [.int (i : Nat), x]) ∧ xs[i]? = some x) :=
        ⟨fun i H hi hq => ⟨xs, xs[i], hq, by simp [hi]⟩, fun H hq => ⟨xs, hq, Nat.le_refl _⟩, fun i H x H' hi hq ⟨T, y, e1, e2, e3, e4⟩ => ⟨T, y, e1, e2, e3, e4 xs hq⟩⟩
      refine lc_it wk (LcP K U L G1 Dd P) ?_ (fun i H' _ ⟨acc, ads, G', p, ka, e', j'⟩ => sq_of (j'.up _ _ (e' _ _ ha))) (fun i x H' H'' hi ⟨acc, ads, G', p, ka, e', j'⟩ ⟨T, y, ex, hT, eH, hy⟩ => ?_) (fun H' hp => ?_)
      · obtain ⟨G', e', j'⟩ := lc_start (σ := σ) c j1 hD
        exact ⟨[], [], G', h0, .nil, e', j'⟩
      · obtain ⟨d, h1, h2⟩ := k.at hy
        have hil := (List.getElem?_eq_some_iff.mp h1).1
        subst ex eH
        have jT := j'.alloc (o := .tup [.int (i : Nat), y]) hT
        have eT : Ex G' (upd G' T (.tup [.int (i : Nat), y])) := Ex.new (j'.free hT)
        exact lc_env (e := .d (.tup [.int (i : Nat), d])) c.nl (c.lo o.lo (.ex (.lst acc))) (o.mono ((e1.trans e').trans eT)) (e'.trans eT) jT (Rp.tup (st_of upd_same) (.cons (.int _) (.cons ((h2.mono e').mono eT) .nil))) (ka.mono eT) (by have := hz i ads p; omega) (dgw_pair m0 m1 rfl (hs i d ads h1 p))
      · rw [k.len] at hp
        obtain ⟨G2, j2, r⟩ := lc_done c e1 hp hd
        exact q _ _ _ j2 r
theorem dn_lcET {i0 i1 : Nat} (h : DA K ta ρ fun ws => ∃ ds, ws = [.tup ds] ∧ ds.length < 16000000 ∧ i0 ∈ vs ∧ i1 ∈ vs ∧ ∃ P : Nat → List D → Prop, P 0 [] ∧ (∀ i acc, P i acc → acc.length ≤ i) ∧ (∀ (i : Nat) d acc, ds[i]? = some d → P i acc → DT K tt (((wipeE ρ vs).set i0 (.d (.int (i : Int)))).set i1 (.d d)) fun b => if b = true then DE K te (((wipeE ρ vs).set i0 (.d (.int (i : Int)))).set i1 (.d d)) fun y => DD y fun dy => P (i + 1) (acc ++ [dy]) else P (i + 1) acc) ∧ ∀ acc, P ds.length acc → QN acc) : DN K (tLc (iEnumT K ta) (gTup K 2 (gCons (gName i0) (gCons (gName i1) gNil))) tt te vs) ρ QN := fun U σ L G o H j QH q =>
  h U σ L G o H j _ fun us H1 G1 j1 ⟨e1, ws, sw, ds, ew, hlen, m0, m1, P, h0, hz, hs, hd⟩ => by
    subst ew
    cases sw with
    | cons sa sn =>
      cases sn
      cases sa with
      | @tup a xs _ ha k =>
      refine ⟨_, _, rfl, ex_t j1.up ha, fun Dd hD => ?_⟩
      have c := lc_ok o e1 j1 hD
      have wk : Walk (IteT K a) xs.length (fun H => SqT K H a xs) (fun i H v H' => ∃ T x, v = .ref T ∧ H T = none ∧ H' = upd H T (.tup [.int (i : Nat), x]) ∧ xs[i]? = some x) :=
        ⟨fun i H hi hq => ⟨xs, xs[i], hq, by simp [hi]⟩, fun H hq => ⟨xs, hq, Nat.le_refl _⟩, fun i H x H' hi hq ⟨T, y, e1, e2, e3, e4⟩ => ⟨T, y, e1, e2, e3, e4 xs hq⟩⟩
      refine lc_it wk (LcP K U L G1 Dd P) ?_ (fun i H' _ ⟨acc, ads, G', p, ka, e', j'⟩ => ex_t j'.up (ex_t e' ha)) (fun i x H' H'' hi ⟨acc, ads, G', p, ka, e', j'⟩ ⟨T, y, ex, hT, eH, hy⟩ => ?_) (fun H' hp => ?_)
      · obtain ⟨G', e', j'⟩ := lc_start (σ := σ) c j1 hD
        exact ⟨[], [], G', h0, .nil, e', j'⟩
      · obtain ⟨d, h1, h2⟩ := k.at hy
        have hil := (List.getElem?_eq_some_iff.mp h1).1
        subst ex eH
        have jT := j'.alloc (o := .tup [.int (i : Nat), y]) hT
        have eT : Ex G' (upd G' T (.tup [.int (i : Nat), y])) := Ex.new (j'.free hT)
        exact lc_env (e := .d (.tup [.int (i : Nat), d])) c.nl (c.lo o.lo (.ex (.lst acc))) (o.mono ((e1.trans e').trans eT)) (e'.trans eT) jT (Rp.tup (st_of upd_same) (.cons (.int _) (.cons ((h2.mono e').mono eT) .nil))) (ka.mono eT) (by have := hz i ads p; omega) (dgw_pair m0 m1 rfl (hs i d ads h1 p))
      · rw [k.len] at hp
        obtain ⟨G2, j2, r⟩ := lc_done c e1 hp hd
        exact q _ _ _ j2 r
/-- a map: the items told by the source's -/
theorem dn_mapL {α : Type} (xs : List α) (inj f : α → D) (h : DE K tl ρ fun e => e = .d (.lst (xs.map inj)) ∧ xs.length < 16000000 ∧ (∀ (i : Nat) x, xs[i]? = some x → DGW K g (.d (inj x)) vs ρ fun ρ2 => DE K te ρ2 fun y => y = .d (f x)) ∧ QN (xs.map f)) : DN K (tLc (iList K tl) g tYes te vs) ρ QN :=
  dn_lcL fun U σ L G o => (h U σ L G o).w fun v G1 ⟨e1, e, se, ee, hl, hs, hq⟩ => ⟨e1, e, se, xs.map inj, ee, by rw [List.length_map]; exact hl, fun i acc => i ≤ xs.length ∧ acc = (xs.take i).map f, ⟨Nat.zero_le _, rfl⟩, fun i acc ⟨p0, p⟩ => by rw [p, List.length_map, List.length_take]; omega, fun i d acc hd ⟨p0, p⟩ => by
    rw [List.getElem?_map] at hd
    obtain ⟨x, hx, rfl⟩ := Option.map_eq_some_iff.mp hd
    have hil := (List.getElem?_eq_some_iff.mp hx).1
    exact fun U σ L G v o s => (hs i x hx U σ L G v o s).w fun σ2 G2 ⟨hw, e2, ρ2, o2, k2⟩ => ⟨hw, e2, ρ2, o2, dt_yes (by
      rw [if_pos rfl]
      exact fun U σ L G o => (k2 U σ L G o).w fun y G3 ⟨e3, z, sz, ez⟩ => ⟨e3, z, sz, f x, ez, hil, by rw [p, List.take_add_one, hx]; simp⟩)⟩, fun acc ⟨_, p⟩ => by rw [List.length_map, List.take_length] at p; rw [p]; exact hq⟩
theorem dn_mapT {α : Type} (xs : List α) (inj f : α → D) (h : DE K tl ρ fun e => e = .d (.tup (xs.map inj)) ∧ xs.length < 16000000 ∧ (∀ (i : Nat) x, xs[i]? = some x → DGW K g (.d (inj x)) vs ρ fun ρ2 => DE K te ρ2 fun y => y = .d (f x)) ∧ QN (xs.map f)) : DN K (tLc (iTup K tl) g tYes te vs) ρ QN :=
  dn_lcT fun U σ L G o => (h U σ L G o).w fun v G1 ⟨e1, e, se, ee, hl, hs, hq⟩ => ⟨e1, e, se, xs.map inj, ee, by rw [List.length_map]; exact hl, fun i acc => i ≤ xs.length ∧ acc = (xs.take i).map f, ⟨Nat.zero_le _, rfl⟩, fun i acc ⟨p0, p⟩ => by rw [p, List.length_map, List.length_take]; omega, fun i d acc hd ⟨p0, p⟩ => by
    rw [List.getElem?_map] at hd
    obtain ⟨x, hx, rfl⟩ := Option.map_eq_some_iff.mp hd
    have hil := (List.getElem?_eq_some_iff.mp hx).1
    exact fun U σ L G v o s => (hs i x hx U σ L G v o s).w fun σ2 G2 ⟨hw, e2, ρ2, o2, k2⟩ => ⟨hw, e2, ρ2, o2, dt_yes (by
      rw [if_pos rfl]
      exact fun U σ L G o => (k2 U σ L G o).w fun y G3 ⟨e3, z, sz, ez⟩ => ⟨e3, z, sz, f x, ez, hil, by rw [p, List.take_add_one, hx]; simp⟩)⟩, fun acc ⟨_, p⟩ => by rw [List.length_map, List.take_length] at p; rw [p]; exact hq⟩
theorem dn_mapR1 (f : Nat → D) (h : DA K ta ρ fun ws => ∃ m : Int, ws = [.int m] ∧ 0 ≤ m ∧ m < 16000000 ∧ (∀ (i : Nat), (i : Int) < m → DGW K g (.d (.int (i : Int))) vs ρ fun ρ2 => DE K te ρ2 fun y => y = .d (f i)) ∧ QN ((List.range m.toNat).map f)) : DN K (tLc (iRng1 ta) g tYes te vs) ρ QN :=
  dn_lcR1 fun U σ L G o => (h U σ L G o).w fun v G1 ⟨e1, ws, sw, m, ew, b1, b2, hs, hq⟩ => ⟨e1, ws, sw, m, ew, b1, b2, fun i acc => acc = (List.range i).map f, rfl, fun i acc p => by rw [p]; simp, fun i acc hi p =>
    fun U σ L G v o s => (hs i hi U σ L G v o s).w fun σ2 G2 ⟨hw, e2, ρ2, o2, k2⟩ => ⟨hw, e2, ρ2, o2, dt_yes (by
      rw [if_pos rfl]
      exact fun U σ L G o => (k2 U σ L G o).w fun y G3 ⟨e3, z, sz, ez⟩ => ⟨e3, z, sz, f i, ez, by show acc ++ [f i] = (List.range (i + 1)).map f; rw [show acc = (List.range i).map f from p, List.range_succ]; simp⟩)⟩, fun acc p => by rw [p]; exact hq⟩
theorem dn_listL (h : DE K te ρ fun e => ∃ ds, (e = .d (.lst ds) ∨ e = .d (.tup ds)) ∧ QN ds) : DN K (tCB (rListQ K) (tCons te tNil)) ρ QN := fun U σ L G o =>
  em_cb (am_cons ((h U σ L G o).w fun v G1 ⟨e1, e, se, ds, ed, q⟩ => am_nil (by
    rcases ed with rfl | rfl
    · cases (se : Rp K G1 v (.lst ds)) with | lst x b => exact rm_list (.inl (sq_of x)) fun l G' n e g => ⟨l, _, ds, G1, rfl, e1, n, e, g, b, q⟩
    · cases (se : Rp K G1 v (.tup ds)) with | tup x b => exact rm_list (.inr x) fun l G' n e g => ⟨l, _, ds, G1, rfl, e1, n, e, g, b, q⟩)))
theorem dn_slL {tl th : TO} (h : DE K te ρ fun x => DO K tl ρ fun l => DO K th ρ fun u => ∃ ds, x = .d (.lst ds) ∧ QN (cutO ds l u)) : DN K (tSl (rSlL K) te tl th) ρ QN := fun U σ L G o =>
  em_sl ((h U σ L G o).w fun v G1 ⟨e1, x, sx, hx⟩ => (hx U σ L G1 (o.mono e1)).w fun l G2 ⟨e2, h2⟩ => (h2 U σ L G2 (o.mono (e1.trans e2))).w fun u G3 ⟨e3, ds, ed, k⟩ => by
    subst ed
    cases ((sx.mono e2).mono e3 : Rp K G3 v (.lst ds)) with
    | lst a b => exact rm_slL (sq_of a) fun p G' n e g => ⟨p, _, _, G3, rfl, (e1.trans e2).trans e3, n, e, g, b.cut l u, k⟩)
theorem dn_cat {ta tb : TE} (h : DE K ta ρ fun x => DE K tb ρ fun y => ∃ ds es, x = .d (.lst ds) ∧ y = .d (.lst es) ∧ ds.length + es.length ≤ sizeLine ∧ QN (ds ++ es)) : DN K (tOp rCat ta tb) ρ QN := fun U σ L G o =>
  em_op ((h U σ L G o).w fun v G1 ⟨e1, x, sx, hx⟩ => (hx U σ L G1 (o.mono e1)).w fun w G2 ⟨e2, y, sy, ds, es, ed, ee, hz, k⟩ => by
    subst ed ee
    cases (sx.mono e2 : Rp K G2 v (.lst ds)) with
    | lst a b =>
      cases (sy : Rp K G2 w (.lst es)) with
      | lst a' b' => exact rm_cat a a' (by rw [b.len, b'.len]; exact hz) fun p G' n e g => ⟨p, _, ds ++ es, G2, rfl, e1.trans e2, n, e, g, b'.app b, k⟩)
theorem lo_nil {U : Vx} : LOk U [] := ⟨fun _ h => by simp at h, fun _ _ _ h => by simp at h⟩
theorem env_flat {U : Vx} {ρ : List E} {σ : L2.St} {G : Hp} (len : σ.length = ρ.length) (sl : ∀ (i : Nat) (e : E), ρ[i]? = some e → ∃ o, σ[i]? = some o ∧ (e = .any ∨ ∃ v, o = some v ∧ e.free = true ∧ SlotV K U [] G e v)) (ge : Ex U.Ge G) : EnvOk K U ρ σ [] G :=
  ⟨len, ⟨fun _ => [], fun i e h => let ⟨o, h1, h2⟩ := sl i e h; ⟨o, h1, h2.elim (fun z => .inl ⟨z, rfl⟩) fun ⟨v, h3, f, h4⟩ => .inr ⟨v, h3, by obtain ⟨F, h5⟩ := h4.sv; have := sv_free f h5; subst this; exact h5⟩⟩, fun _ => List.nodup_nil, fun _ _ _ _ h => by simp at h, fun _ _ h => by simp at h⟩, lo_nil, ge⟩
/-! ### promises of defs -/
def spF {α : Type} (K : PySem.W.Frag) (args : α → List D) (pre : α → Prop) (R : α → D → Prop) : Sp := spA (fun x vs G => RpA K G vs (args x) ∧ pre x) (fun x v G' => ∃ d, R x d ∧ Rp K G' v d)
def spG {α : Type} (K : PySem.W.Frag) (args : α → List D) (pre : α → Prop) (res : α → D) : Sp := spA (fun x vs G => RpA K G vs (args x) ∧ pre x) (fun x v G' => Rp K G' v (res x))
def spS' {α : Type} (K : PySem.W.Frag) (args : α → List D) (pre : α → Prop) (R : α → D → Prop) : Sp := spSA K (fun x vs G => RpA K G vs (args x) ∧ pre x) (fun x v G' => ∃ d, R x d ∧ Rp K G' v d)
section
variable {α : Type} {args : α → List D} {pre : α → Prop} {R : α → D → Prop} {res : α → D} {ds : List D}
theorem dc_f (x : α) (h : ds = args x) (p : pre x) (k : ∀ d, R x d → Q (.d d)) : DC K (spF K args pre R) ds Q := fun U L G vs lo s => cm_a x ⟨h ▸ s, p⟩ fun v G' e ⟨d, r, rp⟩ => ⟨e, .d d, rp, k d r⟩
theorem dc_g (x : α) (h : ds = args x) (p : pre x) (k : Q (.d (res x))) : DC K (spG K args pre res) ds Q := fun U L G vs lo s => cm_a x ⟨h ▸ s, p⟩ fun v G' e rp => ⟨e, .d (res x), rp, k⟩
theorem start_env {N : List Str} {vs : List V} {G : Hp} {U : Vx} (ge : Ex U.Ge G) (s : RpA K G vs ds) : EnvOk K U (ds.map E.d ++ List.replicate (N.length - ds.length) E.any) (L2.start N vs) [] G := env_flat
  (by unfold L2.start; rw [List.length_append, List.length_append, List.length_map, List.length_map, List.length_replicate, List.length_replicate, s.len])
  (fun i e h => by
    unfold L2.start
    by_cases z : i < ds.length
    · rw [List.getElem?_append_left (by rw [List.length_map]; exact z), List.getElem?_map] at h
      obtain ⟨d, hd, rfl⟩ := Option.map_eq_some_iff.mp h
      obtain ⟨v, h1, h2⟩ := s.get hd
      exact ⟨some v, by rw [List.getElem?_append_left (by rw [List.length_map, s.len]; exact z), List.getElem?_map, h1]; rfl, .inr ⟨v, rfl, rfl, h2⟩⟩
    · rw [List.getElem?_append_right (by rw [List.length_map]; omega), List.length_map, List.getElem?_replicate] at h
      split at h
      · rename_i hl
        cases h
        exact ⟨none, by rw [List.getElem?_append_right (by rw [List.length_map, s.len]; omega), List.length_map, s.len, List.getElem?_replicate, if_pos hl], .inl rfl⟩
      · cases h) ge
theorem fn_f {N : List Str} {ts : TS} {vs : List V} {H : Hp} {QV : VK} {E' : XK} (h : spF K args pre R vs H QV E') (hb : ∀ x, pre x → DS K ts ((args x).map E.d ++ List.replicate (N.length - (args x).length) E.any) (fun _ => R x .non) (fun _ => False) (fun _ => False) (R x)) : ts { nx := fun _ H' => QV .non H', rt := QV } (L2.start N vs) H := by
  obtain ⟨x, G, e0, ⟨s, p⟩, q⟩ := h
  exact hb x p (V0 H G) _ [] G ⟨fun _ H' => QV .non H', QV, fun _ _ => False, fun _ _ => False⟩ (start_env (Ex.refl G) s)
    (fun ρ' σ' L' G' r o e H' j => q .non H' G' j.keep e j.unhides.up j.new ⟨.non, r, .non⟩) (fun _ _ _ _ z => z.elim) (fun _ _ _ _ z => z.elim)
    (fun d v L' G' r s' e lo H' j => q v H' G' j.keep e j.unhides.up j.new ⟨d, r, s'⟩) H (J.start e0).hides_nil
theorem fn_g {N : List Str} {ts : TS} {vs : List V} {H : Hp} {QV : VK} {E' : XK} (h : spG K args pre res vs H QV E') (hb : ∀ x, pre x → DS K ts ((args x).map E.d ++ List.replicate (N.length - (args x).length) E.any) (fun _ => .non = res x) (fun _ => False) (fun _ => False) (fun d => d = res x)) : ts { nx := fun _ H' => QV .non H', rt := QV } (L2.start N vs) H := by
  obtain ⟨x, G, e0, ⟨s, p⟩, q⟩ := h
  exact hb x p (V0 H G) _ [] G ⟨fun _ H' => QV .non H', QV, fun _ _ => False, fun _ _ => False⟩ (start_env (Ex.refl G) s)
    (fun ρ' σ' L' G' r o e H' j => q .non H' G' j.keep e j.unhides.up j.new (by show Rp K G' .non (res x); rw [← r]; exact .non)) (fun _ _ _ _ z => z.elim) (fun _ _ _ _ z => z.elim)
    (fun d v L' G' r s' e lo H' j => q v H' G' j.keep e j.unhides.up j.new (by show Rp K G' v (res x); rw [← r]; exact s')) H (J.start e0).hides_nil
theorem len_f {vs : List V} {H : Hp} {QV : VK} {E' : XK} {n : Nat} (h : spF K args pre R vs H QV E') (hn : ∀ x, (args x).length = n) : vs.length = n := by
  obtain ⟨x, G, e0, ⟨s, p⟩, q⟩ := h
  rw [s.len, hn]
theorem len_g {vs : List V} {H : Hp} {QV : VK} {E' : XK} {n : Nat} (h : spG K args pre res vs H QV E') (hn : ∀ x, (args x).length = n) : vs.length = n := by
  obtain ⟨x, G, e0, ⟨s, p⟩, q⟩ := h
  rw [s.len, hn]
end
/-- from a range's end -/
theorem ds_forRev1 (h : DE K te ρ fun e => IE e fun m => -(2 ^ 62) ≤ m ∧ m < 2 ^ 62 ∧ ∃ I : Nat → List E → Prop, Wk (I 0) ρ ∧ (∀ (i : Nat) ρ', i < m.toNat → I i ρ' → DG K g (.d (.int ((m.toNat : Int) - 1 - (i : Int)))) ρ' fun ρ2 => DS K ts ρ2 (Wk (I (i + 1))) N (Wk (I (i + 1))) R) ∧ ∀ ρ', I m.toNat ρ' → N ρ') : DS K (tFor (iRevR (tRg1 te)) g ts) ρ N B C R := fun U σ L G Dn o n b c r H j =>
  h U σ L G o H j _ fun v H1 G1 j1 ⟨e1, x, sx, m, ew, b1, b2, I, ⟨ρ0, le0, h0⟩, hs, hd⟩ => by
    subst ew
    cases (sx : Rp K G1 v (.int m))
    have em : (m - 0).toNat = m.toNat := by rw [Int.sub_zero]
    refine ⟨m, rfl, by omega, by omega, b1, b2, ?_⟩
    rw [em]
    refine for_rangeC (n := m.toNat) (fun i σ' H' => ∃ ρ' L' G', I i ρ' ∧ EnvOk K U ρ' σ' L' G' ∧ Ex G1 G' ∧ J (U.hides L') H' G') ⟨ρ0, L, G1, h0, (o.mono e1).le le0, Ex.refl _, j1⟩ (fun i σ' H' hi ⟨ρ', L', G', p, o', e', j'⟩ => ?_) (fun σ' H' ⟨ρ', L', G', p, o', e', j'⟩ => n ρ' σ' L' G' (hd ρ' p) o' (e1.trans e') H' j')
    have e0 : (0 : Int) + (m.toNat : Int) - 1 + (i : Nat) * (-1) = (m.toNat : Int) - 1 - (i : Int) := by omega
    rw [e0]
    exact loop_env (n.mono e1) (r.mono e1) o' e' j' (e := .d (.int ((m.toNat : Int) - 1 - (i : Int)))) (Rp.int _) (hs i ρ' hi p)
section
variable {α : Type} {args : α → List D} {pre : α → Prop} {R : α → D → Prop} {res : α → D} {ds : List D}
/-! ### the law's own defs that draw -/
def DCS (K : PySem.W.Frag) (sp : Sp) (ds : List D) (Q : E → Prop) : Prop := ∀ U L G st sc (ns : List Int) vs, LOk U L → DrawOk U st → SqL K G sc (ns.map V.int) → RpA K G vs ds → CM (U.hides L) sp (.ref st :: .ref sc :: vs) G (Po K U L G Q)
theorem de_callS {i j : Nat} {sp : Sp} {E' : XK} (h1 : ρ[i]? = some .st) (h2 : ρ[j]? = some .sc) (h : DA K tr ρ fun ds => DCS K sp ds Q) : DE K (tCall sp [] E' (tCons (tVar i) (tCons (tVar j) tr))) ρ Q := fun U σ L G o => by
  obtain ⟨v, h3, a, rfl, hd⟩ := o.at h1 rfl
  obtain ⟨w, h4, b, ns, rfl, hs⟩ := o.at h2 rfl
  refine em_call (am_cons (em_var h3 (am_cons (em_var h4 ((h U σ L G o).w fun vs G1 ⟨e1, ds, sd, k⟩ => ?_)))))
  exact (k U L G1 a b ns vs o.lo hd (ex_l e1 hs) sd).w fun z G3 ⟨e3, k⟩ => ⟨e1.trans e3, k⟩
theorem dcs_draw {sz : Int} (h0 : 0 < sz) (hz : sz.natAbs.log2 < 9000) (k : ∀ n : Int, 0 ≤ n → n < sz → Q (.d (.int n))) : DCS K (spDraw K) [.int sz] Q := fun U L G st sc ns vs lo hd hs s => by
  cases s with
  | cons a b => cases b; cases a; exact cm_draw (hd.hides lo) hs h0 hz fun n n0 n1 => ⟨Ex.refl G, .d (.int n), Rp.int _, k n n0 n1⟩
theorem dcs_f (x : α) (h : ds = args x) (p : pre x) (k : ∀ d, R x d → Q (.d d)) : DCS K (spS' K args pre R) ds Q := fun U L G st sc ns vs lo hd hs s => cm_sa x (hd.hides lo) hs ⟨h ▸ s, p⟩ fun v G' e ⟨d, r, rp⟩ => ⟨e, .d d, rp, k d r⟩
theorem len_s {vs : List V} {H : Hp} {QV : VK} {E' : XK} {n : Nat} (h : spS' K args pre R vs H QV E') (hn : ∀ x, (args x).length + 2 = n) : vs.length = n := by
  obtain ⟨x, st, sc, ns, rest, G, rfl, _, _, _, _, ⟨s, p⟩, q⟩ := h
  rw [List.length_cons, List.length_cons, s.len, hn]
theorem fn_s {N : List Str} {ts : TS} {vs : List V} {H : Hp} {QV : VK} {E' : XK} (h : spS' K args pre R vs H QV E') (hb : ∀ x, pre x → DS K ts (.st :: .sc :: ((args x).map E.d ++ List.replicate (N.length - (args x).length - 2) E.any)) (fun _ => R x .non) (fun _ => False) (fun _ => False) (R x)) : ts { nx := fun _ H' => QV .non H', rt := QV } (L2.start N vs) H := by
  obtain ⟨x, st, sc, ns, rest, G, rfl, hst, gst, e0, hsc, ⟨s, p⟩, q⟩ := h
  have nst : ∀ {σ' : L2.St} {L' : Ow} {H' G' : Hp}, J ((VS st H G).hides L') H' G' → G' st = none := fun j => (j.msk st (.inl rfl)).1
  have fin : ∀ {v : V} {L' : Ow} {H' G' : Hp} {d : D}, J ((VS st H G).hides L') H' G' → Ex G G' → R x d → Rp K G' v d → QV v H' := fun {v L' H' G' d} j e r s' =>
    kv_s (p := fun v G' => ∃ d, R x d ∧ Rp K G' v d) (Q := QV) (fun v H' G' a b c dd ee ff g => q v H' G' a b c dd ee ff g) e ⟨d, r, s'⟩ H' j.unhides
  refine hb x p (VS st H G) _ [] G ⟨fun _ H' => QV .non H', QV, fun _ _ => False, fun _ _ => False⟩ ?_
    (fun ρ' σ' L' G' r o e H' j => fin j e r .non) (fun _ _ _ _ z => z.elim) (fun _ _ _ _ z => z.elim)
    (fun d v L' G' r s' e lo H' j => fin j e r s') H (VS.start hst gst e0).hides_nil
  have o := start_env (K := K) (N := N.drop 2) (U := V0 H G) (Ex.refl G) s
  have hl : L2.start N (.ref st :: .ref sc :: rest) = some (.ref st) :: some (.ref sc) :: (rest.map some ++ List.replicate (N.length - (rest.length + 2)) none) := rfl
  have e1 : L2.start (N.drop 2) rest = rest.map some ++ List.replicate (N.length - (rest.length + 2)) none := by
    unfold L2.start; rw [List.length_drop]; congr 2; omega
  have e2 : (args x).map E.d ++ List.replicate (N.length - (args x).length - 2) E.any = (args x).map E.d ++ List.replicate ((N.drop 2).length - (args x).length) E.any := by
    rw [List.length_drop]; congr 2; omega
  rw [hl, ← e1, e2]
  refine env_flat (by rw [List.length_cons, List.length_cons, o.len]; rfl) (fun i e h => ?_) (Ex.refl G)
  match i with
  | 0 => cases h; exact ⟨_, rfl, .inr ⟨_, rfl, rfl, st, rfl, VS.draw⟩⟩
  | 1 => cases h; exact ⟨_, rfl, .inr ⟨_, rfl, rfl, sc, ns, rfl, hsc⟩⟩
  | i + 2 =>
    obtain ⟨fp, of⟩ := o.fs
    obtain ⟨u, h1, h2⟩ := of.sl i e h
    refine ⟨u, h1, h2.elim (fun z => .inl z.1) fun ⟨v, h3, h4⟩ => ?_⟩
    have hm : e ∈ (args x).map E.d ++ List.replicate ((N.drop 2).length - (args x).length) E.any := List.mem_of_getElem? h
    cases e with
    | any => exact .inl rfl
    | d d => exact .inr ⟨v, h3, rfl, h4.slot⟩
    | own ds => simp at hm
    | dic ks ds => simp at hm
    | ob C ks ds => simp at hm
    | lo ds => simp at hm
    | st => simp at hm
    | sc => simp at hm
    | cd d cs => simp at hm
    | oa a w => simp at hm
end
/-! ### the law -/
def sp_lawD (K : PySem.W.Frag) : Sp := fun vs H Q _ => ∃ (a : Addr) (ns : List Int), vs = [.ref a] ∧ SqL K H a (ns.map V.int) ∧ ns.length ≤ 63 ∧ ∀ H', Q (.bl true) H'
theorem len_law {vs : List V} {H : Hp} {QV : VK} {E' : XK} (h : sp_lawD K vs H QV E') : vs.length = 1 := by
  obtain ⟨a, ns, rfl, _⟩ := h
  rfl
theorem fn_law {Nm : List Str} {ts : TS} {vs : List V} {H : Hp} {QV : VK} {E' : XK} {i : Nat} (h : sp_lawD K vs H QV E') (hi : 1 ≤ i) (hl : i < Nm.length) (hb : DS K ts ((E.sc :: List.replicate (Nm.length - 1) E.any).set i .st) (fun _ => False) (fun _ => False) (fun _ => False) (fun d => d = .bl true)) :
    (tSeq (tAsg (tLst (tCons (tC (.int 0)) (tCons (tC (.int 0)) tNil))) (gName i)) ts) { nx := fun _ H' => QV .non H', rt := QV } (L2.start Nm vs) H := by
  obtain ⟨sc, ns, rfl, hS, _, q⟩ := h
  refine (show SM (V0 H H) _ _ _ H from ?_) H (J.start (Ex.refl H))
  refine sm_seq (sm_asg (em_lst (am_cons (em_c (am_cons (em_c (am_nil ?_)))))))
  refine ⟨by show 2 ≤ sizeLine; decide, fun st G1 gs e1 gst => ?_⟩
  refine gm_name (km_next (sm_draws gst gs fun G2 k2 hs g2 => ?_))
  have e2 : Ex H G2 := same_of gs e1 k2
  intro H' j
  refine hb (V1 H H st) _ [] G2 ⟨fun _ H' => QV .non H', QV, fun _ _ => False, fun _ _ => False⟩ ?_ (fun _ _ _ _ z => z.elim) (fun _ _ _ _ z => z.elim) (fun _ _ _ _ z => z.elim) (fun d v L' G' r s' e lo H' j => by subst r; cases s'; exact q H') H' j.hides_nil
  refine env_flat (by show ((L2.start Nm [V.ref sc]).set i (some (.ref st))).length = _; unfold L2.start; simp) (fun j e h => ?_) e2
  show ∃ o, ((L2.start Nm [V.ref sc]).set i (some (.ref st)))[j]? = some o ∧ _
  by_cases z : i = j
  · subst z
    rw [List.getElem?_set_self (by simp; omega)] at h
    cases h
    exact ⟨_, List.getElem?_set_self (by unfold L2.start; simp; omega), .inr ⟨_, rfl, rfl, st, rfl, V1.draw gs⟩⟩
  · rw [List.getElem?_set_ne z] at h ⊢
    match j with
    | 0 => cases h; exact ⟨_, rfl, .inr ⟨_, rfl, rfl, sc, ns, rfl, ex_l e2 hS⟩⟩
    | j + 1 =>
      have h' : (List.replicate (Nm.length - 1) E.any)[j]? = some e := h
      rw [List.getElem?_replicate] at h'
      split at h'
      · rename_i hl
        cases h'
        exact ⟨none, by show (List.replicate (Nm.length - 1) none)[j]? = _; rw [List.getElem?_replicate, if_pos hl], .inl rfl⟩
      · cases h'
end
end Wp

set_option Elab.async false
set_option linter.all false
set_option maxRecDepth 100000
set_option maxHeartbeats 4000000
namespace Wp
section
open PySem PySem.Spec PyProof.Rows HT L2
variable {prog : Program} {w : World} {A : Around} {E : Value → Shared → Prop} {s : Shared}
theorem adjust_rev (n : Nat) : Builtin.Slice.sliceAdjust none none (-1) (n : Int) = ((n : Int) - 1, -1) := by
  unfold Builtin.Slice.sliceAdjust
  simp
theorem places_rev (n : Nat) : Builtin.Slice.slicePlaces ((n : Int) - 1) (-1) (-1) = n := by
  unfold Builtin.Slice.slicePlaces
  simp
  all_goals omega
theorem sliceApplied_rev {sl : Addr} {vl vu vs : Value} {n : Nat} {Q : Int × Int × Nat → Shared → Prop} (hs : s.heap.IsSliceOf sl vl vu vs) (pl : IsPart vl none) (pu : IsPart vu none) (ps : IsPart vs (some (-1)))
    (h : Q ((n : Int) - 1, -1, n) s) : wpAny (model prog w) A (Builtin.Slice.sliceApplied (.ref sl) (pure (n : Int))) Q E s := by
  obtain ⟨os, hos, hcs, hds⟩ := id hs
  unfold Builtin.Slice.sliceApplied Builtin.Slice.sliceFields
  refine wpAny_bind (wpAny_bind (wpAny_field hos hds (x := vl) rfl (wpAny_bind (wpAny_field hos hds (x := vu) rfl (wpAny_bind (wpAny_field hos hds (x := vs) rfl (wpAny_pure ?_)))))))
  refine wpAny_bind (slicePart_ ps ?_)
  show wpAny _ _ (if ((-1 : Int) == 0) = true then _ else _) _ _ s
  rw [if_neg (by decide)]
  refine wpAny_bind (slicePart_ pl (wpAny_bind (slicePart_ pu (wpAny_bind (wpAny_pure ?_)))))
  show wpAny _ _ (match Builtin.Slice.sliceAdjust none none (-1) (n : Int) with | (lo, hi) => pure (lo, (-1 : Int), Builtin.Slice.slicePlaces lo hi (-1))) _ _ s
  rw [adjust_rev n]
  show wpAny _ _ (pure ((n : Int) - 1, (-1 : Int), Builtin.Slice.slicePlaces ((n : Int) - 1) (-1) (-1))) _ _ s
  rw [places_rev]
  exact wpAny_pure h
theorem pick_rev (xs : Array Value) : ((List.range xs.size).filterMap fun (k : Nat) => xs[((xs.size : Int) - 1 + (k : Int) * -1).toNat]?).toArray = xs.toList.reverse.toArray := by
  have e : (fun (k : Nat) => xs[((xs.size : Int) - 1 + (k : Int) * -1).toNat]?) = (xs[·]?) ∘ fun k => xs.size - 1 - k := by
    funext k
    have : ((xs.size : Int) - 1 + (k : Int) * -1).toNat = xs.size - 1 - k := by omega
    rw [this]; rfl
  rw [e, ← List.filterMap_map, PySem.W.krv_range, List.filterMap_reverse, PySem.W.krv_all]
theorem getItem_tuple_rev {t sl : Addr} {items : Array Value} {vl vu vs : Value} {Q : Value → Shared → Prop} (ht : IsTup s.heap t items) (hs : s.heap.IsSliceOf sl vl vu vs) (pl : IsPart vl none) (pu : IsPart vu none) (ps : IsPart vs (some (-1)))
    (h : Q (.ref s.heap.objs.size) { s with heap := s.heap.push { cls := .type "tuple", data := .seq items.toList.reverse.toArray } })
    (hsz : items.size ≤ sizeLine) : wpAny (model prog w) A (getItem (.ref t) (.ref sl)) Q E s := by
  have htake : sizeOk (.seq items.toList.reverse.toArray) := by
    show items.toList.reverse.toArray.size ≤ sizeLine
    rw [List.size_toArray, List.length_reverse, Array.length_toList]
    omega
  obtain ⟨os, hos, hcs, hds⟩ := id hs
  have hTs : s.TypeIs (.ref sl) "slice" := ⟨os, hos, hcs⟩
  unfold getItem
  try with_reducible refine wpAny_holding ?_
  first | refine wpAny_bind (wpAny_pure ?_) | skip
  refine wpAny_bind (wpAny_sequenceKey ht.typeIs (by decide) ?_)
  refine wpAny_bind (wpAny_callSpecial?_slot (name := Str.ofString "__getitem__") ht.typeIs PyProof.Rows.slot_tuple_getitem
    (wpAny_call_entry PyProof.Rows.slot_tuple_getitem ht.typeIs entry_tuple_getitem ?_ (args_tuple_getitem _ _)))
  show wpAny _ _ (Builtin.Tuple.tupleItemsOf (.ref t) >>= _) _ _ s
  refine wpAny_bind (tupleItemsOf_ ht ?_)
  refine wpAny_bind (wpAny_typeOf hTs ?_)
  rw [if_pos (by decide)]
  refine wpAny_bind (sliceApplied_rev hs pl pu ps ?_)
  have hno : ¬ (((items.size : Int) - 1 == 0 && (-1 : Int) == 1 && items.size == items.size) = true) := by simp
  show wpAny _ _ (if ((items.size : Int) - 1 == 0 && (-1 : Int) == 1 && items.size == items.size) = true then _ else _) _ _ s
  rw [if_neg hno, pick_rev]
  first
    | exact wpAny_bind (m := Builtin.Tuple.tupleExact _) (wpAny_newObj_type (wpAny_pure ⟨_, rfl, wpAny_pure h⟩) htake)
    | exact wpAny_bind (m := Builtin.Tuple.tupleExact _) (wpAny_newObj_type (wpAny_bind (wpAny_pure (wpAny_pure ⟨_, rfl, wpAny_pure h⟩))) htake)
    | exact wpAny_bind (wpAny_bind (m := Builtin.Tuple.tupleExact _) (wpAny_newObj_type (wpAny_pure (wpAny_pure ⟨_, rfl, wpAny_pure h⟩)) htake))
    | exact wpAny_bind (wpAny_bind (m := Builtin.Tuple.tupleExact _) (wpAny_newObj_type (wpAny_pure ⟨_, rfl, wpAny_pure h⟩) htake))
/-- xs[::-1] of a list or a tuple -/
def tRevS (K : PySem.W.Frag) (te : TE) : TE := fun σ H Q => te σ H fun x H1 => ∃ a xs, x = .ref a ∧ ((SqL K H1 a xs ∧ ∀ p, H1 p = none → Q (.ref p) (upd H1 p (.lst xs.reverse))) ∨ (SqT K H1 a xs ∧ ∀ p, H1 p = none → Q (.ref p) (upd H1 p (.tup xs.reverse))))
theorem pe_revS {X : Cx} {K : PySem.W.Frag} {e : Expr} {te : TE} {k : Nat} {p1 p2 p3 pos : Pos} (he : PE X e te) (hK : X.K = K := by rfl) : PE X (.Subscript e (.Slice none none (some (.UnaryOp .USub (.Constant (.int 1) k p1) p2)) p3) pos) (tRevS K te) := by
  subst hK
  refine ⟨fun pins s σ H Q I h => ?_⟩
  refine Subscript_ (thn (he.run pins s σ H _ I h) fun v s1 ⟨x, H1, I1, r1, q1⟩ => ?_)
  obtain ⟨a, xs, ex, hq⟩ := q1
  subst ex
  cases r1
  have hst : PO X (some (.UnaryOp .USub (.Constant (.int 1) k p1) p2)) (tPart (tUn (rU fun i => .int (-i)) (tC (.int 1)))) := po_some (pe_un un_neg pe_int)
  refine wpAny_Slice (thn (po_none.run pins s1 σ H1 (fun o H2 => o = none ∧ H2 = H1) I1 ⟨rfl, rfl⟩) fun vl s2 ⟨l, H2, I2, pl, el, e2⟩ => ?_)
  subst el e2
  refine thn (po_none.run pins s2 σ H2 (fun o H3 => o = none ∧ H3 = H2) I2 ⟨rfl, rfl⟩) fun vu s3 ⟨u, H3, I3, pu, eu, e3⟩ => ?_
  subst eu e3
  refine thn (hst.run pins s3 σ H3 (fun o H4 => o = some (-1) ∧ H4 = H3) I3 ⟨1, rfl, -1, rfl, rfl, rfl⟩) fun vs s4 ⟨o, H4, I4, ps, eo, e4⟩ => ?_
  subst eo e4
  have I5 : Inv X pins σ H4 { s4 with heap := s4.heap.push { cls := .type "slice", data := .fields #[vl, vu, vs] } } := I4.kept (t' := s4.toks) fun b ob q => Heap.get?_push_of_some _ q
  show wpAny (model X.prog X.w) X.A (subscriptTail e (.Slice none none (some (.UnaryOp .USub (.Constant (.int 1) k p1) p2)) p3) (.ref a) (.ref s4.heap.objs.size)) (EP X pins σ Q) X.xe { s4 with heap := s4.heap.push { cls := .type "slice", data := .fields #[vl, vu, vs] } }
  rcases hq with ⟨hx, q⟩ | ⟨hx, q⟩
  · obtain ⟨its, r, ht, hz⟩ := I5.list hx
    have hlen := r.length
    refine tail_any (ops := [.ref a, .ref s4.heap.objs.size]) ht.isList.typeIs (PySem.slot_list_getitem.lookup) ?_ (by with_unfolding_all rfl)
    refine wpAny_getItem_list_slice ht.isList (Heap.IsSliceOf.new _ vl vu vs) pl pu ps (by decide) ?_ (by rw [List.size_toArray]; omega)
    rw [PySem.W.krv_pick]
    refine ⟨.ref _, _, I5.laid (t' := s4.toks) (o := .lst xs.reverse) (fun b ob q => Heap.get?_push_of_some _ q) (Nat.le_refl _) ?_, rfl, q _ (I5.hok.fresh (Nat.le_refl _))⟩
    exact ⟨by rw [List.length_reverse]; exact hz, _, 0, r.reverse, Heap.get?_push_size _ rfl⟩
  · obtain ⟨its, r, ht, hz⟩ := I5.tuple hx
    have hlen : its.toArray.size = xs.length := by rw [List.size_toArray]; exact r.length.symm
    refine tail_any (ops := [.ref a, .ref s4.heap.objs.size]) ht.typeIs PyProof.Rows.slot_tuple_getitem.lookup ?_ (by with_unfolding_all rfl)
    refine getItem_tuple_rev ht (Heap.IsSliceOf.new _ vl vu vs) pl pu ps ?_ (by rw [hlen]; exact hz)
    refine ⟨.ref _, _, I5.laid (t' := s4.toks) (o := .tup xs.reverse) (fun b ob q => Heap.get?_push_of_some _ q) (Nat.le_refl _) ?_, rfl, q _ (I5.hok.fresh (Nat.le_refl _))⟩
    exact ⟨by rw [List.length_reverse]; exact hz, _, r.reverse, IsTup.new _ _⟩
end
section
open PySem L2 Evl StX
variable {K : PySem.W.Frag} {ρ : List E} {te tl : TE} {tt : TT} {g : TG} {ts : TS} {N B C : List E → Prop} {R : D → Prop} {Q : E → Prop} {QN : List D → Prop} {vs : List Nat}
theorem de_revS (h : DE K te ρ fun x => (∃ ds, x = .d (.lst ds) ∧ Q (.d (.lst ds.reverse))) ∨ (∃ ds, x = .own ds ∧ Q (.d (.lst ds.reverse))) ∨ ∃ ds, x = .d (.tup ds) ∧ Q (.d (.tup ds.reverse))) : DE K (tRevS K te) ρ Q := fun U σ L G o H j QH q =>
  h U σ L G o H j _ fun v H1 G1 j1 ⟨e1, x, sx, hd⟩ => by
    rcases hd with ⟨ds, rfl, k⟩ | ⟨ds, rfl, k⟩ | ⟨ds, rfl, k⟩
    · cases (sx : Rp K G1 v (.lst ds)) with
      | lst a b => exact ⟨_, _, rfl, .inl ⟨ex_l j1.up (sq_of a), fun l hl => q _ _ _ (j1.alloc hl) ⟨e1.trans (Ex.new (j1.free hl)), .d (.lst ds.reverse), .lst upd_same (b.mono (Ex.new (j1.free hl))).rev, k⟩⟩⟩
    · obtain ⟨a, vs, rfl, hm, b⟩ := sx
      exact ⟨_, _, rfl, .inl ⟨sq_of (j1.at hm), fun l hl => q _ _ _ (j1.alloc hl) ⟨e1.trans (Ex.new (j1.free hl)), .d (.lst ds.reverse), .lst upd_same (b.mono (Ex.new (j1.free hl))).rev, k⟩⟩⟩
    · cases (sx : Rp K G1 v (.tup ds)) with
      | tup a b => exact ⟨_, _, rfl, .inr ⟨ex_t j1.up a, fun l hl => q _ _ _ (j1.alloc hl) ⟨e1.trans (Ex.new (j1.free hl)), .d (.tup ds.reverse), .tup (st_of upd_same) (b.mono (Ex.new (j1.free hl))).rev, k⟩⟩⟩
theorem ki_zip {X : Cx} {e e2 : Expr} {ta : TA} {p pos tpos : Pos} {elts : List Expr} {kk : Nat} (hg : Gl X "zip") (hm : X.mg "zip" = none) (ha : PA X [e, e2] ta) (h : X.K = K := by rfl)
    (hs : starEach [e, e2] X.env = (false, eval e X.env) :: starEach [e2] X.env := by rfl) (hpl : (backTo pos (starEach [e2] X.env)).any (·.1) = false := by rfl) :
    PI X (.Tuple elts kk tpos) (.Call (.Name "zip" p) [e, e2] [] pos) (iZip K ta) := by subst h; exact pi_zip hg hm ha hs hpl
/-- for x, y in zip(two lists) -/
theorem ds_forZ {ta : TA} (h : DA K ta ρ fun ws => ∃ ds es, ws = [.lst ds, .lst es] ∧ ∃ I : Nat → List E → Prop, Wk (I 0) ρ ∧ (∀ (i : Nat) d e ρ', ds[i]? = some d → es[i]? = some e → I i ρ' → DG K g (.d (.tup [d, e])) ρ' fun ρ2 => DS K ts ρ2 (Wk (I (i + 1))) N (Wk (I (i + 1))) R) ∧ ∀ ρ', I (min ds.length es.length) ρ' → N ρ') : DS K (tFor (iZip K ta) g ts) ρ N B C R := fun U σ L G Dn o n b c r H j =>
  h U σ L G o H j _ fun vs H1 G1 j1 ⟨e1, ws, sw, ds, es, ew, I, ⟨ρ0, le0, h0⟩, hs, hd⟩ => by
    subst ew
    cases sw with
    | cons sa sn =>
      cases sn with
      | cons sb sn =>
        cases sn
        cases sa with
        | @lst a xs _ ha k =>
          cases sb with
          | @lst b' ys _ hb' k' =>
            have wk : Walk (Itz K a b') (min xs.length ys.length) (fun H => SqL K H a xs ∧ SqL K H b' ys) (fun i H v H' => ∃ T x y, v = .ref T ∧ H T = none ∧ H' = upd H T (.tup [x, y]) ∧ xs[i]? = some x ∧ ys[i]? = some y) :=
              ⟨fun i H hi ⟨hq, hr⟩ => ⟨xs, ys, xs[i]'(by omega), ys[i]'(by omega), hq, hr, List.getElem?_eq_getElem (by omega), List.getElem?_eq_getElem (by omega)⟩, fun H ⟨hq, hr⟩ => ⟨xs, ys, hq, hr, by omega⟩, fun i H x H' hi ⟨hq, hr⟩ ⟨T, x1, y1, f1, f2, f3, f4, f5⟩ => ⟨T, x1, y1, f1, f2, f3, f4 xs hq, f5 ys hr⟩⟩
            refine ⟨a, b', xs, ys, rfl, sq_of (j1.up _ _ ha), sq_of (j1.up _ _ hb'), for_it wk (fun i σ' H' => ∃ ρ' L' G', I i ρ' ∧ EnvOk K U ρ' σ' L' G' ∧ Ex G1 G' ∧ J (U.hides L') H' G') ⟨ρ0, L, G1, h0, (o.mono e1).le le0, Ex.refl _, j1⟩ (fun i σ' H' _ ⟨ρ', L', G', p, o', e', j'⟩ => ⟨sq_of (j'.up _ _ (e' _ _ ha)), sq_of (j'.up _ _ (e' _ _ hb'))⟩) (fun i x σ' H' H'' hi ⟨ρ', L', G', p, o', e', j'⟩ ⟨T, x1, y1, ex, hT, eH, hx, hy⟩ => ?_) (fun σ' H' ⟨ρ', L', G', p, o', e', j'⟩ => ?_)⟩
            · subst ex eH
              obtain ⟨d, d1, d2⟩ := k.at hx
              obtain ⟨e, q1, q2⟩ := k'.at hy
              have eT : Ex G' (upd G' T (.tup [x1, y1])) := Ex.new (j'.free hT)
              exact loop_env (n.mono e1) (r.mono e1) (o'.mono eT) (e'.trans eT) (j'.alloc hT) (e := .d (.tup [d, e])) (Rp.tup (st_of upd_same) (.cons ((d2.mono e').mono eT) (.cons ((q2.mono e').mono eT) .nil))) (hs i d e ρ' d1 q1 p)
            · rw [k.len, k'.len] at p; exact n ρ' σ' L' G' (hd ρ' p) o' (e1.trans e') H' j'
/-- name += e, name -= e -/
theorem ds_aug {i : Nat} {f : Int → Int → Int} (h : ∃ n, ρ[i]? = some (.d (.int n)) ∧ DE K te ρ fun e => IE e fun m => SetTo ρ i (.d (.int (f n m))) N) : DS K (tAug i te (ipI f)) ρ N B C R := fun U σ L G Dn o n b c r H j => by
  obtain ⟨k, h1, h2⟩ := h
  obtain ⟨v, h3, h4⟩ := o.at h1 rfl
  cases (h4 : Rp K G v (.int k))
  refine ⟨_, h3, h2 U σ L G o H j _ fun y H1 G1 j1 ⟨e1, x, sx, m, ex, ρ', hr, kn⟩ => ?_⟩
  subst ex hr
  cases (sx : Rp K G1 y (.int m))
  exact ⟨_, _, rfl, rfl, n _ _ _ _ kn ((o.mono e1).set (e := .d (.int (f k m))) rfl (Rp.int _)) e1 H1 j1⟩
/-! ### a list or a tuple -/
def rIxS (K : PySem.W.Frag) : R2 := fun x y H Q => rIxL K x y H Q ∨ rIxT K x y H Q
theorem kx_seq {X : Cx} (h : X.K = K := by rfl) : IxR X (rIxS K) := by
  subst h
  intro value slice pins s σ H x y v u Q I rx ry hq hs
  exact hq.elim (fun z => ix_list value slice pins s σ H x y v u Q I rx ry z hs) (fun z => ix_tup value slice pins s σ H x y v u Q I rx ry z hs)
theorem dr_ixSL {ds : List D} {i : Int} (h : ∃ d, atI ds i = some d ∧ Q (.d d)) : DR K (rIxS K) (.d (.lst ds)) (.d (.int i)) Q := fun U L G v w lo sx sy H j QH q => .inl (dr_ixL h U L G v w lo sx sy H j QH q)
theorem dr_ixST {ds : List D} {i : Int} (h : ∃ d, atI ds i = some d ∧ Q (.d d)) : DR K (rIxS K) (.d (.tup ds)) (.d (.int i)) Q := fun U L G v w lo sx sy H j QH q => .inr (dr_ixT h U L G v w lo sx sy H j QH q)
def rSlS (K : PySem.W.Frag) : V → Option Int → Option Int → Hp → VK → Prop := fun x lo hi H Q => rSlL K x lo hi H Q ∨ rSlA K x lo hi H Q
theorem kl_seq {X : Cx} (h : X.K = K := by rfl) : SlR X (rSlS K) := by subst h; exact SlR.or sl_list sl_tupA
theorem kl_tupA {X : Cx} (h : X.K = K := by rfl) : SlR X (rSlA K) := by subst h; exact sl_tupA
theorem kp_catA {X : Cx} (h : X.K = K := by rfl) : OpR X (binaryOp .Add) (rCatA K) := by subst h; exact op_catA
theorem cut_whole {ds : List D} {lo hi : Option Int} (h : HT.sIx ds.length 0 lo = 0 ∧ HT.sIx ds.length ds.length hi = ds.length) : cutO ds lo hi = ds := by
  unfold cutO
  rw [h.1, h.2, List.drop_zero, Nat.sub_zero, List.take_length]
theorem dsl_A {ds : List D} {lo hi : Option Int} (k : Q (.d (.tup (cutO ds lo hi)))) : DSl K (rSlA K) (.d (.tup ds)) lo hi Q := fun U L G v _ sx H j QH q => by
  cases (sx : Rp K G v (.tup ds)) with
  | tup a b =>
    refine ⟨_, _, rfl, ex_t j.up a, fun h => ?_, fun h p hp => ?_⟩
    · rw [b.len] at h
      exact q _ _ _ j ⟨Ex.refl G, .d (.tup (cutO ds lo hi)), by rw [cut_whole h]; exact .tup a b, k⟩
    · exact q _ _ _ (j.alloc hp) ⟨Ex.new (j.free hp), .d (.tup (cutO ds lo hi)), .tup (st_of upd_same) ((b.mono (Ex.new (j.free hp))).cut lo hi), k⟩
theorem dsl_SL {ds : List D} {lo hi : Option Int} (k : Q (.d (.lst (cutO ds lo hi)))) : DSl K (rSlS K) (.d (.lst ds)) lo hi Q := fun U L G v lo' sx H j QH q => .inl (dsl_L k U L G v lo' sx H j QH q)
theorem dsl_ST {ds : List D} {lo hi : Option Int} (k : Q (.d (.tup (cutO ds lo hi)))) : DSl K (rSlS K) (.d (.tup ds)) lo hi Q := fun U L G v lo' sx H j QH q => .inr (dsl_A k U L G v lo' sx H j QH q)
theorem dr_catA {ds es : List D} (hz : ds.length + es.length ≤ sizeLine) (k : Q (.d (.tup (ds ++ es)))) : DR K (rCatA K) (.d (.tup ds)) (.d (.tup es)) Q := fun U L G v w _ sx sy H j QH q => by
  cases (sx : Rp K G v (.tup ds)) with
  | @tup a xs _ ha b =>
    cases (sy : Rp K G w (.tup es)) with
    | @tup a' ys _ ha' b' =>
      refine ⟨_, _, _, _, rfl, rfl, ex_t j.up ha, ex_t j.up ha', by rw [b.len, b'.len]; exact hz, fun h => ?_, fun _ h => ?_, fun _ _ p hp => ?_⟩
      · subst h; cases b; exact q _ _ _ j ⟨Ex.refl G, .d (.tup es), .tup ha' b', k⟩
      · subst h; cases b'; exact q _ _ _ j ⟨Ex.refl G, .d (.tup (ds ++ [])), by rw [List.append_nil]; exact .tup ha b, k⟩
      · exact q _ _ _ (j.alloc hp) ⟨Ex.new (j.free hp), .d (.tup (ds ++ es)), .tup (st_of upd_same) ((b'.mono (Ex.new (j.free hp))).app (b.mono (Ex.new (j.free hp)))), k⟩
/-- a walk over a list or a tuple -/
theorem dn_lcS (h : (DN K (tLc (iList K tl) g tt te vs) ρ QN) ∨ DN K (tLc (iTup K tl) g tt te vs) ρ QN) : DN K (tLc (iSeq K tl) g tt te vs) ρ QN := fun U σ L G o H j QH q =>
  h.elim (fun h => .inl (h U σ L G o H j QH q)) (fun h => .inr (h U σ L G o H j QH q))
theorem ds_forS (h : DS K (tFor (iList K tl) g ts) ρ N B C R ∨ DS K (tFor (iTup K tl) g ts) ρ N B C R) : DS K (tFor (iSeq K tl) g ts) ρ N B C R := fun U σ L G Dn o n b c r H j =>
  h.elim (fun h => .inl (h U σ L G Dn o n b c r H j)) (fun h => .inr (h U σ L G Dn o n b c r H j))
end
end Wp

set_option Elab.async false
set_option linter.all false
set_option maxRecDepth 100000
set_option maxHeartbeats 4000000
namespace Wp
section
open PySem PySem.Spec PyProof.Rows HT L2 Evl StX
variable {K : PySem.W.Frag} {ρ : List E} {QN : List D → Prop} {ta : TA} {te : TE} {tt : TT} {g : TG} {vs : List Nat}
/-- a comprehension over a range with a step -/
theorem dn_lcR3 (h : DA K ta ρ fun ws => ∃ (i j c : Int) (n : Nat), ws = [.int i, .int j, .int c] ∧ RgC i j c n ∧ n < 16000000 ∧ ∃ P : Nat → List D → Prop, P 0 [] ∧ (∀ i acc, P i acc → acc.length ≤ i) ∧ (∀ (k : Nat) acc, k < n → P k acc → DGW K g (.d (.int (i + (k : Nat) * c))) vs ρ fun ρ2 => DT K tt ρ2 fun b => if b = true then DE K te ρ2 fun y => DD y fun dy => P (k + 1) (acc ++ [dy]) else P (k + 1) acc) ∧ ∀ acc, P n acc → QN acc) : DN K (tLc (iRng3 ta) g tt te vs) ρ QN := fun U σ L G o H j0 QH q =>
  h U σ L G o H j0 _ fun us H1 G1 j1 ⟨e1, ws, sw, i, j, c, n, ew, rg, b2, P, h0, hz, hs, hd⟩ => by
    subst ew
    cases sw with
    | cons sa sn =>
      cases sn with
      | cons sb sn =>
        cases sn with
        | cons sc sn =>
          cases sn
          cases sa
          cases sb
          cases sc
          refine ⟨i, j, c, n, rfl, rg, fun Dd hD => ?_⟩
          have c0 := lc_ok o e1 j1 hD
          refine ⟨fun k m H => m = n - k ∧ k ≤ n ∧ LcP K U L G1 Dd P k H, ⟨n, by simp, Nat.zero_le _, ?_⟩, ?_⟩
          · obtain ⟨G', e', j'⟩ := lc_start (σ := σ) c0 j1 hD
            exact ⟨[], [], G', h0, .nil, e', j'⟩
          · rintro k m H' ⟨rfl, hk, p⟩
            by_cases hlt : k < n
            · obtain ⟨acc, ads, G', p', ka, e', j'⟩ := p
              refine .inr ⟨hlt, LcP K U L G1 Dd P (k + 1), fun H2 p2 => ⟨n - (k + 1), by omega, rfl, hlt, p2⟩, fun x H2 y => ?_⟩
              obtain ⟨y1, y2⟩ := y
              subst y1 y2
              exact lc_env (e := .d (.int (i + (k : Nat) * c))) c0.nl (c0.lo o.lo (.ex (.lst acc))) (o.mono (e1.trans e')) e' j' (Rp.int _) ka (by have := hz k ads p'; omega) (hs k ads hlt p')
            · have e : k = n := by omega
              subst e
              obtain ⟨G2, j2, r⟩ := lc_done c0 e1 p hd
              exact .inl ⟨Nat.le_refl _, q _ _ _ j2 r⟩
theorem dn_mapR3 (f : Nat → D) (h : DA K ta ρ fun ws => ∃ (i j c : Int) (n : Nat), ws = [.int i, .int j, .int c] ∧ RgC i j c n ∧ n < 16000000 ∧ (∀ (k : Nat), k < n → DGW K g (.d (.int (i + (k : Nat) * c))) vs ρ fun ρ2 => DE K te ρ2 fun y => y = .d (f k)) ∧ QN ((List.range n).map f)) : DN K (tLc (iRng3 ta) g tYes te vs) ρ QN :=
  dn_lcR3 fun U σ L G o => (h U σ L G o).w fun v G1 ⟨e1, ws, sw, i, j, c, n, ew, rg, b2, hs, hq⟩ => ⟨e1, ws, sw, i, j, c, n, ew, rg, b2, fun k acc => acc = (List.range k).map f, rfl, fun k acc p => by rw [p]; simp, fun k acc hk p =>
    fun U σ L G v o s => (hs k hk U σ L G v o s).w fun σ2 G2 ⟨hw, e2, ρ2, o2, k2⟩ => ⟨hw, e2, ρ2, o2, dt_yes (by
      rw [if_pos rfl]
      exact fun U σ L G o => (k2 U σ L G o).w fun y G3 ⟨e3, z, sz, ez⟩ => ⟨e3, z, sz, f k, ez, by show acc ++ [f k] = (List.range (k + 1)).map f; rw [show acc = (List.range k).map f from p, List.range_succ]; simp⟩)⟩, fun acc p => by rw [p]; exact hq⟩
end
end Wp

set_option Elab.async false
set_option linter.all false
set_option maxRecDepth 100000
set_option maxHeartbeats 4000000
/-! Walks over anything, by the items; lists of keys and values as data. -/
namespace Wp
section
open PySem L2 Evl StX
set_option autoImplicit false
/-- what an iterator gives: these data, one behind the other, whatever is added to the heap meanwhile -/
def ItOk (K : PySem.W.Frag) (I : It) (G1 : Hp) (xs : List D) : Prop := ∃ (Gd : Hp → Prop) (Y : Nat → Hp → V → Hp → Prop), Walk I xs.length Gd Y ∧ (∀ U H G, J U H G → Ex G1 G → Gd H) ∧
  ∀ U i H v H' G, J U H G → Ex G1 G → i < xs.length → Y i H v H' → ∃ G' d, Ex G G' ∧ J U H' G' ∧ xs[i]? = some d ∧ Rp K G' v d
def DI (K : PySem.W.Frag) (wi : TI) (ρ : List E) (P : List D → Prop) : Prop := ∀ U σ L G, EnvOk K U ρ σ L G → ∀ H, J (U.hides L) H G → ∀ R : It → Hp → Prop, (∀ I H1 G1 xs, J (U.hides L) H1 G1 → Ex G G1 → ItOk K I G1 xs → P xs → R I H1) → wi σ H R
section
variable {K : PySem.W.Frag} {ρ : List E} {P : List D → Prop} {tl te : TE} {ta : TA} {tt : TT} {g : TG} {ts : TS} {vs : List Nat} {N B C : List E → Prop} {R : D → Prop} {QN : List D → Prop}
theorem itok_list {G : Hp} {a : Addr} {xs : List V} {ds : List D} (h : G a = some (.lst xs)) (k : RpA K G xs ds) : ItOk K (Itl K a) G ds := by
  refine ⟨fun H => SqL K H a xs, YAt xs, k.len ▸ walk_list, fun U H G' j e => sq_of (j.up _ _ (e _ _ h)), fun U i H v H' G' j e hi ⟨eh, hx⟩ => ?_⟩
  subst eh
  obtain ⟨d, h1, h2⟩ := k.at hx
  exact ⟨G', d, Ex.refl _, j, h1, h2.mono e⟩
theorem itok_tup {G : Hp} {a : Addr} {xs : List V} {ds : List D} (h : SqT K G a xs) (k : RpA K G xs ds) : ItOk K (Itt K a) G ds := by
  refine ⟨fun H => SqT K H a xs, YAt xs, k.len ▸ walk_tup, fun U H G' j e => ex_t j.up (ex_t e h), fun U i H v H' G' j e hi ⟨eh, hx⟩ => ?_⟩
  subst eh
  obtain ⟨d, h1, h2⟩ := k.at hx
  exact ⟨G', d, Ex.refl _, j, h1, h2.mono e⟩
/-- a list or a tuple, as it comes -/
def iSq (K : PySem.W.Frag) (tl : TE) : TI := fun σ H R => tl σ H fun x H1 => ∃ a, x = .ref a ∧ ((∃ xs, SqL K H1 a xs) ∧ R (Itl K a) H1 ∨ (∃ xs, SqT K H1 a xs) ∧ R (Itt K a) H1)
theorem ki_sq {X : Cx} {tg e : Expr} {te : TE} (he : PE X e te) (h : X.K = K := by rfl) : PI X tg e (iSq K te) := by
  subst h
  refine ⟨fun pins s σ H RR I hh => thn (he.run pins s σ H _ I hh) fun v s1 ⟨x, H1, I1, r1, a, ea, q1⟩ => ?_⟩
  subst ea; cases r1
  have fp : ∀ b ∈ [s1.heap.objs.size], FpOk X pins H1 b := fun b hb => by
    rw [show b = s1.heap.objs.size by simpa using hb]; exact I1.fpOk (Nat.le_refl _) (I1.hok.fresh (Nat.le_refl _))
  rcases q1 with ⟨⟨xs, hx⟩, q⟩ | ⟨⟨xs, hx⟩, q⟩
  · obtain ⟨its, rv, pl, hz⟩ := I1.list hx
    exact wpAny_pyIter_list pl.isList ⟨_, [_], _, _, H1, rfl, I1.kept (t' := s1.toks) (fun b o z => Heap.get?_push_of_some _ z), turn_list a _, ⟨_, Heap.get?_push_size _ rfl, rfl, rfl⟩, fp, q⟩
  · obtain ⟨its, rv, pt, hz⟩ := I1.tuple hx
    exact wpAny_pyIter_tuple (show s1.heap.IsTuple a its.toArray from pt) ⟨_, [_], _, _, H1, rfl, I1.kept (t' := s1.toks) (fun b o z => Heap.get?_push_of_some _ z), turn_tuple a _, ⟨_, Heap.get?_push_size _ rfl, rfl, rfl⟩, fp, q⟩
theorem di_sq (h : DE K tl ρ fun e => ∃ ds, (e = .d (.lst ds) ∨ e = .d (.tup ds)) ∧ P ds) : DI K (iSq K tl) ρ P := fun U σ L G o H j RR q =>
  h U σ L G o H j _ fun v H1 G1 j1 ⟨e1, x, sx, ds, ed, p⟩ => by
    rcases ed with rfl | rfl
    · cases (sx : Rp K G1 v (.lst ds)) with
      | lst a k => exact ⟨_, rfl, .inl ⟨⟨_, sq_of (j1.up _ _ a)⟩, q _ _ _ _ j1 e1 (itok_list a k) p⟩⟩
    · cases (sx : Rp K G1 v (.tup ds)) with
      | tup a k => exact ⟨_, rfl, .inr ⟨⟨_, ex_t j1.up a⟩, q _ _ _ _ j1 e1 (itok_tup a k) p⟩⟩
/-- the ints lo, lo + c, .. -/
def rgI (lo c : Int) (n : Nat) : List Int := (List.range n).map fun (k : Nat) => lo + (k : Int) * c
theorem rgI_len (lo c : Int) (n : Nat) : (rgI lo c n).length = n := by simp [rgI]
theorem rgI_at {lo c : Int} {n i : Nat} (h : i < n) : (rgI lo c n)[i]? = some (lo + (i : Int) * c) := by simp [rgI, h]
theorem itok_c {G : Hp} {lo c : Int} {n : Nat} : ItOk K (Itc lo c n) G ((rgI lo c n).map D.int) := by
  refine ⟨fun _ => True, YFn fun i => .int (lo + (i : Nat) * c), by rw [List.length_map, rgI_len]; exact walk_rangeC, fun _ _ _ _ _ => trivial, fun U i H v H' G' j e hi ⟨eh, ev⟩ => ?_⟩
  subst eh ev
  rw [List.length_map, rgI_len] at hi
  exact ⟨G', _, Ex.refl _, j, by rw [List.getElem?_map, rgI_at hi]; rfl, .int _⟩
theorem itok_r {G : Hp} {lo : Int} {n : Nat} : ItOk K (Itr lo n) G ((rgI lo 1 n).map D.int) := by
  refine ⟨fun _ => True, YFn fun i => .int (lo + i), by rw [List.length_map, rgI_len]; exact walk_range, fun _ _ _ _ _ => trivial, fun U i H v H' G' j e hi ⟨eh, ev⟩ => ?_⟩
  subst eh ev
  rw [List.length_map, rgI_len] at hi
  exact ⟨G', _, Ex.refl _, j, by rw [List.getElem?_map, rgI_at hi]; rfl, by rw [Int.mul_one]; exact .int _⟩
def Big (n : Int) : Prop := -(2 ^ 62) ≤ n ∧ n < 2 ^ 62
theorem di_rng1 (h : DA K ta ρ fun ws => ∃ m : Int, ws = [.int m] ∧ Big m ∧ P ((rgI 0 1 m.toNat).map D.int)) : DI K (iRng1 ta) ρ P := fun U σ L G o H j RR q =>
  h U σ L G o H j _ fun us H1 G1 j1 ⟨e1, ws, sw, m, ew, b, p⟩ => by
    subst ew
    cases sw with
    | cons sa sn => cases sn; cases sa; exact ⟨m, rfl, b.1, b.2, q _ _ _ _ j1 e1 itok_r p⟩
theorem di_rng2 (h : DA K ta ρ fun ws => ∃ lo m : Int, ws = [.int lo, .int m] ∧ Big lo ∧ Big m ∧ P ((rgI lo 1 (m - lo).toNat).map D.int)) : DI K (iRng2 ta) ρ P := fun U σ L G o H j RR q =>
  h U σ L G o H j _ fun us H1 G1 j1 ⟨e1, ws, sw, lo, m, ew, b, b', p⟩ => by
    subst ew
    cases sw with
    | cons sa sn => cases sn with | cons sb sn => cases sn; cases sa; cases sb; exact ⟨lo, m, rfl, ⟨b.1, b.2, b'.1, b'.2⟩, q _ _ _ _ j1 e1 itok_r p⟩
theorem di_rng3 (h : DA K ta ρ fun ws => ∃ (i j c : Int) (n : Nat), ws = [.int i, .int j, .int c] ∧ RgC i j c n ∧ P ((rgI i c n).map D.int)) : DI K (iRng3 ta) ρ P := fun U σ L G o H j RR q =>
  h U σ L G o H j _ fun us H1 G1 j1 ⟨e1, ws, sw, i, jj, c, n, ew, b, p⟩ => by
    subst ew
    cases sw with
    | cons sa sn => cases sn with | cons sb sn => cases sn with | cons sc sn => cases sn; cases sa; cases sb; cases sc; exact ⟨i, jj, c, n, rfl, b, q _ _ _ _ j1 e1 itok_c p⟩
theorem di_rev1 (h : DE K te ρ fun e => IE e fun m => Big m ∧ P ((rgI ((m.toNat : Int) - 1) (-1) m.toNat).map D.int)) : DI K (iRevR (tRg1 te)) ρ P := fun U σ L G o H j RR q =>
  h U σ L G o H j _ fun v H1 G1 j1 ⟨e1, x, sx, m, ew, b, p⟩ => by
    subst ew
    cases (sx : Rp K G1 v (.int m))
    refine ⟨m, rfl, by omega, by omega, b.1, b.2, ?_⟩
    have em : (m - 0).toNat = m.toNat := by rw [Int.sub_zero]
    have e0 : (0 : Int) + ((m - 0).toNat : Int) - 1 = (m.toNat : Int) - 1 := by omega
    rw [e0, em]
    exact q _ _ _ _ j1 e1 itok_c p
def pairsN (ds : List D) : List D := (List.range ds.length).map fun (i : Nat) => D.tup [.int (i : Int), ds.getD i .non]
theorem pairsN_at {ds : List D} {i : Nat} {d : D} (h : ds[i]? = some d) : (pairsN ds)[i]? = some (.tup [.int (i : Int), d]) := by
  have hi := (List.getElem?_eq_some_iff.mp h).1
  have hd : ds.getD i .non = d := by rw [List.getD_eq_getElem?_getD, h]; rfl
  unfold pairsN
  rw [List.getElem?_map, List.getElem?_range hi, Option.map_some, hd]
theorem itok_pair {G : Hp} {I : It} {n : Nat} {Gd : Hp → Prop} {xs ys : Nat → Option V} {f : Nat → D} (w : Walk I n Gd (YPair xs ys)) (hg : ∀ U H G', J U H G' → Ex G G' → Gd H) (hx : ∀ i x y, i < n → xs i = some x → ys i = some y → ∃ d1 d2, f i = .tup [d1, d2] ∧ Rp K G x d1 ∧ Rp K G y d2) : ItOk K I G ((List.range n).map f) := by
  refine ⟨Gd, YPair xs ys, by rw [List.length_map, List.length_range]; exact w, hg, fun U i H v H' G' j e hi ⟨T, x, y, ev, hT, eh, h1, h2⟩ => ?_⟩
  subst eh ev
  rw [List.length_map, List.length_range] at hi
  obtain ⟨d1, d2, ef, r1, r2⟩ := hx i x y hi h1 h2
  have eT : Ex G' (upd G' T (.tup [x, y])) := Ex.new (j.free hT)
  exact ⟨_, f i, eT, j.alloc hT, by simp [hi], by rw [ef]; exact .tup (st_of upd_same) (.cons ((r1.mono e).mono eT) (.cons ((r2.mono e).mono eT) .nil))⟩
theorem walk_enumT {a : Addr} {xs : List V} : Walk (IteT K a) xs.length (fun H => SqT K H a xs) (YPair (fun i => some (.int (i : Nat))) (fun i => xs[i]?)) := by
  refine ⟨fun i _ hi q => ⟨xs, xs[i], q, by simp [hi]⟩, fun _ q => ⟨xs, q, Nat.le_refl _⟩, fun i H v H' _ q y => ?_⟩
  obtain ⟨T, x, h1, h2, h3, h4⟩ := y
  exact ⟨T, .int (i : Nat), x, h1, h2, h3, rfl, h4 xs q⟩
theorem rpa_getD {G : Hp} {xs : List V} {ds : List D} (k : RpA K G xs ds) {i : Nat} {x : V} (h : xs[i]? = some x) : Rp K G x (ds.getD i .non) := by
  obtain ⟨d, h1, h2⟩ := k.at h
  rw [List.getD_eq_getElem?_getD, h1]; exact h2
theorem di_enum (h : DA K ta ρ fun ws => ∃ ds, ws = [.lst ds] ∧ P (pairsN ds)) : DI K (iEnum K ta) ρ P := fun U σ L G o H j RR q =>
  h U σ L G o H j _ fun us H1 G1 j1 ⟨e1, ws, sw, ds, ew, p⟩ => by
    subst ew
    cases sw with
    | cons sa sn =>
      cases sn
      cases sa with
      | @lst a xs _ ha k =>
        exact ⟨a, xs, rfl, sq_of (j1.up _ _ ha), q _ _ _ _ j1 e1 (by
          unfold pairsN
          refine itok_pair (k.len ▸ walk_enum) (fun U H G' j e => sq_of (j.up _ _ (e _ _ ha))) fun i x y hi h1 h2 => ?_
          cases h1
          exact ⟨_, _, rfl, .int _, rpa_getD k h2⟩) p⟩
theorem di_enumT (h : DA K ta ρ fun ws => ∃ ds, ws = [.tup ds] ∧ P (pairsN ds)) : DI K (iEnumT K ta) ρ P := fun U σ L G o H j RR q =>
  h U σ L G o H j _ fun us H1 G1 j1 ⟨e1, ws, sw, ds, ew, p⟩ => by
    subst ew
    cases sw with
    | cons sa sn =>
      cases sn
      cases sa with
      | @tup a xs _ ha k =>
        exact ⟨a, xs, rfl, ex_t j1.up ha, q _ _ _ _ j1 e1 (by
          unfold pairsN
          refine itok_pair (k.len ▸ walk_enumT) (fun U H G' j e => ex_t j.up (ex_t e ha)) fun i x y hi h1 h2 => ?_
          cases h1
          exact ⟨_, _, rfl, .int _, rpa_getD k h2⟩) p⟩
/-- enumerate of a list or a tuple, as it comes -/
def iEnumA (K : PySem.W.Frag) (ta : TA) : TI := fun σ H R => ta σ H fun vs H1 => ∃ a xs, vs = [.ref a] ∧ (SqL K H1 a xs ∧ R (Ite K a) H1 ∨ SqT K H1 a xs ∧ R (IteT K a) H1)
theorem ki_enumA {X : Cx} {e : Expr} {ta : TA} {p pos tpos : Pos} {elts : List Expr} {kk : Nat} (hg : Gl X "enumerate") (hm : X.mg "enumerate" = none) (ha : PA X [e] ta) (hs : starEach [e] X.env = [(false, eval e X.env)] := by rfl) (hK : X.K = K := by rfl) :
    PI X (.Tuple elts kk tpos) (.Call (.Name "enumerate" p) [e] [] pos) (iEnumA K ta) := by
  subst hK
  refine ⟨fun pins s σ H R I h => PyProof.Rows.Call_ (ld_blt I hg hm PyProof.Rows.boot_enumerate (PyProof.Rows.callWith_type1 (thn (ha.run pos pins s σ H _ I h) fun us s1 ⟨vs, H1, I1, r1, a, xs, ex, q⟩ => ?_) hs rfl))⟩
  subst ex
  rw [Vals.ref1 r1]
  have fp : ∀ b ∈ [s1.heap.objs.size + 1, s1.heap.objs.size], FpOk X pins H1 b := fun b hb => by
    have hle : s1.heap.objs.size ≤ b := by
      rcases (show b = s1.heap.objs.size + 1 ∨ b = s1.heap.objs.size by simpa using hb) with z | z <;> omega
    exact I1.fpOk hle (I1.hok.fresh hle)
  rcases q with ⟨hq, q⟩ | ⟨hq, q⟩
  · obtain ⟨its, rv, pl, hz⟩ := I1.list hq
    refine call_enumerate_list pl.isList fun h' he hit hsz hk => wpAny_pyIter_enum he ⟨_, _, _, _, H1, rfl, I1.kept (t' := s1.toks) hk, turn_enum a (s1.heap.objs.size + 1) s1.heap.objs.size, ⟨⟨.none, he⟩, hit, Nat.succ_ne_self _⟩, fp, q⟩
  · obtain ⟨its, rv, p', hz⟩ := I1.tuple hq
    have hal : a < s1.heap.objs.size := p'.lt
    refine call_enumerate_tuple p' fun h' he hit hsz hk => wpAny_pyIter_enum he ⟨_, _, _, _, H1, rfl, I1.kept (t' := s1.toks) hk, turn_enumT a (s1.heap.objs.size + 1) s1.heap.objs.size, ⟨⟨.none, he⟩, hit, Nat.succ_ne_self _, Nat.ne_of_lt hal, Nat.ne_of_gt (Nat.lt_succ_of_lt hal)⟩, fp, q⟩
theorem di_enumA (h : DA K ta ρ fun ws => ∃ ds, (ws = [.lst ds] ∨ ws = [.tup ds]) ∧ P (pairsN ds)) : DI K (iEnumA K ta) ρ P := fun U σ L G o H j RR q =>
  h U σ L G o H j _ fun us H1 G1 j1 ⟨e1, ws, sw, ds, ew, p⟩ => by
    rcases ew with rfl | rfl
    · cases sw with
      | cons sa sn =>
        cases sn
        cases sa with
        | @lst a xs _ ha k =>
          exact ⟨a, xs, rfl, .inl ⟨sq_of (j1.up _ _ ha), q _ _ _ _ j1 e1 (by
            unfold pairsN
            refine itok_pair (k.len ▸ walk_enum) (fun U H G' j e => sq_of (j.up _ _ (e _ _ ha))) fun i x y hi h1 h2 => ?_
            cases h1
            exact ⟨_, _, rfl, .int _, rpa_getD k h2⟩) p⟩⟩
    · cases sw with
      | cons sa sn =>
        cases sn
        cases sa with
        | @tup a xs _ ha k =>
          exact ⟨a, xs, rfl, .inr ⟨ex_t j1.up ha, q _ _ _ _ j1 e1 (by
            unfold pairsN
            refine itok_pair (k.len ▸ walk_enumT) (fun U H G' j e => ex_t j.up (ex_t e ha)) fun i x y hi h1 h2 => ?_
            cases h1
            exact ⟨_, _, rfl, .int _, rpa_getD k h2⟩) p⟩⟩
def zipN (xs ys : List D) : List D := (List.range (min xs.length ys.length)).map fun i => D.tup [xs.getD i .non, ys.getD i .non]
theorem zipN_len (xs ys : List D) : (zipN xs ys).length = min xs.length ys.length := by simp [zipN]
theorem walk_zipT {a b : Addr} {xs ys : List V} {n : Nat} (hn : n = min xs.length ys.length) : Walk (RZ.ItzT K a b) n (fun H => SqT K H a xs ∧ SqT K H b ys) (YPair (fun i => xs[i]?) (fun i => ys[i]?)) := by
  subst hn
  refine ⟨fun i _ hi q => ?_, fun _ q => ⟨xs, ys, q.1, q.2, by omega⟩, fun i H v H' _ q y => ?_⟩
  · have h1 : i < xs.length := by omega
    have h2 : i < ys.length := by omega
    exact ⟨xs, ys, xs[i], ys[i], q.1, q.2, by simp [h1], by simp [h2]⟩
  · obtain ⟨T, x, z, h1, h2, h3, h4, h5⟩ := y
    exact ⟨T, x, z, h1, h2, h3, h4 xs q.1, h5 ys q.2⟩
def iZipB (K : PySem.W.Frag) (ta : TA) : TI := RZ.iZipA K ta
theorem ki_zipA {X : Cx} {e e2 : Expr} {ta : TA} {p pos tpos : Pos} {elts : List Expr} {kk : Nat} (hg : Gl X "zip") (hm : X.mg "zip" = none) (ha : PA X [e, e2] ta) (h : X.K = K := by rfl)
    (hs : starEach [e, e2] X.env = (false, eval e X.env) :: starEach [e2] X.env := by rfl) (hpl : (backTo pos (starEach [e2] X.env)).any (·.1) = false := by rfl) :
    PI X (.Tuple elts kk tpos) (.Call (.Name "zip" p) [e, e2] [] pos) (iZipB K ta) := by subst h; exact RZ.pi_zipA hg hm ha hs hpl
theorem di_zip (h : DA K ta ρ fun ws => ∃ ds es, (ws = [.lst ds, .lst es] ∨ ws = [.tup ds, .tup es]) ∧ P (zipN ds es)) : DI K (iZipB K ta) ρ P := fun U σ L G o H j RR q =>
  h U σ L G o H j _ fun us H1 G1 j1 ⟨e1, ws, sw, ds, es, ew, p⟩ => by
    rcases ew with rfl | rfl
    · cases sw with
      | cons sa sn =>
        cases sn with
        | cons sb sn =>
          cases sn
          cases sa with
          | @lst a xs _ ha k =>
            cases sb with
            | @lst b ys _ hb k2 =>
              exact ⟨a, b, xs, ys, rfl, .inl ⟨sq_of (j1.up _ _ ha), sq_of (j1.up _ _ hb), q _ _ _ _ j1 e1 (itok_pair (walk_zip (by rw [k.len, k2.len])) (fun U H G' j e => ⟨sq_of (j.up _ _ (e _ _ ha)), sq_of (j.up _ _ (e _ _ hb))⟩) fun i x y hi h1 h2 => ⟨_, _, rfl, rpa_getD k h1, rpa_getD k2 h2⟩) p⟩⟩
    · cases sw with
      | cons sa sn =>
        cases sn with
        | cons sb sn =>
          cases sn
          cases sa with
          | @tup a xs _ ha k =>
            cases sb with
            | @tup b ys _ hb k2 =>
              exact ⟨a, b, xs, ys, rfl, .inr ⟨ex_t j1.up ha, ex_t j1.up hb, q _ _ _ _ j1 e1 (itok_pair (walk_zipT (by rw [k.len, k2.len])) (fun U H G' j e => ⟨ex_t j.up (ex_t e ha), ex_t j.up (ex_t e hb)⟩) fun i x y hi h1 h2 => ⟨_, _, rfl, rpa_getD k h1, rpa_getD k2 h2⟩) p⟩⟩
/-! ### comprehensions and loops over any -/
theorem dn_lc {wi : TI} (h : DI K wi ρ fun xs => xs.length < 16000000 ∧ ∃ P : Nat → List D → Prop, P 0 [] ∧ (∀ i acc, P i acc → acc.length ≤ i) ∧ (∀ (i : Nat) d acc, xs[i]? = some d → P i acc → DGW K g (.d d) vs ρ fun ρ2 => DT K tt ρ2 fun b => if b = true then DE K te ρ2 fun y => DD y fun dy => P (i + 1) (acc ++ [dy]) else P (i + 1) acc) ∧ ∀ acc, P xs.length acc → QN acc) : DN K (tLc wi g tt te vs) ρ QN := fun U σ L G o H j QH q =>
  h U σ L G o H j _ fun I H1 G1 xs j1 e1 ok ⟨hlen, P, h0, hz, hs, hd⟩ => by
    intro Dd hD
    obtain ⟨Gd, Y, wk, hg, hy⟩ := ok
    have c := lc_ok o e1 j1 hD
    refine lc_it wk (LcP K U L G1 Dd P) ?_ (fun i H' _ ⟨acc, ads, G', p, ka, e', j'⟩ => hg _ _ _ j' e') (fun i x H' H'' hi ⟨acc, ads, G', p, ka, e', j'⟩ yy => ?_) (fun H' hp => ?_)
    · obtain ⟨G', e', j'⟩ := lc_start (σ := σ) c j1 hD
      exact ⟨[], [], G', h0, .nil, e', j'⟩
    · obtain ⟨G'', d, e'', j'', hx, r⟩ := hy _ i H' x H'' G' j' e' hi yy
      exact lc_env (e := .d d) c.nl (c.lo o.lo (.ex (.lst acc))) (o.mono (e1.trans (e'.trans e''))) (e'.trans e'') j'' r (ka.mono e'') (by have := hz i ads p; omega) (hs i d ads hx p)
    · obtain ⟨G2, j2, r⟩ := lc_done c e1 hp hd
      exact q _ _ _ j2 r
/-- each item told by the source's -/
theorem dn_map {wi : TI} {α : Type} (inj f : α → D) (h : DI K wi ρ fun ds => ∃ xs : List α, ds = xs.map inj ∧ xs.length < 16000000 ∧ (∀ (i : Nat) x, xs[i]? = some x → DGW K g (.d (inj x)) vs ρ fun ρ2 => DE K te ρ2 fun y => y = .d (f x)) ∧ QN (xs.map f)) : DN K (tLc wi g tYes te vs) ρ QN :=
  dn_lc fun U σ L G o H j RR q => h U σ L G o H j RR fun I H1 G1 ds j1 e1 ok ⟨xs, ed, hl, hs, hq⟩ => q I H1 G1 ds j1 e1 ok (by
    subst ed
    refine ⟨by rw [List.length_map]; exact hl, fun i acc => i ≤ xs.length ∧ acc = (xs.take i).map f, ⟨Nat.zero_le _, rfl⟩, fun i acc ⟨p0, p⟩ => by rw [p, List.length_map, List.length_take]; omega, fun i d acc hd ⟨p0, p⟩ => ?_, fun acc ⟨_, p⟩ => by rw [List.length_map, List.take_length] at p; rw [p]; exact hq⟩
    rw [List.getElem?_map] at hd
    obtain ⟨x, hx, rfl⟩ := Option.map_eq_some_iff.mp hd
    have hil := (List.getElem?_eq_some_iff.mp hx).1
    exact fun U σ L G v o s => (hs i x hx U σ L G v o s).w fun σ2 G2 ⟨hw, e2, ρ2, o2, k2⟩ => ⟨hw, e2, ρ2, o2, dt_yes (by
      rw [if_pos rfl]
      exact fun U σ L G o => (k2 U σ L G o).w fun y G3 ⟨e3, z, sz, ez⟩ => ⟨e3, z, sz, f x, ez, hil, by rw [p, List.take_add_one, hx]; simp⟩)⟩)
/-- some of them -/
theorem dn_filt {wi : TI} {α : Type} (inj f : α → D) (b : α → Bool) (h : DI K wi ρ fun ds => ∃ xs : List α, ds = xs.map inj ∧ xs.length < 16000000 ∧ (∀ (i : Nat) x, xs[i]? = some x → DGW K g (.d (inj x)) vs ρ fun ρ2 => DT K tt ρ2 fun c => c = b x ∧ (c = true → DE K te ρ2 fun y => y = .d (f x))) ∧ QN ((xs.filter b).map f)) : DN K (tLc wi g tt te vs) ρ QN :=
  dn_lc fun U σ L G o H j RR q => h U σ L G o H j RR fun I H1 G1 ds j1 e1 ok ⟨xs, ed, hl, hs, hq⟩ => q I H1 G1 ds j1 e1 ok (by
    subst ed
    refine ⟨by rw [List.length_map]; exact hl, fun i acc => i ≤ xs.length ∧ acc = ((xs.take i).filter b).map f, ⟨Nat.zero_le _, rfl⟩, fun i acc ⟨p0, p⟩ => by rw [p, List.length_map]; exact Nat.le_trans (List.length_filter_le _ _) (by rw [List.length_take]; omega), fun i d acc hd ⟨p0, p⟩ => ?_, fun acc ⟨_, p⟩ => by rw [List.length_map, List.take_length] at p; rw [p]; exact hq⟩
    rw [List.getElem?_map] at hd
    obtain ⟨x, hx, rfl⟩ := Option.map_eq_some_iff.mp hd
    have hil := (List.getElem?_eq_some_iff.mp hx).1
    exact fun U σ L G v o s => (hs i x hx U σ L G v o s).w fun σ2 G2 ⟨hw, e2, ρ2, o2, k2⟩ => ⟨hw, e2, ρ2, o2, fun U σ L G o => (k2 U σ L G o).w fun c G3 ⟨e3, ec, k3⟩ => ⟨e3, by
      cases c with
      | true =>
        rw [if_pos rfl]
        exact fun U σ L G o => (k3 rfl U σ L G o).w fun y G3 ⟨e3, z, sz, ez⟩ => ⟨e3, z, sz, f x, ez, hil, by rw [p, List.take_add_one, hx, List.filter_append]; simp [← ec]⟩
      | false =>
        rw [if_neg Bool.false_ne_true]
        exact ⟨hil, by rw [p, List.take_add_one, hx, List.filter_append]; simp [← ec]⟩⟩⟩)
theorem ds_for {wi : TI} (h : DI K wi ρ fun xs => ∃ I : Nat → List E → Prop, Wk (I 0) ρ ∧ (∀ (i : Nat) d ρ', xs[i]? = some d → I i ρ' → DG K g (.d d) ρ' fun ρ2 => DS K ts ρ2 (Wk (I (i + 1))) N (Wk (I (i + 1))) R) ∧ ∀ ρ', I xs.length ρ' → N ρ') : DS K (tFor wi g ts) ρ N B C R := fun U σ L G Dn o n b c r H j =>
  h U σ L G o H j _ fun I H1 G1 xs j1 e1 ok ⟨Iv, ⟨ρ0, le0, h0⟩, hs, hd⟩ => by
    obtain ⟨Gd, Y, wk, hg, hy⟩ := ok
    refine for_it wk (fun i σ' H' => ∃ ρ' L' G', Iv i ρ' ∧ EnvOk K U ρ' σ' L' G' ∧ Ex G1 G' ∧ J (U.hides L') H' G') ⟨ρ0, L, G1, h0, (o.mono e1).le le0, Ex.refl _, j1⟩ (fun i σ' H' _ ⟨ρ', L', G', p, o', e', j'⟩ => hg _ _ _ j' e') (fun i x σ' H' H'' hi ⟨ρ', L', G', p, o', e', j'⟩ yy => ?_) (fun σ' H' ⟨ρ', L', G', p, o', e', j'⟩ => n ρ' σ' L' G' (hd ρ' p) o' (e1.trans e') H' j')
    obtain ⟨G'', d, e'', j'', hx, rr⟩ := hy _ i H' x H'' G' j' e' hi yy
    exact loop_env (n.mono e1) (r.mono e1) (o'.mono e'') (e'.trans e'') j'' (e := .d d) rr (hs i d ρ' hx p)
end
end
end Wp

set_option Elab.async false
set_option linter.all false
set_option maxRecDepth 100000
set_option maxHeartbeats 4000000
/-! Dicts as data. -/
namespace Wp
section
open PySem L2 Evl StX
set_option autoImplicit false
section
variable {κ α β : Type} [DecidableEq κ]
def getP (m : List (κ × α)) (k : κ) : Option α := (m.find? fun p => decide (p.1 = k)).map (·.2)
def putP (m : List (κ × α)) (k : κ) (v : α) : List (κ × α) := if (m.any fun p => decide (p.1 = k)) = true then m.map fun p => if p.1 = k then (p.1, v) else p else m ++ [(k, v)]
def dropP (m : List (κ × α)) (k : κ) : List (κ × α) := m.filter fun p => decide (p.1 ≠ k)
def mergeP (m more : List (κ × α)) : List (κ × α) := more.foldl (fun acc p => putP acc p.1 p.2) m
theorem getP_nil {k : κ} : getP ([] : List (κ × α)) k = none := rfl
theorem getP_cons (p : κ × α) (m : List (κ × α)) (k : κ) : getP (p :: m) k = if p.1 = k then some p.2 else getP m k := by
  unfold getP
  by_cases h : p.1 = k
  · rw [List.find?_cons_of_pos (by simpa using h), if_pos h]; rfl
  · rw [List.find?_cons_of_neg (by simpa using h), if_neg h]
theorem getP_none {m : List (κ × α)} {k : κ} : getP m k = none ↔ k ∉ m.map (·.1) := by
  induction m with
  | nil => simp [getP_nil]
  | cons p m ih =>
    rw [getP_cons]
    by_cases h : p.1 = k
    · simp [h]
    · rw [if_neg h, ih]; simp [Ne.symm h]
theorem getP_mem {m : List (κ × α)} {k : κ} {v : α} (h : getP m k = some v) : (k, v) ∈ m := by
  induction m with
  | nil => simp [getP_nil] at h
  | cons p m ih =>
    rw [getP_cons] at h
    by_cases z : p.1 = k
    · rw [if_pos z] at h; injection h with h; subst h z; exact List.mem_cons_self
    · rw [if_neg z] at h; exact List.mem_cons_of_mem _ (ih h)
theorem mem_getP {m : List (κ × α)} (nd : (m.map (·.1)).Nodup) {k : κ} {v : α} (h : (k, v) ∈ m) : getP m k = some v := by
  induction m with
  | nil => simp at h
  | cons p m ih =>
    rw [List.map_cons, List.nodup_cons] at nd
    rw [getP_cons]
    rcases List.mem_cons.mp h with rfl | h
    · rw [if_pos rfl]
    · rw [if_neg (fun z => nd.1 (List.mem_map.mpr ⟨_, h, z.symm⟩)), ih nd.2 h]
theorem any_iff {m : List (κ × α)} {k : κ} : (m.any fun p => decide (p.1 = k)) = true ↔ k ∈ m.map (·.1) := by
  rw [List.any_eq_true]
  constructor
  · rintro ⟨p, hp, e⟩; exact List.mem_map.mpr ⟨p, hp, of_decide_eq_true e⟩
  · intro h; obtain ⟨p, hp, e⟩ := List.mem_map.mp h; exact ⟨p, hp, decide_eq_true e⟩
theorem getP_isSome {m : List (κ × α)} {k : κ} : (getP m k).isSome = true ↔ k ∈ m.map (·.1) := by
  cases h : getP m k with
  | none => simp; exact fun x hx => getP_none.mp h (List.mem_map.mpr ⟨_, hx, rfl⟩)
  | some v => simp; exact ⟨v, getP_mem h⟩
theorem putP_in {m : List (κ × α)} {k : κ} {v : α} (h : k ∈ m.map (·.1)) : putP m k v = m.map fun p => if p.1 = k then (p.1, v) else p := by unfold putP; rw [if_pos (any_iff.mpr h)]
theorem putP_new {m : List (κ × α)} {k : κ} {v : α} (h : k ∉ m.map (·.1)) : putP m k v = m ++ [(k, v)] := by unfold putP; rw [if_neg (fun z => h (any_iff.mp z))]
theorem putP_keys {m : List (κ × α)} {k : κ} {v : α} : (putP m k v).map (·.1) = if k ∈ m.map (·.1) then m.map (·.1) else m.map (·.1) ++ [k] := by
  by_cases h : k ∈ m.map (·.1)
  · rw [putP_in h, if_pos h, List.map_map]
    exact List.map_congr_left fun p _ => by by_cases z : p.1 = k <;> simp [z]
  · rw [putP_new h, if_neg h]; simp
theorem putP_nodup {m : List (κ × α)} {k : κ} {v : α} (nd : (m.map (·.1)).Nodup) : ((putP m k v).map (·.1)).Nodup := by
  rw [putP_keys]
  by_cases h : k ∈ m.map (·.1)
  · rw [if_pos h]; exact nd
  · rw [if_neg h]; exact List.nodup_append.mpr ⟨nd, by simp, fun a ha b hb => by simp at hb; subst hb; exact fun z => h (z ▸ ha)⟩
theorem getP_put {m : List (κ × α)} {k j : κ} {v : α} : getP (putP m k v) j = if j = k then some v else getP m j := by
  by_cases h : k ∈ m.map (·.1)
  · rw [putP_in h]
    induction m with
    | nil => simp at h
    | cons p m ih =>
      rw [List.map_cons, getP_cons, getP_cons]
      by_cases hm : k ∈ m.map (·.1)
      · rw [ih hm]
        by_cases z : p.1 = k <;> by_cases y : p.1 = j <;> by_cases x : j = k <;> simp_all
      · have e : p.1 = k := by
          rcases List.mem_cons.mp h with h | h
          · exact h.symm
          · exact absurd h hm
        have em : m.map (fun p => if p.1 = k then (p.1, v) else p) = m := by
          conv => rhs; rw [← List.map_id m]
          exact List.map_congr_left fun q hq => by
            rw [if_neg (fun z => hm (List.mem_map.mpr ⟨q, hq, z⟩))]; rfl
        rw [em]
        by_cases y : p.1 = j <;> by_cases x : j = k <;> simp_all
  · rw [putP_new h]
    induction m with
    | nil => rw [List.nil_append, getP_cons]; by_cases z : k = j <;> simp [z, getP_nil, eq_comm]
    | cons p m ih =>
      have hm : k ∉ m.map (·.1) := fun z => h (List.mem_cons_of_mem _ z)
      have hp : p.1 ≠ k := fun z => h (by rw [List.map_cons, z]; exact List.mem_cons_self)
      rw [List.cons_append, getP_cons, getP_cons, ih hm]
      by_cases y : p.1 = j
      · subst y; rw [if_pos rfl, if_pos rfl, if_neg hp]
      · rw [if_neg y, if_neg y]
theorem getP_drop {m : List (κ × α)} {k j : κ} : getP (dropP m k) j = if j = k then none else getP m j := by
  unfold dropP
  induction m with
  | nil => simp [getP_nil]
  | cons p m ih =>
    rw [getP_cons]
    by_cases z : p.1 = k
    · rw [List.filter_cons_of_neg (by simp [z]), ih]
      by_cases x : j = k
      · simp [x]
      · rw [if_neg x, if_neg x, if_neg (fun y => x (y.symm.trans z))]
    · rw [List.filter_cons_of_pos (by simpa using z), getP_cons, ih]
      by_cases y : p.1 = j
      · rw [if_pos y, if_pos y, if_neg (fun x => z (y.trans x))]
      · rw [if_neg y, if_neg y]
theorem dropP_nodup {m : List (κ × α)} {k : κ} (nd : (m.map (·.1)).Nodup) : ((dropP m k).map (·.1)).Nodup := (List.filter_sublist.map _).nodup nd
theorem mergeP_nodup : ∀ (more m : List (κ × α)), (m.map (·.1)).Nodup → ((mergeP m more).map (·.1)).Nodup
  | [], m, h => h
  | p :: r, m, h => mergeP_nodup r _ (putP_nodup h)
theorem mergeP_new : ∀ (more m : List (κ × α)), ((m ++ more).map (·.1)).Nodup → mergeP m more = m ++ more
  | [], m, h => by simp [mergeP]
  | p :: r, m, h => by
    have hp : p.1 ∉ m.map (·.1) := fun z => by
      rw [List.map_append, List.map_cons, List.nodup_append] at h
      exact h.2.2 _ z _ List.mem_cons_self rfl
    show mergeP (putP m p.1 p.2) r = _
    rw [putP_new hp, mergeP_new r _ (by rw [List.append_assoc]; exact h), List.append_assoc]; rfl
end
/-- a key as a datum -/
def kD : Key → D
  | .inl i => .int i
  | .inr s => .str s
abbrev D.dc (m : List (Key × D)) : D := .dct (m.map (·.1)) (m.map (·.2))
abbrev E.dm (m : List (Key × D)) : E := .dic (m.map (·.1)) (m.map (·.2))
/-- keys ints -/
def mM {α : Type} (f : α → D) (m : List (Int × α)) : List (Key × D) := m.map fun p => (.inl p.1, f p.2)
abbrev mI (m : List (Int × Int)) : List (Key × D) := mM D.int m
section
variable {α : Type} {f : α → D} {m : List (Int × α)} {k : Int} {v : α}
theorem mM_keys : (mM f m).map (·.1) = (m.map (·.1)).map Sum.inl := by unfold mM; rw [List.map_map, List.map_map]; rfl
theorem mM_vals : (mM f m).map (·.2) = (m.map (·.2)).map f := by unfold mM; rw [List.map_map, List.map_map]; rfl
theorem mM_len : (mM f m).length = m.length := by unfold mM; rw [List.length_map]
theorem get_mM : getP (mM f m) (.inl k) = (getP m k).map f := by
  induction m with
  | nil => rfl
  | cons p m ih =>
    show getP ((.inl p.1, f p.2) :: mM f m) (.inl k) = _
    rw [getP_cons, getP_cons, ih]
    by_cases h : p.1 = k
    · simp [h]
    · rw [if_neg (fun z => h (Sum.inl.inj z)), if_neg h]
theorem put_mM : putP (mM f m) (.inl k) (f v) = mM f (putP m k v) := by
  have hk : (Sum.inl k : Key) ∈ (mM f m).map (·.1) ↔ k ∈ m.map (·.1) := by
    rw [mM_keys]; constructor
    · intro h; obtain ⟨x, hx, e⟩ := List.mem_map.mp h; injection e with e; subst e; exact hx
    · intro h; exact List.mem_map.mpr ⟨_, h, rfl⟩
  by_cases h : k ∈ m.map (·.1)
  · rw [putP_in (hk.mpr h), putP_in h]
    unfold mM
    rw [List.map_map, List.map_map]
    exact List.map_congr_left fun p _ => by
      by_cases z : p.1 = k
      · simp [z]
      · have : ¬ (Sum.inl p.1 : Key) = .inl k := fun q => z (Sum.inl.inj q)
        simp [z]
  · rw [putP_new (fun z => h (hk.mp z)), putP_new h]
    unfold mM; rw [List.map_append]; rfl
theorem drop_mM : dropP (mM f m) (.inl k) = mM f (dropP m k) := by
  unfold dropP mM
  rw [List.filter_map]
  congr 1
  exact List.filter_congr fun p _ => by
    by_cases z : p.1 = k <;> simp [z, Function.comp]
theorem mM_nodup : ((mM f m).map (·.1)).Nodup ↔ (m.map (·.1)).Nodup := by
  rw [mM_keys]
  constructor
  · intro h; exact List.Pairwise.of_map _ (fun a b hab z => hab (by rw [z])) h
  · intro h; exact List.Pairwise.map _ (fun a b hab => fun z => hab (Sum.inl.inj z)) h
theorem merge_mM {m' : List (Int × α)} : mergeP (mM f m) (mM f m') = mM f (mergeP m m') := by
  induction m' generalizing m with
  | nil => rfl
  | cons p r ih =>
    show mergeP (putP (mM f m) (.inl p.1) (f p.2)) (mM f r) = mM f (mergeP (putP m p.1 p.2) r)
    rw [put_mM, ih]
end
/-- the heap's keys and values are these -/
def KvR (K : PySem.W.Frag) (F : Hp) (kvs : List (Key × V)) (m : List (Key × D)) : Prop := kvs.map (·.1) = m.map (·.1) ∧ RpA K F (kvs.map (·.2)) (m.map (·.2))
section
variable {K : PySem.W.Frag} {F F' : Hp}
theorem KvR.mono {kvs : List (Key × V)} {m : List (Key × D)} (h : KvR K F kvs m) (e : Ex F F') : KvR K F' kvs m := ⟨h.1, h.2.mono e⟩
theorem KvR.nil : KvR K F [] [] := ⟨rfl, .nil⟩
theorem KvR.cons {k : Key} {v : V} {d : D} {kvs : List (Key × V)} {m : List (Key × D)} (r : Rp K F v d) (h : KvR K F kvs m) : KvR K F ((k, v) :: kvs) ((k, d) :: m) := ⟨by rw [List.map_cons, List.map_cons, h.1], .cons r h.2⟩
theorem KvR.inv {p : Key × V} {kvs : List (Key × V)} {m : List (Key × D)} (h : KvR K F (p :: kvs) m) : ∃ d m', m = (p.1, d) :: m' ∧ Rp K F p.2 d ∧ KvR K F kvs m' := by
  obtain ⟨h1, h2⟩ := h
  cases m with
  | nil => simp at h1
  | cons q m =>
    rw [List.map_cons, List.map_cons] at h1 h2
    injection h1 with e1 e2
    cases h2 with
    | cons a b => exact ⟨q.2, m, by rw [e1], a, e2, b⟩
theorem KvR.inv0 {m : List (Key × D)} (h : KvR K F [] m) : m = [] := by
  cases m with
  | nil => rfl
  | cons q m => cases h.1
theorem KvR.len {kvs : List (Key × V)} {m : List (Key × D)} (h : KvR K F kvs m) : kvs.length = m.length := by
  have := congrArg List.length h.1
  rwa [List.length_map, List.length_map] at this
theorem KvR.get {k : Key} : ∀ {kvs : List (Key × V)} {m : List (Key × D)}, KvR K F kvs m → (valV kvs k = none ∧ getP m k = none) ∨ ∃ v d, valV kvs k = some v ∧ getP m k = some d ∧ Rp K F v d
  | [], m, h => by rw [h.inv0]; exact .inl ⟨rfl, rfl⟩
  | p :: kvs, m, h => by
    obtain ⟨d, m', rfl, r, h'⟩ := h.inv
    rw [getP_cons]
    by_cases z : p.1 = k
    · rw [valV_pos z, if_pos z]; exact .inr ⟨_, _, rfl, rfl, r⟩
    · rw [valV_neg z, if_neg z]; exact h'.get
theorem KvR.app {kvs kws : List (Key × V)} {m n : List (Key × D)} (h : KvR K F kvs m) (g : KvR K F kws n) : KvR K F (kvs ++ kws) (m ++ n) := ⟨by rw [List.map_append, List.map_append, h.1, g.1], by rw [List.map_append, List.map_append]; exact g.2.app h.2⟩
theorem KvR.put {kvs : List (Key × V)} {m : List (Key × D)} {k : Key} {v : V} {d : D} (h : KvR K F kvs m) (r : Rp K F v d) : KvR K F (putK kvs k v) (putP m k d) := by
  have ha : (kvs.any fun p => decide (p.1 = k)) = (m.any fun p => decide (p.1 = k)) := Bool.eq_iff_iff.mpr (by rw [any_iff, any_iff, h.1])
  have hm : KvR K F (kvs.map fun p => if p.1 = k then (p.1, v) else p) (m.map fun p => if p.1 = k then (p.1, d) else p) := by
    clear ha
    induction kvs generalizing m with
    | nil => rw [h.inv0]; exact .nil
    | cons p kvs ih =>
      obtain ⟨d', m', rfl, r', h'⟩ := h.inv
      rw [List.map_cons, List.map_cons]
      by_cases z : p.1 = k
      · rw [if_pos z, if_pos z]; exact .cons r (ih h')
      · rw [if_neg z, if_neg z]; exact .cons r' (ih h')
  unfold L2.putK putP
  rw [← ha]
  split
  · exact hm
  · exact h.app (.cons r .nil)
theorem KvR.drop {kvs : List (Key × V)} {m : List (Key × D)} {k : Key} (h : KvR K F kvs m) : KvR K F (dropK kvs k) (dropP m k) := by
  unfold dropK dropP
  induction kvs generalizing m with
  | nil => rw [h.inv0]; exact .nil
  | cons p kvs ih =>
    obtain ⟨d', m', rfl, r', h'⟩ := h.inv
    by_cases z : p.1 = k
    · rw [List.filter_cons_of_neg (by simp [z]), List.filter_cons_of_neg (by simp [z])]; exact ih h'
    · rw [List.filter_cons_of_pos (by simpa using z), List.filter_cons_of_pos (by simpa using z)]; exact .cons r' (ih h')
theorem KvR.merge {more : List (Key × V)} {n : List (Key × D)} (g : KvR K F more n) : ∀ {kvs : List (Key × V)} {m : List (Key × D)}, KvR K F kvs m → KvR K F (mergeK kvs more) (mergeP m n) := by
  induction more generalizing n with
  | nil => intro kvs m h; rw [g.inv0]; exact h
  | cons p r ih =>
    intro kvs m h
    obtain ⟨d', n', rfl, r', g'⟩ := g.inv
    exact ih g' (h.put r')
theorem rp_dc {v : V} {m : List (Key × D)} (h : Rp K F v (.dc m)) : ∃ a kvs, v = .ref a ∧ Rd F a (.dK kvs) ∧ KvR K F kvs m ∧ (m.map (·.1)).Nodup := by
  cases h with | dct a k n b => exact ⟨_, _, rfl, a, ⟨k, b⟩, n⟩
theorem KvR.rp {a : Addr} {kvs : List (Key × V)} {m : List (Key × D)} (h : KvR K F kvs m) (nd : (m.map (·.1)).Nodup) (r : Rd F a (.dK kvs)) : Rp K F (.ref a) (.dc m) := .dct r h.1 nd h.2
theorem kD_of {v : V} {k : Key} (h : Rp K F v (kD k)) : v = kV k := by
  cases k <;> cases h <;> rfl
end
/-- a dict, shown or the def's own -/
def DcE (e : E) (P : List (Key × D) → Prop) : Prop := ∃ m, (e = .d (.dc m) ∨ e = .dm m) ∧ P m
theorem dce_d {m : List (Key × D)} {P : List (Key × D) → Prop} (h : P m) : DcE (.d (.dc m)) P := ⟨m, .inl rfl, h⟩
theorem dce_o {m : List (Key × D)} {P : List (Key × D) → Prop} (h : P m) : DcE (.dm m) P := ⟨m, .inr rfl, h⟩
def KyE (e : E) (P : Key → Prop) : Prop := ∃ k, e = .d (kD k) ∧ P k
theorem kye_i {i : Int} {P : Key → Prop} (h : P (.inl i)) : KyE (.d (.int i)) P := ⟨.inl i, rfl, h⟩
theorem kye_s {i : Str} {P : Key → Prop} (h : P (.inr i)) : KyE (.d (.str i)) P := ⟨.inr i, rfl, h⟩
section
variable {K : PySem.W.Frag} {ρ : List E} {P : List D → Prop} {tl te td ty tx ta tb : TE} {tas : TA} {tt : TT} {g : TG} {ts : TS} {vs : List Nat} {N B C : List E → Prop} {R : D → Prop} {QN : List D → Prop} {Q : E → Prop} {U : Vx} {L : Ow} {G H : Hp}
theorem slot_dc {e : E} {v : V} {m : List (Key × D)} (he : e = .d (.dc m) ∨ e = .dm m) (s : SlotV K U L G e v) (j : J (U.hides L) H G) : ∃ a kvs, v = .ref a ∧ Rd H a (.dK kvs) ∧ KvR K G kvs m ∧ (m.map (·.1)).Nodup := by
  rcases he with rfl | rfl
  · obtain ⟨a, kvs, e1, e2, e3, e4⟩ := rp_dc (show Rp K G v (.dc m) from s)
    exact ⟨a, kvs, e1, ex_rd j.up e2, e3, e4⟩
  · obtain ⟨a, kvs, e1, e2, e3, e4, e5⟩ := s
    exact ⟨a, kvs, e1, .inl (j.at e2), ⟨e3, e5⟩, e4⟩
theorem de_dget (h : DE K td ρ fun x => DcE x fun m => DE K ty ρ fun y => KyE y fun k => ∃ d, getP m k = some d ∧ Q (.d d)) : DE K (tDGet td ty) ρ Q := fun U σ L G o H j QH q =>
  h U σ L G o H j _ fun v H1 G1 j1 ⟨e1, x, sx, m, hx, h2⟩ => h2 U σ L G1 (o.mono e1) H1 j1 _ fun w H2 G2 j2 ⟨e2, y, sy, k, hy, d, hd, kq⟩ => by
    obtain ⟨a, kvs, rfl, r, kr, nd⟩ := slot_dc hx (sx.mono e2) j2
    subst hy
    rcases kr.get (k := k) with ⟨_, z⟩ | ⟨v, d', z1, z2, z3⟩
    · rw [hd] at z; cases z
    · rw [hd] at z2; cases z2
      refine ⟨a, v, rfl, .inl ⟨kvs, k, r, kD_of sy, z1.symm⟩, q _ _ _ j2 ⟨e1.trans e2, .d d, z3, kq⟩⟩
theorem getP_sm {kvs : List (Key × V)} {m : List (Key × D)} {k : Key} (kr : KvR K G kvs m) : (valV kvs k).isSome = (getP m k).isSome := by
  rcases kr.get (k := k) with ⟨z1, z2⟩ | ⟨v, d, z1, z2, _⟩ <;> rw [z1, z2] <;> rfl
theorem de_din (h : DE K ty ρ fun y => KyE y fun k => DE K td ρ fun x => DcE x fun m => Q (.d (.bl (getP m k).isSome))) : DE K (tDIn ty td) ρ Q := fun U σ L G o H j QH q =>
  h U σ L G o H j _ fun w H1 G1 j1 ⟨e1, y, sy, k, hy, h2⟩ => h2 U σ L G1 (o.mono e1) H1 j1 _ fun v H2 G2 j2 ⟨e2, x, sx, m, hx, kq⟩ => by
    obtain ⟨a, kvs, rfl, r, kr, nd⟩ := slot_dc hx sx j2
    subst hy
    exact ⟨a, _, rfl, .inl ⟨kvs, k, r, kD_of sy, rfl⟩, q _ _ _ j2 ⟨e1.trans e2, .d (.bl _), .bl _, by rw [getP_sm kr]; exact kq⟩⟩
theorem de_dnotin (h : DE K ty ρ fun y => KyE y fun k => DE K td ρ fun x => DcE x fun m => Q (.d (.bl (!(getP m k).isSome)))) : DE K (tDNotIn ty td) ρ Q := fun U σ L G o H j QH q =>
  h U σ L G o H j _ fun w H1 G1 j1 ⟨e1, y, sy, k, hy, h2⟩ => h2 U σ L G1 (o.mono e1) H1 j1 _ fun v H2 G2 j2 ⟨e2, x, sx, m, hx, kq⟩ => by
    obtain ⟨a, kvs, rfl, r, kr, nd⟩ := slot_dc hx sx j2
    subst hy
    exact ⟨a, _, rfl, .inl ⟨kvs, k, r, kD_of sy, rfl⟩, q _ _ _ j2 ⟨e1.trans e2, .d (.bl _), .bl _, by rw [getP_sm kr]; exact kq⟩⟩
theorem de_dget1 (h : DE K td ρ fun x => DcE x fun m => DE K ty ρ fun y => KyE y fun k => Q (.d ((getP m k).getD .non))) : DE K (tDGet1 td ty) ρ Q := fun U σ L G o H j QH q =>
  h U σ L G o H j _ fun v H1 G1 j1 ⟨e1, x, sx, m, hx, h2⟩ => by
    obtain ⟨a, kvs, rfl, r, _, _⟩ := slot_dc hx sx j1
    refine ⟨a, rfl, .inl ⟨kvs, r⟩, h2 U σ L G1 (o.mono e1) H1 j1 _ fun w H2 G2 j2 ⟨e2, y, sy, k, hy, kq⟩ => ?_⟩
    obtain ⟨a', kvs, ea, r, kr, nd⟩ := slot_dc hx (sx.mono e2) j2
    cases ea
    subst hy
    refine ⟨_, .inl ⟨kvs, k, r, kD_of sy, rfl⟩, q _ _ _ j2 ⟨e1.trans e2, .d ((getP m k).getD .non), ?_, kq⟩⟩
    rcases kr.get (k := k) with ⟨z1, z2⟩ | ⟨v, d, z1, z2, z3⟩
    · rw [z1, z2]; exact Rp.non
    · rw [z1, z2]; exact z3
theorem de_dget2 (h : DE K td ρ fun x => DcE x fun m => DE K ty ρ fun y => KyE y fun k => DE K tx ρ fun z => DD z fun dz => Q (.d ((getP m k).getD dz))) : DE K (tDGet2 td ty tx) ρ Q := fun U σ L G o H j QH q =>
  h U σ L G o H j _ fun v H1 G1 j1 ⟨e1, x, sx, m, hx, h2⟩ => by
    obtain ⟨a, kvs, rfl, r, _, _⟩ := slot_dc hx sx j1
    refine ⟨a, rfl, .inl ⟨kvs, r⟩, h2 U σ L G1 (o.mono e1) H1 j1 _ fun w H2 G2 j2 ⟨e2, y, sy, k, hy, h3⟩ => h3 U σ L G2 (o.mono (e1.trans e2)) H2 j2 _ fun u H3 G3 j3 ⟨e3, z, sz, dz, hz, kq⟩ => ?_⟩
    obtain ⟨a', kvs, ea, r, kr, nd⟩ := slot_dc hx (sx.mono (e2.trans e3)) j3
    cases ea
    subst hy hz
    refine ⟨_, .inl ⟨kvs, k, r, kD_of sy, rfl⟩, q _ _ _ j3 ⟨(e1.trans e2).trans e3, .d ((getP m k).getD dz), ?_, kq⟩⟩
    rcases kr.get (k := k) with ⟨z1, z2⟩ | ⟨v, d, z1, z2, z3⟩
    · rw [z1, z2]; exact sz
    · rw [z1, z2]; exact z3
/-! ### new dicts -/
def DNM (K : PySem.W.Frag) (te : TE) (ρ : List E) (Q : List (Key × D) → Prop) : Prop := DND K te ρ fun ks ds => ∃ m, ks = m.map (·.1) ∧ ds = m.map (·.2) ∧ Q m
variable {QM : List (Key × D) → Prop}
theorem de_newD (h : DNM K te ρ fun m => Q (.d (.dc m))) : DE K te ρ Q := fun U σ L G o =>
  (h U σ L G o).w fun v G' ⟨p, kvs, ks, ds, G1, ev, e1, np, e2, gp, hk, hn, k, m, em, en, q⟩ => ⟨e1.trans e2, .d (.dc m), by subst ev em en; exact Rp.dct (.inl gp) hk hn (k.mono e2), q⟩
theorem ds_ownM {i : Nat} (h : DNM K te ρ fun m => SetTo ρ i (.dm m) N) : DS K (tAsg te (gName i)) ρ N B C R := ds_ownD fun U σ L G o => (h U σ L G o).w fun v G' ⟨p, kvs, ks, ds, G1, ev, e1, np, e2, gp, hk, hn, k, m, em, en, q⟩ => ⟨p, kvs, ks, ds, G1, ev, e1, np, e2, gp, hk, hn, k, by subst em en; exact q⟩
theorem dnm_mk {G G1 G' : Hp} {p : Addr} {kvs : List (Key × V)} {m : List (Key × D)} (e1 : Ex G G1) (np : G1 p = none) (e2 : Ex G1 G') (gp : G' p = some (.dK kvs)) (k : KvR K G1 kvs m) (nd : (m.map (·.1)).Nodup) (q : QM m) : ∃ p' kvs ks ds G1, V.ref p = .ref p' ∧ Ex G G1 ∧ G1 p' = none ∧ Ex G1 G' ∧ G' p' = some (.dK kvs) ∧ kvs.map (·.1) = ks ∧ ks.Nodup ∧ RpA K G1 (kvs.map (·.2)) ds ∧ ∃ m, ks = m.map (·.1) ∧ ds = m.map (·.2) ∧ QM m :=
  ⟨p, kvs, _, _, G1, rfl, e1, np, e2, gp, k.1, nd, k.2, m, rfl, rfl, q⟩
theorem dn_dnew (h : QM []) : DNM K tDNewK ρ QM := fun U σ L G o H j QH q => fun p hp => q _ _ _ (j.alloc hp) (dnm_mk (Ex.refl G) (j.free hp) (Ex.new (j.free hp)) upd_same .nil List.nodup_nil h)
/-- dict(d), dict(pairs) -/
def rDictA (K : PySem.W.Frag) : List V → Hp → VK → Prop := fun xs H Q => (∃ a kvs, xs = [.ref a] ∧ Rd H a (.dK kvs) ∧ ∀ p, H p = none → Q (.ref p) (upd H p (.dK kvs))) ∨
  ∃ (a : Addr) (ps : List Addr) (kvs : List (Key × V)), xs = [.ref a] ∧ SqL K H a (ps.map V.ref) ∧ Paired (fun p kv => SqT K H p [kV kv.1, kv.2]) ps kvs ∧ ∀ p, H p = none → Q (.ref p) (upd H p (.dK (mergeK [] kvs)))
theorem kr_dict {X : Cx} (h : X.K = K := by rfl) (hc : X.calm = true := by rfl) : CallR X (.type "dict") (rDictA K) := by
  subst h
  refine CallR.or (fun pins s σ H xs us Q I r hq => ?_) (call_dictP hc)
  obtain ⟨a, kvs, rfl, hd, q⟩ := hq
  rw [Vals.ref1 r]
  exact d_copyOf I hd fun p s' hp I' => ⟨.ref p, _, I', rfl, q p hp⟩
theorem dn_copy (h : DE K te ρ fun x => DcE x fun m => QM m) : DNM K (tCB (rDictA K) (tCons te tNil)) ρ QM := fun U σ L G o H j QH q =>
  h U σ L G o H j _ fun v H1 G1 j1 ⟨e1, x, sx, m, hx, k⟩ => by
    obtain ⟨a, kvs, rfl, r, kr, nd⟩ := slot_dc hx sx j1
    exact .inl ⟨a, kvs, rfl, r, fun p hp => q _ _ _ (j1.alloc hp) (dnm_mk e1 (j1.free hp) (Ex.new (j1.free hp)) upd_same kr nd k)⟩
def pairD (p : Key × D) : D := .tup [kD p.1, p.2]
theorem pairs_of' {G : Hp} : ∀ {m : List (Key × D)} {vs : List V}, RpA K G vs (m.map pairD) → ∃ (ps : List Addr) (kvs : List (Key × V)), vs = ps.map V.ref ∧ Paired (fun p kv => SqT K G p [kV kv.1, kv.2]) ps kvs ∧ KvR K G kvs m
  | [], vs, h => by cases h; exact ⟨[], [], rfl, .nil, .nil⟩
  | p :: m, vs, h => by
    cases h with
    | cons a b =>
      obtain ⟨ps, kvs, e, pr, kr⟩ := pairs_of' b
      subst e
      cases (a : Rp K G _ (.tup [kD p.1, p.2])) with
      | tup x y =>
        cases y with
        | cons y1 y =>
          cases y with
          | cons y2 y =>
            cases y
            rw [kD_of y1] at x
            exact ⟨_ :: ps, (p.1, _) :: kvs, rfl, .cons x pr, .cons y2 kr⟩
theorem paired_mono {α β : Type} {A A' : α → β → Prop} (h : ∀ x y, A x y → A' x y) : ∀ {xs : List α} {ys : List β}, Paired A xs ys → Paired A' xs ys
  | _, _, .nil => .nil
  | _, _, .cons a b => .cons (h _ _ a) (paired_mono h b)
theorem dn_dictP (h : DE K te ρ fun x => ∃ m, (x = .d (.lst (m.map pairD)) ∨ x = .own (m.map pairD)) ∧ QM (mergeP [] m)) : DNM K (tCB (rDictA K) (tCons te tNil)) ρ QM := fun U σ L G o H j QH q =>
  h U σ L G o H j _ fun v H1 G1 j1 ⟨e1, x, sx, m, hx, k⟩ => by
    have z : ∃ a vs, v = .ref a ∧ SqL K H1 a vs ∧ RpA K G1 vs (m.map pairD) := by
      rcases hx with rfl | rfl
      · cases (sx : Rp K G1 v (.lst (m.map pairD))) with | lst a b => exact ⟨_, _, rfl, sq_of (j1.up _ _ a), b⟩
      · obtain ⟨a, vs, rfl, hm, b⟩ := sx; exact ⟨_, _, rfl, sq_of (j1.at hm), b⟩
    obtain ⟨a, vs, rfl, hs, ra⟩ := z
    obtain ⟨ps, kvs, rfl, pr, kr⟩ := pairs_of' ra
    exact .inr ⟨a, ps, kvs, rfl, hs, paired_mono (fun _ _ t => ex_t j1.up t) pr, fun p hp => q _ _ _ (j1.alloc hp) (dnm_mk e1 (j1.free hp) (Ex.new (j1.free hp)) upd_same (kr.merge .nil) (mergeP_nodup _ _ List.nodup_nil) k)⟩
/-! ### what is stored and taken away -/
theorem ds_dput {i : Nat} (h : DE K tx ρ fun z => DD z fun dz => ∃ m, ρ[i]? = some (.dm m) ∧ DE K ty ρ fun y => KyE y fun k => m.length < 16000000 ∧ SetTo ρ i (.dm (putP m k dz)) N) : DS K (sDPut (tVar i) ty tx) ρ N B C R := fun U σ L G Dn o n b c r H j => by
  refine h U σ L G o H j _ fun w H1 G1 j1 ⟨e1, x, sx, d, ed, m, hi, k2⟩ => ?_
  obtain ⟨v, h3, a, kvs, rfl, hm, hk, hn, k⟩ := (o.mono e1).at hi rfl
  obtain ⟨n1, n2, _⟩ := o.lo.nm _ hm
  refine ⟨_, h3, k2 U σ L G1 (o.mono e1) H1 j1 _ fun y H2 G2 j2 ⟨e2, z, sz, key, em, hz, ρ', hr, kn⟩ => ?_⟩
  subst ed em hr
  have kr : KvR K G2 kvs m := ⟨hk, k.mono e2⟩
  have kr' := kr.put (k := key) (SlotV.mono sx e2 : Rp K G2 w d)
  refine ⟨a, _, rfl, .inl ⟨kvs, key, j2.at hm, kD_of sz, by rw [kr.len]; exact Nat.lt_of_lt_of_le hz (by decide), rfl⟩, ?_⟩
  exact n _ _ _ _ kn ((o.mono (e1.trans e2)).chg hi rfl dic1 h3 hm (.dic (mem_setO_self hm) kr'.1 (putP_nodup (by rw [← hk] at hn ⊢; exact hn)) kr'.2)) (e1.trans e2) _ (j2.chg hm rfl n1 n2)
/-- d.pop(k, x), the value forgotten -/
theorem ds_dpop {i : Nat} (h : ∃ m, ρ[i]? = some (.dm m) ∧ DE K ty ρ fun y => KyE y fun k => DE K tx ρ fun z => (SetTo ρ i (.dm (dropP m k)) N)) : DS K (tDrop (tDPop2 (tVar i) ty tx)) ρ N B C R := fun U σ L G Dn o n b c r H j => by
  obtain ⟨m, hi, h⟩ := h
  obtain ⟨v, h3, a, kvs, rfl, hm, hk, hn, k⟩ := o.at hi rfl
  obtain ⟨n1, n2, _⟩ := o.lo.nm _ hm
  refine ⟨_, h3, a, rfl, .inl ⟨kvs, .inl (j.at hm)⟩, h U σ L G o H j _ fun y H1 G1 j1 ⟨e1, x, sx, key, ek, h2⟩ => h2 U σ L G1 (o.mono e1) H1 j1 _ fun z H2 G2 j2 ⟨e2, zz, sz, ρ', hr, kn⟩ => ?_⟩
  subst ek hr
  have kr : KvR K G2 kvs m := ⟨hk, k.mono (e1.trans e2)⟩
  have kr' := kr.drop (k := key)
  have o2 := o.mono (e1.trans e2)
  refine ⟨kvs, key, j2.at hm, kD_of sx, fun v _ => ?_, fun z0 => ?_⟩
  · exact n _ _ _ _ kn (o2.chg hi rfl dic1 h3 hm (.dic (mem_setO_self hm) kr'.1 (dropP_nodup (by rw [← hk] at hn ⊢; exact hn)) kr'.2)) (e1.trans e2) _ (j2.chg hm rfl n1 n2)
  · have en : dropP m key = m := by
      have hg : getP m key = none := by
        rcases kr.get (k := key) with ⟨_, z⟩ | ⟨v, d, z1, _⟩
        · exact z
        · rw [z0] at z1; cases z1
      unfold dropP
      rw [List.filter_eq_self]
      intro p hp
      have := getP_none.mp hg
      simp only [ne_eq, decide_not, Bool.not_eq_true', decide_eq_false_iff_not]
      exact fun z => this (List.mem_map.mpr ⟨p, hp, z⟩)
    have es : ρ.set i (.dm (dropP m key)) = ρ := by
      rw [en]
      refine List.ext_getElem? fun q => ?_
      by_cases z : i = q
      · subst z; rw [List.getElem?_set_self (List.getElem?_eq_some_iff.mp hi).1, hi]
      · rw [List.getElem?_set_ne z]
    exact n _ σ _ _ kn (by rw [es]; exact o2) (e1.trans e2) _ j2
/-! ### len -/
def rLenA (K : PySem.W.Frag) : List V → Hp → VK → Prop := fun xs H Q => rLenQ K xs H Q ∨ ∃ a kvs, xs = [.ref a] ∧ Rd H a (.dK kvs) ∧ Q (.int kvs.length) H
theorem kq_lenA {X : Cx} (h : X.K = K := by rfl) : CallR X (.builtin "len") (rLenA K) := by
  refine CallR.or (kq_len h) fun pins s σ H xs us Q I r hq => ?_
  obtain ⟨a, kvs, rfl, hd, q⟩ := hq
  rw [Vals.ref1 r]
  exact d_len I hd fun t s' I' => ⟨.int kvs.length, H, I', ⟨t, rfl⟩, q⟩
theorem de_lenA (h : DE K te ρ fun x => (∃ ds, (x = .d (.lst ds) ∨ x = .d (.tup ds) ∨ x = .own ds) ∧ Q (.d (.int (ds.length : Nat)))) ∨ DcE x fun m => Q (.d (.int (m.length : Nat)))) : DE K (tCB (rLenA K) (tCons te tNil)) ρ Q := fun U σ L G o H j QH q =>
  h U σ L G o H j _ fun v H1 G1 j1 ⟨e1, x, sx, hx⟩ => by
    rcases hx with ⟨ds, hx, k⟩ | ⟨m, hx, k⟩
    · have z : ∃ a vs, v = .ref a ∧ (SqL K H1 a vs ∨ SqT K H1 a vs) ∧ vs.length = ds.length := by
        rcases hx with rfl | rfl | rfl
        · cases (sx : Rp K G1 v (.lst ds)) with | lst a b => exact ⟨_, _, rfl, .inl (sq_of (j1.up _ _ a)), b.len⟩
        · cases (sx : Rp K G1 v (.tup ds)) with | tup a b => exact ⟨_, _, rfl, .inr (ex_t j1.up a), b.len⟩
        · obtain ⟨a, vs, rfl, hm, b⟩ := sx; exact ⟨_, _, rfl, .inl (sq_of (j1.at hm)), b.len⟩
      obtain ⟨a, vs, rfl, hs, hl⟩ := z
      exact .inl ⟨a, vs, rfl, hs, q _ _ _ j1 ⟨e1, .d (.int (ds.length : Nat)), by rw [hl]; exact .int _, k⟩⟩
    · obtain ⟨a, kvs, rfl, r, kr, nd⟩ := slot_dc hx sx j1
      exact .inr ⟨a, kvs, rfl, r, q _ _ _ j1 ⟨e1, .d (.int (m.length : Nat)), by rw [kr.len]; exact .int _, k⟩⟩
end
end
end Wp

set_option Elab.async false
set_option linter.all false
set_option maxRecDepth 100000
set_option maxHeartbeats 4000000
/-! Walks over dicts: locked while they last. Dict comprehensions. -/
namespace Wp
section
open PySem L2 Evl StX
set_option autoImplicit false
section
variable {K : PySem.W.Frag} {F F' : Hp} {a : Addr} {od : Obj} {kvs : List (Key × V)}
theorem rp_map (hl : ∀ b xs, F b = some (.lst xs) → F' b = some (.lst xs)) (ht : ∀ b xs, SqT K F b xs → SqT K F' b xs) (ho : ∀ b C dx fs, F b = some (.ins C dx fs) → F' b = some (.ins C dx fs)) (hd : ∀ b ws, Rd F b (.dK ws) → Rd F' b (.dK ws)) : ∀ (d : D) (v : V), Rp K F v d → Rp K F' v d
  | .non, v, h => by cases h; exact .non
  | .bl b, v, h => by cases h; exact .bl b
  | .int b, v, h => by cases h; exact .int b
  | .str b, v, h => by cases h; exact .str b
  | .lst ds, v, h => by cases h with | lst x b => exact .lst (hl _ _ x) (all ds _ b)
  | .tup ds, v, h => by cases h with | tup x b => exact .tup (ht _ _ x) (all ds _ b)
  | .obj C ks ds, v, h => by cases h with | obj x k b => exact .obj (ho _ _ _ _ x) k (all ds _ b)
  | .dct ks ds, v, h => by cases h with | dct x k n b => exact .dct (hd _ _ x) k n (all ds _ b)
  | .adr a, v, h => by cases h; exact .adr a
where
  all : ∀ (ds : List D) (vs : List V), RpA K F vs ds → RpA K F' vs ds
  | [], vs, h => by cases h; exact .nil
  | d :: ds, vs, h => by cases h with | cons x b => exact .cons (rp_map hl ht ho hd d _ x) (all ds _ b)
theorem frz_of (h : F a = some (.dK kvs)) : ∀ b xs, SqT K F b xs → SqT K (upd F a (.frz od (.dK kvs))) b xs := fun b xs hs => by
  rcases hs with (hs | ⟨o, hs⟩) | hs
  · exact .inl (.inl (by rw [upd_ne (fun z => by rw [z, h] at hs; cases hs)]; exact hs))
  · exact .inl (.inr ⟨o, by rw [upd_ne (fun z => by rw [z, h] at hs; cases hs)]; exact hs⟩)
  · exact .inr hs
theorem rp_lock (h : F a = some (.dK kvs)) {v : V} {d : D} (r : Rp K F v d) : Rp K (upd F a (.frz od (.dK kvs))) v d :=
  rp_map (fun b xs e => by rw [upd_ne (fun z => by rw [z, h] at e; cases e)]; exact e) (frz_of h) (fun b C dx fs e => by rw [upd_ne (fun z => by rw [z, h] at e; cases e)]; exact e) (fun b ws e => by
    by_cases z : b = a
    · subst z
      rcases e with e | ⟨o, e⟩
      · rw [h] at e; cases e; exact .inr ⟨od, upd_same⟩
      · rw [h] at e; cases e
    · rcases e with e | ⟨o, e⟩
      · exact .inl (by rw [upd_ne z]; exact e)
      · exact .inr ⟨o, by rw [upd_ne z]; exact e⟩) d v r
theorem rp_unlock (h : F a = some (.frz od (.dK kvs))) {v : V} {d : D} (r : Rp K F v d) : Rp K (upd F a (.dK kvs)) v d :=
  rp_map (fun b xs e => by rw [upd_ne (fun z => by rw [z, h] at e; cases e)]; exact e) (fun b xs hs => by
    rcases hs with (hs | ⟨o, hs⟩) | hs
    · exact .inl (.inl (by rw [upd_ne (fun z => by rw [z, h] at hs; cases hs)]; exact hs))
    · exact .inl (.inr ⟨o, by rw [upd_ne (fun z => by rw [z, h] at hs; cases hs)]; exact hs⟩)
    · exact .inr hs) (fun b C dx fs e => by rw [upd_ne (fun z => by rw [z, h] at e; cases e)]; exact e) (fun b ws e => by
    by_cases z : b = a
    · subst z
      rcases e with e | ⟨o, e⟩
      · rw [h] at e; cases e
      · rw [h] at e; cases e; exact .inl upd_same
    · rcases e with e | ⟨o, e⟩
      · exact .inl (by rw [upd_ne z]; exact e)
      · exact .inr ⟨o, by rw [upd_ne z]; exact e⟩) d v r
theorem rpa_gen (f : ∀ v d, Rp K F v d → Rp K F' v d) : ∀ {vs : List V} {ds : List D}, RpA K F vs ds → RpA K F' vs ds
  | _, _, .nil => .nil
  | _, _, .cons x y => .cons (f _ _ x) (rpa_gen f y)
theorem odr_gen (f : ∀ v d, Rp K F v d → Rp K F' v d) {w : OD} {o : HO} (h : ODr K F w o) : ODr K F' w o := by
  cases h with
  | ins a b => exact .ins a (rpa_gen f b)
  | dct a n b => exact .dct a n (rpa_gen f b)
  | lst b => exact .lst (rpa_gen f b)
theorem sv_gen {U U' : Vx} {L : Ow} (f : ∀ v d, Rp K F v d → Rp K F' v d) (hs : ∀ b xs, SqL K F b xs → SqL K F' b xs) (hc : ∀ b I, CellOk U b I → CellOk U' b I) (hd : ∀ b, DrawOk U b → DrawOk U' b) : ∀ (e : E) (v : V) (Fp : List Addr), Sv K U L F e v Fp → Sv K U' L F' e v Fp
  | .any, v, Fp, h => by cases h; exact .any _
  | .d d, v, Fp, h => by cases h with | d r => exact .d (f _ _ r)
  | .own ds, v, Fp, h => by cases h with | own m r => exact .own m (rpa_gen f r)
  | .dic ks ds, v, Fp, h => by cases h with | dic m k n r => exact .dic m k n (rpa_gen f r)
  | .ob C ks es, v, Fp, h => by cases h with | ob m k s => exact .ob m k (all es _ _ s)
  | .lo es, v, Fp, h => by cases h with | lo m s => exact .lo m (all es _ _ s)
  | .st, v, Fp, h => by cases h with | st d => exact .st (hd _ d)
  | .sc, v, Fp, h => by cases h with | sc s => exact .sc (hs _ _ s)
  | .cd d cs, v, Fp, h => by cases h with | cd r q => exact .cd (f _ _ r) fun c hm => (q c hm).imp (hc _ _) id
  | .oa b w, v, Fp, h => by cases h with | oa m r => exact .oa m (odr_gen f r)
where
  all : ∀ (es : List E) (vs : List V) (Fp : List Addr), SvA K U L F es vs Fp → SvA K U' L F' es vs Fp
  | [], vs, Fp, h => by cases h; exact .nil
  | e :: es, vs, Fp, h => by cases h with | cons x y => exact .cons (sv_gen f hs hc hd e _ _ x) (all es _ _ y)
def Vx.lk (U : Vx) (a : Addr) (u : HO) : Vx := ⟨fun b => if b = a then (if U.He a = none then none else some u) else U.He b, fun b => if b = a then (if U.Ge a = none then none else some u) else U.Ge b, U.I, U.m, U.st⟩
theorem lkn_none {U : Vx} {a b : Addr} {u : HO} (h : U.He b = none) : (U.lk a u).He b = none := by
  show (if b = a then (if U.He a = none then none else some u) else U.He b) = none
  by_cases z : b = a
  · subst z; rw [if_pos rfl, if_pos h]
  · rw [if_neg z]; exact h
theorem lk_noneG {U : Vx} {a b : Addr} {u : HO} (h : U.Ge b = none) : (U.lk a u).Ge b = none := by
  show (if b = a then (if U.Ge a = none then none else some u) else U.Ge b) = none
  by_cases z : b = a
  · subst z; rw [if_pos rfl, if_pos h]
  · rw [if_neg z]; exact h
theorem lk_back {U : Vx} {a b : Addr} {u : HO} (h : (U.lk a u).He b = none) : U.He b = none := by
  have h : (if b = a then (if U.He a = none then none else some u) else U.He b) = none := h
  by_cases z : b = a
  · subst z; rw [if_pos rfl] at h
    by_cases y : U.He b = none
    · exact y
    · rw [if_neg y] at h; cases h
  · rw [if_neg z] at h; exact h
theorem CellOk.lk {U : Vx} {b : Addr} {I : HO → Prop} (c : CellOk U b I) (a : Addr) (u : HO) : CellOk (U.lk a u) b I := ⟨c.m, lkn_none c.ne, c.at_, c.to⟩
theorem DrawOk.lk {U : Vx} {b : Addr} (c : DrawOk U b) (a : Addr) (u : HO) : DrawOk (U.lk a u) b := ⟨c.m, lkn_none c.ne, c.at_, c.to⟩
theorem EnvOk.lk {U : Vx} {ρ : List E} {σ : L2.St} {L : Ow} (o : EnvOk K U ρ σ L F) (h : F a = some (.dK kvs)) (od : Obj) : EnvOk K (U.lk a (.frz od (.dK kvs))) ρ σ L (L2.upd F a (.frz od (.dK kvs))) := by
  obtain ⟨fp, of⟩ := o.fs
  refine ⟨o.len, ⟨fp, fun i e hi => ?_, of.nd, of.ds, of.il⟩, ⟨fun p hp => ⟨(o.lo.nm p hp).1, lkn_none (o.lo.nm p hp).2.1, lk_noneG (o.lo.nm p hp).2.2⟩, o.lo.fn⟩, fun b u e => ?_⟩
  · obtain ⟨u, h1, h2⟩ := of.sl i e hi
    exact ⟨u, h1, h2.imp id fun ⟨v, h3, h4⟩ => ⟨v, h3, sv_gen (fun v d r => rp_lock h r) (fun b xs hs => by
      rcases hs with (hs | ⟨o, hs⟩) | hs
      · exact .inl (.inl (by rw [upd_ne (fun z => by rw [z, h] at hs; cases hs)]; exact hs))
      · exact .inl (.inr ⟨o, by rw [upd_ne (fun z => by rw [z, h] at hs; cases hs)]; exact hs⟩)
      · exact .inr hs) (fun b I c => c.lk _ _) (fun b c => c.lk _ _) _ _ _ h4⟩⟩
  · have e : (if b = a then (if U.Ge a = none then none else some _) else U.Ge b) = some u := e
    by_cases z : b = a
    · subst z
      rw [if_pos rfl] at e
      split at e
      · cases e
      · rw [upd_same]; exact e
    · rw [if_neg z] at e; rw [upd_ne z]; exact o.ge b u e
theorem J.lk {U : Vx} {H : Hp} (j : J U H F) (h : F a = some (.dK kvs)) (od : Obj) : J (U.lk a (.frz od (.dK kvs))) (upd H a (.frz od (.dK kvs))) (upd F a (.frz od (.dK kvs))) where
  up := ex_upd2 j.up
  keep := fun b u e => by
    have e : (if b = a then (if U.He a = none then none else some _) else U.He b) = some u := e
    by_cases z : b = a
    · subst z
      rw [if_pos rfl] at e
      split at e
      · cases e
      · rw [upd_same]; exact e
    · rw [if_neg z] at e; rw [upd_ne z]; exact j.keep b u e
  new := fun b q g => by
    by_cases z : b = a
    · subst z
      have : U.Ge b = none := by
        have g : (if b = b then (if U.Ge b = none then none else some _) else U.Ge b) = none := g
        rw [if_pos rfl] at g
        by_cases y : U.Ge b = none
        · exact y
        · rw [if_neg y] at g; cases g
      exact lkn_none (j.new b (by rw [h]; exact fun q => by cases q) this)
    · rw [upd_ne z] at q
      have g : (if b = a then (if U.Ge a = none then none else some _) else U.Ge b) = none := g
      rw [if_neg z] at g
      exact lkn_none (j.new b q g)
  hid := U.st H _ j.hid fun b mb => by
    have : b ≠ a := fun z => by subst z; rw [(j.msk b mb).1] at h; cases h
    rw [upd_ne this]
  msk := fun b mb => by
    have : b ≠ a := fun z => by subst z; rw [(j.msk b mb).1] at h; cases h
    rw [upd_ne this, upd_ne this]; exact j.msk b mb
theorem J.unlk {U : Vx} {H H2 G2 : Hp} (j0 : J U H F) (h0 : F a = some (.dK kvs)) (j : J (U.lk a (.frz od (.dK kvs))) H2 G2) (h : G2 a = some (.frz od (.dK kvs))) : J U (upd H2 a (.dK kvs)) (upd G2 a (.dK kvs)) where
  up := ex_upd2 j.up
  keep := fun b u e => by
    by_cases z : b = a
    · subst z
      have := j0.keep b u e
      rw [j0.up _ _ h0] at this
      rw [upd_same]; exact this
    · rw [upd_ne z]; exact j.keep b u (by show (if b = a then _ else U.He b) = some u; rw [if_neg z]; exact e)
  new := fun b q g => by
    by_cases z : b = a
    · subst z; exact lk_back (j.new b (by rw [h]; exact fun q => by cases q) (lk_noneG g))
    · rw [upd_ne z] at q; exact lk_back (j.new b q (lk_noneG g))
  hid := U.st H2 _ j.hid fun b mb => by
    have : b ≠ a := fun z => by subst z; rw [(j.msk b mb).1] at h; cases h
    rw [upd_ne this]
  msk := fun b mb => by
    have : b ≠ a := fun z => by subst z; rw [(j.msk b mb).1] at h; cases h
    rw [upd_ne this, upd_ne this]; exact j.msk b mb
theorem hides_lk {U : Vx} {L : Ow} {a : Addr} {u : HO} : (U.lk a u).hides L = (U.hides L).lk a u := rfl
end
/-- locked, if it is not so yet -/
def tLck (t : TE) : TE := fun σ H Q => tLockE t σ H Q ∨ t σ H Q
theorem pe_lck {X : Cx} {e : Expr} {t : TE} (h : PE X e t) : PE X e (tLck t) := ⟨fun pins s σ H Q I hh => hh.elim ((pe_lock h).run pins s σ H Q I) (h.run pins s σ H Q I)⟩
/-- the dict at slot i is locked -/
def FrzAt (K : PySem.W.Frag) (σ : L2.St) (G : Hp) (i : Nat) (m : List (Key × D)) : Prop := ∃ a od kvs, σ[i]? = some (some (.ref a)) ∧ G a = some (.frz od (.dK kvs)) ∧ KvR K G kvs m ∧ (m.map (·.1)).Nodup
section
variable {K : PySem.W.Frag} {ρ : List E} {te tk : TE} {tt : TT} {g : TG} {vs : List Nat} {Q : E → Prop} {QN : List D → Prop} {QM : List (Key × D) → Prop}
/-- what a lock needs of what comes of it -/
theorem em_lck {U : Vx} {σ : L2.St} {L : Ow} {G : Hp} {t : TE} {i : Nat} {m : List (Key × D)} (o : EnvOk K U ρ σ L G) (hi : ρ[i]? = some (.d (.dc m))) {PP : Hp → VK} (hP : ∀ G G2 a od kvs v, G a = some (.dK kvs) → G2 a = some (.frz od (.dK kvs)) → PP (upd G a (.frz od (.dK kvs))) v G2 → PP G v (upd G2 a (.dK kvs))) (hx : ∀ v G' G2, PP G' v G2 → Ex G' G2)
    (h : ∀ U G, EnvOk K U ρ σ L G → FrzAt K σ G i m → EM (U.hides L) t σ G (PP G)) : EM (U.hides L) (tLck t) σ G (PP G) := fun H j QH q => by
  obtain ⟨v, h3, h4⟩ := o.at hi rfl
  obtain ⟨a, kvs, rfl, r, kr, nd⟩ := rp_dc (show Rp K G v (.dc m) from h4)
  rcases r with r | ⟨od, r⟩
  · refine .inl ⟨a, .dK kvs, j.up _ _ r, trivial, fun od => ?_⟩
    have o' := o.lk r od
    have kr' : KvR K (upd G a (.frz od (.dK kvs))) kvs m := ⟨kr.1, rpa_gen (fun _ _ => rp_lock r) kr.2⟩
    refine h _ _ o' ⟨a, od, kvs, h3, upd_same, kr', nd⟩ _ (j.lk r od) _ fun v H2 G2 j2 p => ?_
    have g2 : G2 a = some (.frz od (.dK kvs)) := hx _ _ _ p _ _ upd_same
    exact ⟨j2.up _ _ g2, q v _ _ (J.unlk j r j2 g2) (hP _ _ _ _ _ _ r g2 p)⟩
  · exact .inr (h U G o ⟨a, od, kvs, h3, r, kr, nd⟩ H j QH q)
theorem ex_unlk {G G2 : Hp} {a : Addr} {od : Obj} {kvs : List (Key × V)} (h : G a = some (.dK kvs)) (e : Ex (upd G a (.frz od (.dK kvs))) G2) : Ex G (upd G2 a (.dK kvs)) := fun b u hb => by
  by_cases z : b = a
  · subst z; rw [h] at hb; cases hb; exact upd_same
  · rw [upd_ne z]; exact e b u (by rw [upd_ne z]; exact hb)
theorem dn_lck {t : TE} (i : Nat) {m : List (Key × D)} (hi : ρ[i]? = some (.d (.dc m))) (h : ∀ U σ L G, EnvOk K U ρ σ L G → FrzAt K σ G i m → EM (U.hides L) t σ G fun v G' => ∃ p vs ds G1, v = .ref p ∧ Ex G G1 ∧ G1 p = none ∧ Ex G1 G' ∧ G' p = some (.lst vs) ∧ RpA K G1 vs ds ∧ QN ds) : DN K (tLck t) ρ QN := fun U σ L G o =>
  em_lck o hi (PP := fun G v G' => ∃ p vs ds G1, v = .ref p ∧ Ex G G1 ∧ G1 p = none ∧ Ex G1 G' ∧ G' p = some (.lst vs) ∧ RpA K G1 vs ds ∧ QN ds) (fun G G2 a od kvs v h1 h2 ⟨p, vs, ds, G1, ev, e1, np, e2, gp, k, q⟩ => by
    have g1 : G1 a = some (.frz od (.dK kvs)) := e1 _ _ upd_same
    have na : p ≠ a := fun z => by subst z; rw [np] at g1; cases g1
    refine ⟨p, vs, ds, upd G1 a (.dK kvs), ev, ex_unlk h1 e1, by rw [upd_ne na]; exact np, ex_upd2 e2, by rw [upd_ne na]; exact gp, rpa_gen (fun _ _ => rp_unlock g1) k, q⟩) (fun v G' G2 ⟨p, vs, ds, G1, ev, e1, np, e2, _⟩ => e1.trans e2) (fun U G o' f => h U σ L G o' f)
theorem dnm_lck {t : TE} (i : Nat) {m : List (Key × D)} (hi : ρ[i]? = some (.d (.dc m))) (h : ∀ U σ L G, EnvOk K U ρ σ L G → FrzAt K σ G i m → EM (U.hides L) t σ G fun v G' => ∃ p kvs ks ds G1, v = .ref p ∧ Ex G G1 ∧ G1 p = none ∧ Ex G1 G' ∧ G' p = some (.dK kvs) ∧ kvs.map (·.1) = ks ∧ ks.Nodup ∧ RpA K G1 (kvs.map (·.2)) ds ∧ ∃ m, ks = m.map (·.1) ∧ ds = m.map (·.2) ∧ QM m) : DNM K (tLck t) ρ QM := fun U σ L G o =>
  em_lck o hi (PP := fun G v G' => ∃ p kvs ks ds G1, v = .ref p ∧ Ex G G1 ∧ G1 p = none ∧ Ex G1 G' ∧ G' p = some (.dK kvs) ∧ kvs.map (·.1) = ks ∧ ks.Nodup ∧ RpA K G1 (kvs.map (·.2)) ds ∧ ∃ m, ks = m.map (·.1) ∧ ds = m.map (·.2) ∧ QM m) (fun G G2 a od kvs v h1 h2 ⟨p, ws, ks, ds, G1, ev, e1, np, e2, gp, hk, hn, k, q⟩ => by
    have g1 : G1 a = some (.frz od (.dK kvs)) := e1 _ _ upd_same
    have na : p ≠ a := fun z => by subst z; rw [np] at g1; cases g1
    refine ⟨p, ws, ks, ds, upd G1 a (.dK kvs), ev, ex_unlk h1 e1, by rw [upd_ne na]; exact np, ex_upd2 e2, by rw [upd_ne na]; exact gp, hk, hn, rpa_gen (fun _ _ => rp_unlock g1) k, q⟩) (fun v G' G2 ⟨p, vs, ks, ds, G1, ev, e1, np, e2, _⟩ => e1.trans e2) (fun U G o' f => h U σ L G o' f)
/-! ### at one state -/
def DIat (K : PySem.W.Frag) (wi : TI) (U : Vx) (σ : L2.St) (L : Ow) (G : Hp) (P : List D → Prop) : Prop := ∀ H, J (U.hides L) H G → ∀ R : It → Hp → Prop, (∀ I H1 G1 xs, J (U.hides L) H1 G1 → Ex G G1 → ItOk K I G1 xs → P xs → R I H1) → wi σ H R
theorem lc_at {wi : TI} {U : Vx} {σ : L2.St} {L : Ow} {G : Hp} (o : EnvOk K U ρ σ L G) (h : DIat K wi U σ L G fun xs => xs.length < 16000000 ∧ ∃ P : Nat → List D → Prop, P 0 [] ∧ (∀ i acc, P i acc → acc.length ≤ i) ∧ (∀ (i : Nat) d acc, xs[i]? = some d → P i acc → DGW K g (.d d) vs ρ fun ρ2 => DT K tt ρ2 fun b => if b = true then DE K te ρ2 fun y => DD y fun dy => P (i + 1) (acc ++ [dy]) else P (i + 1) acc) ∧ ∀ acc, P xs.length acc → QN acc) :
    EM (U.hides L) (tLc wi g tt te vs) σ G fun v G' => ∃ p vs ds G1, v = .ref p ∧ Ex G G1 ∧ G1 p = none ∧ Ex G1 G' ∧ G' p = some (.lst vs) ∧ RpA K G1 vs ds ∧ QN ds := fun H j QH q =>
  h H j _ fun I H1 G1 xs j1 e1 ok ⟨hlen, P, h0, hz, hs, hd⟩ => by
    intro Dd hD
    obtain ⟨Gd, Y, wk, hg, hy⟩ := ok
    have c := lc_ok o e1 j1 hD
    refine lc_it wk (LcP K U L G1 Dd P) ?_ (fun i H' _ ⟨acc, ads, G', p, ka, e', j'⟩ => hg _ _ _ j' e') (fun i x H' H'' hi ⟨acc, ads, G', p, ka, e', j'⟩ yy => ?_) (fun H' hp => ?_)
    · obtain ⟨G', e', j'⟩ := lc_start (σ := σ) c j1 hD
      exact ⟨[], [], G', h0, .nil, e', j'⟩
    · obtain ⟨G'', d, e'', j'', hx, r⟩ := hy _ i H' x H'' G' j' e' hi yy
      exact lc_env (e := .d d) c.nl (c.lo o.lo (.ex (.lst acc))) (o.mono (e1.trans (e'.trans e''))) (e'.trans e'') j'' r (ka.mono e'') (by have := hz i ads p; omega) (hs i d ads hx p)
    · obtain ⟨G2, j2, r⟩ := lc_done c e1 hp hd
      exact q _ _ _ j2 r
/-- the dict that a comprehension makes -/
def DcP (K : PySem.W.Frag) (U : Vx) (L : Ow) (G1 : Hp) (Dd : Addr) (P : Nat → List (Key × D) → Prop) (i : Nat) (H : Hp) : Prop := ∃ kvs m G', P i m ∧ KvR K G' kvs m ∧ (m.map (·.1)).Nodup ∧ Ex G1 G' ∧ J (U.hides ((Dd, HI.ex (.dK kvs)) :: L)) H G'
theorem dc_at {wi : TI} {U : Vx} {σ : L2.St} {L : Ow} {G : Hp} (o : EnvOk K U ρ σ L G) (h : DIat K wi U σ L G fun xs => xs.length < 16000000 ∧ ∃ P : Nat → List (Key × D) → Prop, P 0 [] ∧ (∀ i m, P i m → m.length ≤ i) ∧ (∀ (i : Nat) d m, xs[i]? = some d → P i m → DGW K g (.d d) vs ρ fun ρ2 => DT K tt ρ2 fun b => if b = true then DE K tk ρ2 fun y => KyE y fun k => DE K te ρ2 fun z => DD z fun dz => P (i + 1) (putP m k dz) else P (i + 1) m) ∧ ∀ m, P xs.length m → QM m) :
    EM (U.hides L) (tDc wi g tt tk te vs) σ G fun v G' => ∃ p kvs ks ds G1, v = .ref p ∧ Ex G G1 ∧ G1 p = none ∧ Ex G1 G' ∧ G' p = some (.dK kvs) ∧ kvs.map (·.1) = ks ∧ ks.Nodup ∧ RpA K G1 (kvs.map (·.2)) ds ∧ ∃ m, ks = m.map (·.1) ∧ ds = m.map (·.2) ∧ QM m := fun H j QH q =>
  h H j _ fun I H1 G1 xs j1 e1 ok ⟨hlen, P, h0, hz, hs, hd⟩ => by
    intro Dd hD
    obtain ⟨Gd, Y, wk, hg, hy⟩ := ok
    have c := lc_ok o e1 j1 hD
    refine ⟨fun i n H => n = xs.length - i ∧ i ≤ xs.length ∧ DcP K U L G1 Dd P i H, ⟨xs.length, by simp, Nat.zero_le _, [], [], _, h0, .nil, List.nodup_nil, Ex.wo' (j1.free hD) (Ex.new (j1.free hD)), (j1.alloc hD).own upd_same rfl c.ng⟩, ?_⟩
    rintro i n H' ⟨rfl, hi, kvs, m, G', p, kr, nd, e', j'⟩
    have hGd := hg _ _ _ j' e'
    by_cases hlt : i < xs.length
    · refine .inr ⟨wk.goes i H' hlt hGd, fun H2 => DcP K U L G1 Dd P (i + 1) H2, fun H2 p2 => ⟨_, by omega, rfl, hlt, p2⟩, fun x H'' yy => ?_⟩
      obtain ⟨G'', d, e'', j'', hx, r⟩ := hy _ i H' x H'' G' j' e' hlt (wk.yields i H' x H'' hlt hGd yy)
      have hlo := c.lo o.lo (.ex (.dK kvs))
      have oo := (o.mono (e1.trans (e'.trans e''))).more (fun _ h => List.mem_cons_of_mem _ h) hlo
      refine hs i d m hx p U σ _ G'' x oo r H'' j'' _ fun σ2 H2 G2 j2 ⟨hw, e2, ρ2, o2, k2⟩ => ⟨hw, k2 U σ2 _ G2 o2 H2 j2 _ fun b H3 G3 j3 ⟨e3, k3⟩ => ?_⟩
      cases b with
      | true =>
        rw [if_pos rfl] at k3 ⊢
        refine k3 U σ2 _ G3 (o2.mono e3) H3 j3 _ fun y H4 G4 j4 ⟨e4, ey, sy, key, ek, k4⟩ => k4 U σ2 _ G4 (o2.mono (e3.trans e4)) H4 j4 _ fun z H5 G5 j5 ⟨e5, ez, sz, dz, ed, k5⟩ => ?_
        subst ek ed
        have kr' := (kr.mono (e''.trans (e2.trans (e3.trans (e4.trans e5))))).put (k := key) sz
        have nd' := putP_nodup (k := key) (v := dz) nd
        obtain ⟨n1, n2, _⟩ := hlo.nm (Dd, _) List.mem_cons_self
        refine ⟨kvs, key, kD_of sy, j5.at List.mem_cons_self, by rw [kr.len]; have := hz i m p; exact Nat.lt_of_lt_of_le (show m.length < 16000000 by omega) (by decide), ?_⟩
        exact ⟨_, _, G5, k5, kr', nd', e'.trans (e''.trans (e2.trans (e3.trans (e4.trans e5)))), j5.chgHead rfl c.nl n1 n2⟩
      | false =>
        rw [if_neg Bool.false_ne_true] at k3 ⊢
        exact ⟨kvs, m, G3, k3, kr.mono (e''.trans (e2.trans e3)), nd, e'.trans (e''.trans (e2.trans e3)), j3⟩
    · have ei : i = xs.length := by omega
      subst ei
      have gd : G' Dd = none := (j'.msk Dd (.inr ⟨_, List.mem_cons_self⟩)).1
      exact .inl ⟨wk.stops H' hGd, q _ _ _ (j'.showHead c.nm c.nh c.nl) (dnm_mk (e1.trans e') gd (Ex.new gd) upd_same kr nd (hd m p))⟩
theorem dn_dc {wi : TI} (h : DI K wi ρ fun xs => xs.length < 16000000 ∧ ∃ P : Nat → List (Key × D) → Prop, P 0 [] ∧ (∀ i m, P i m → m.length ≤ i) ∧ (∀ (i : Nat) d m, xs[i]? = some d → P i m → DGW K g (.d d) vs ρ fun ρ2 => DT K tt ρ2 fun b => if b = true then DE K tk ρ2 fun y => KyE y fun k => DE K te ρ2 fun z => DD z fun dz => P (i + 1) (putP m k dz) else P (i + 1) m) ∧ ∀ m, P xs.length m → QM m) : DNM K (tDc wi g tt tk te vs) ρ QM := fun U σ L G o => dc_at o (h U σ L G o)
/-! ### the dict at slot i, by keys, values, items -/
theorem itok_keys {G : Hp} {a : Addr} {od : Obj} {kvs : List (Key × V)} {m : List (Key × D)} (h : G a = some (.frz od (.dK kvs))) (k : KvR K G kvs m) : ItOk K (Itk a od kvs) G (m.map fun p => kD p.1) := by
  refine ⟨fun H => H a = some (.frz od (.dK kvs)), fun i H x H' => H' = H ∧ ∃ key w, kvs[i]? = some (key, w) ∧ x = kV key, by rw [List.length_map, ← k.len]; exact walk_keys, fun U H G' j e => j.up _ _ (e _ _ h), fun U i H v H' G' j e hi ⟨eh, key, w, hk, ev⟩ => ?_⟩
  subst eh ev
  have h1 : (m.map (·.1))[i]? = some key := by rw [← k.1, List.getElem?_map, hk]; rfl
  rw [List.getElem?_map] at h1
  obtain ⟨p, hp, rfl⟩ := Option.map_eq_some_iff.mp h1
  refine ⟨G', kD p.1, Ex.refl _, j, by rw [List.getElem?_map, hp]; rfl, ?_⟩
  cases p.1 with
  | inl i => exact .int i
  | inr s => exact .str s
theorem itok_vals {G : Hp} {a : Addr} {od : Obj} {kvs : List (Key × V)} {m : List (Key × D)} (h : G a = some (.frz od (.dK kvs))) (k : KvR K G kvs m) : ItOk K (Itd a od kvs) G (m.map (·.2)) := by
  refine ⟨fun H => H a = some (.frz od (.dK kvs)), fun i H x H' => H' = H ∧ ∃ key, kvs[i]? = some (key, x), by rw [List.length_map, ← k.len]; exact walk_values, fun U H G' j e => j.up _ _ (e _ _ h), fun U i H v H' G' j e hi ⟨eh, key, hk⟩ => ?_⟩
  subst eh
  obtain ⟨d, h1, h2⟩ := k.2.at (i := i) (v := v) (by rw [List.getElem?_map, hk]; rfl)
  exact ⟨G', d, Ex.refl _, j, h1, h2.mono e⟩
theorem itok_items {G : Hp} {a : Addr} {od : Obj} {kvs : List (Key × V)} {m : List (Key × D)} (h : G a = some (.frz od (.dK kvs))) (k : KvR K G kvs m) : ItOk K (Iti a od kvs) G (m.map pairD) := by
  refine ⟨fun H => H a = some (.frz od (.dK kvs)), YPair (fun i => kvs[i]?.map fun kv => kV kv.1) (fun i => kvs[i]?.map Prod.snd), by rw [List.length_map, ← k.len]; exact walk_items, fun U H G' j e => j.up _ _ (e _ _ h), fun U i H v H' G' j e hi ⟨T, x, y, ev, hT, eh, h1, h2⟩ => ?_⟩
  subst eh ev
  obtain ⟨kv, hkv, e1⟩ := Option.map_eq_some_iff.mp h1
  obtain ⟨kv', hkv', e2⟩ := Option.map_eq_some_iff.mp h2
  rw [hkv] at hkv'; cases hkv'
  have h3 : (m.map (·.1))[i]? = some kv.1 := by rw [← k.1, List.getElem?_map, hkv]; rfl
  rw [List.getElem?_map] at h3
  obtain ⟨p, hp, e3⟩ := Option.map_eq_some_iff.mp h3
  obtain ⟨d, h4, h5⟩ := k.2.at (i := i) (v := kv.2) (by rw [List.getElem?_map, hkv]; rfl)
  rw [List.getElem?_map, hp] at h4
  cases h4
  have eT : Ex G' (upd G' T (.tup [x, y])) := Ex.new (j.free hT)
  refine ⟨_, pairD p, eT, j.alloc hT, by rw [List.getElem?_map, hp]; rfl, .tup (st_of upd_same) (.cons ?_ (.cons ?_ .nil))⟩
  · rw [← e1, ← e3]
    cases p.1 with
    | inl i => exact .int i
    | inr s => exact .str s
  · have h6 : Rp K G y p.2 := by rw [← show kv.2 = y from e2]; exact h5
    exact (h6.mono e).mono eT
theorem keys_at {U : Vx} {σ : L2.St} {L : Ow} {G : Hp} {i : Nat} {m : List (Key × D)} {P : List D → Prop} (f : FrzAt K σ G i m) (p : P (m.map fun p => kD p.1)) : DIat K (iKeys (tVar i)) U σ L G P := fun H j R q => by
  obtain ⟨a, od, kvs, h1, h2, h3, _⟩ := f
  exact ⟨_, h1, a, od, rfl, .inl ⟨kvs, j.up _ _ h2, q _ _ _ _ j (Ex.refl G) (itok_keys h2 h3) p⟩⟩
theorem items_at {U : Vx} {σ : L2.St} {L : Ow} {G : Hp} {i : Nat} {m : List (Key × D)} {P : List D → Prop} (f : FrzAt K σ G i m) (p : P (m.map pairD)) : DIat K (iItems (tVar i)) U σ L G P := fun H j R q => by
  obtain ⟨a, od, kvs, h1, h2, h3, _⟩ := f
  exact ⟨_, h1, a, od, kvs, rfl, j.up _ _ h2, q _ _ _ _ j (Ex.refl G) (itok_items h2 h3) p⟩
theorem vals_at {U : Vx} {σ : L2.St} {L : Ow} {G : Hp} {i : Nat} {m : List (Key × D)} {P : List D → Prop} (f : FrzAt K σ G i m) (p : P (m.map (·.2))) : DIat K (iVals (tVar i)) U σ L G P := fun H j R q => by
  obtain ⟨a, od, kvs, h1, h2, h3, _⟩ := f
  exact ⟨_, h1, a, od, kvs, rfl, j.up _ _ h2, q _ _ _ _ j (Ex.refl G) (itok_vals h2 h3) p⟩
/-- [e for k in d if t] -/
theorem dn_lcK {i : Nat} (h : ∃ m, ρ[i]? = some (.d (.dc m)) ∧ m.length < 16000000 ∧ ∃ P : Nat → List D → Prop, P 0 [] ∧ (∀ i acc, P i acc → acc.length ≤ i) ∧ (∀ (i : Nat) p acc, m[i]? = some p → P i acc → DGW K g (.d (kD p.1)) vs ρ fun ρ2 => DT K tt ρ2 fun b => if b = true then DE K te ρ2 fun y => DD y fun dy => P (i + 1) (acc ++ [dy]) else P (i + 1) acc) ∧ ∀ acc, P m.length acc → QN acc) : DN K (tLck (tLc (iKeys (tVar i)) g tt te vs)) ρ QN := by
  obtain ⟨m, hi, hl, P, h0, hz, hs, hd⟩ := h
  exact dn_lck i hi fun U σ L G o f => lc_at o (keys_at f ⟨by rw [List.length_map]; exact hl, P, h0, hz, fun i d acc hx p => by
    rw [List.getElem?_map] at hx
    obtain ⟨q, hq, rfl⟩ := Option.map_eq_some_iff.mp hx
    exact hs i q acc hq p, by rw [List.length_map]; exact hd⟩)
theorem dn_lcI {i : Nat} (h : ∃ m, ρ[i]? = some (.d (.dc m)) ∧ m.length < 16000000 ∧ ∃ P : Nat → List D → Prop, P 0 [] ∧ (∀ i acc, P i acc → acc.length ≤ i) ∧ (∀ (i : Nat) p acc, m[i]? = some p → P i acc → DGW K g (.d (pairD p)) vs ρ fun ρ2 => DT K tt ρ2 fun b => if b = true then DE K te ρ2 fun y => DD y fun dy => P (i + 1) (acc ++ [dy]) else P (i + 1) acc) ∧ ∀ acc, P m.length acc → QN acc) : DN K (tLck (tLc (iItems (tVar i)) g tt te vs)) ρ QN := by
  obtain ⟨m, hi, hl, P, h0, hz, hs, hd⟩ := h
  exact dn_lck i hi fun U σ L G o f => lc_at o (items_at f ⟨by rw [List.length_map]; exact hl, P, h0, hz, fun i d acc hx p => by
    rw [List.getElem?_map] at hx
    obtain ⟨q, hq, rfl⟩ := Option.map_eq_some_iff.mp hx
    exact hs i q acc hq p, by rw [List.length_map]; exact hd⟩)
/-- .. by a filter and a function: keys ints -/
theorem dn_filtK {α : Type} {i : Nat} (fv : α → D) (b : Int × α → Bool) (f : Int × α → D) (h : ∃ m : List (Int × α), ρ[i]? = some (.d (.dc (mM fv m))) ∧ m.length < 16000000 ∧ (∀ p ∈ m, DGW K g (.d (.int p.1)) vs ρ fun ρ2 => DT K tt ρ2 fun c => c = b p ∧ (c = true → DE K te ρ2 fun y => y = .d (f p))) ∧ QN ((m.filter b).map f)) : DN K (tLck (tLc (iKeys (tVar i)) g tt te vs)) ρ QN := by
  obtain ⟨m, hi, hl, hs, hq⟩ := h
  refine dn_lcK ⟨_, hi, by rw [mM_len]; exact hl, fun j acc => j ≤ m.length ∧ acc = ((m.take j).filter b).map f, ⟨Nat.zero_le _, rfl⟩, fun j acc ⟨p0, p⟩ => by rw [p, List.length_map]; exact Nat.le_trans (List.length_filter_le _ _) (by rw [List.length_take]; omega), fun j q acc hq' ⟨p0, p⟩ => ?_, fun acc ⟨_, p⟩ => by rw [mM_len, List.take_length] at p; rw [p]; exact hq⟩
  unfold mM at hq'
  rw [List.getElem?_map] at hq'
  obtain ⟨x, hx, rfl⟩ := Option.map_eq_some_iff.mp hq'
  have hil := (List.getElem?_eq_some_iff.mp hx).1
  exact fun U σ L G v o s => (hs x (List.mem_of_getElem? hx) U σ L G v o s).w fun σ2 G2 ⟨hw, e2, ρ2, o2, k2⟩ => ⟨hw, e2, ρ2, o2, fun U σ L G o => (k2 U σ L G o).w fun c G3 ⟨e3, ec, k3⟩ => ⟨e3, by
    cases c with
    | true =>
      rw [if_pos rfl]
      exact fun U σ L G o => (k3 rfl U σ L G o).w fun y G3 ⟨e3, z, sz, ez⟩ => ⟨e3, z, sz, f x, ez, hil, by rw [p, List.take_add_one, hx, List.filter_append]; simp [← ec]⟩
    | false =>
      rw [if_neg Bool.false_ne_true]
      exact ⟨hil, by rw [p, List.take_add_one, hx, List.filter_append]; simp [← ec]⟩⟩⟩
end
end
end Wp

set_option Elab.async false
set_option linter.all false
set_option maxRecDepth 100000
set_option maxHeartbeats 4000000
/-! Rules that ask no type: len, list, sorted, +, *, ==, truth. -/
namespace Wp
section
open PySem L2 Evl StX
set_option autoImplicit false
theorem OpR.or {X : Cx} {f : Value → Value → Sem Value} {r r' : R2} (h : OpR X f r) (h' : OpR X f r') : OpR X f (fun x y H Q => r x y H Q ∨ r' x y H Q) := fun pins s σ H x y v u Q I rx ry q => q.elim (h pins s σ H x y v u Q I rx ry) (h' pins s σ H x y v u Q I rx ry)
theorem IxR.or {X : Cx} {r r' : R2} (h : IxR X r) (h' : IxR X r') : IxR X (fun x y H Q => r x y H Q ∨ r' x y H Q) := fun value slice pins s σ H x y v u Q I rx ry q hs => q.elim (fun z => h value slice pins s σ H x y v u Q I rx ry z hs) (fun z => h' value slice pins s σ H x y v u Q I rx ry z hs)
/-! ### ints in order -/
def insI (x : Int) : List Int → List Int
  | [] => [x]
  | y :: ys => if x ≤ y then x :: y :: ys else y :: insI x ys
def srt : List Int → List Int
  | [] => []
  | x :: xs => insI x (srt xs)
theorem insI_perm (x : Int) : ∀ ys, (insI x ys).Perm (x :: ys)
  | [] => List.Perm.refl _
  | y :: ys => by
    unfold insI
    split
    · exact List.Perm.refl _
    · exact ((insI_perm x ys).cons y).trans (List.Perm.swap x y ys)
theorem srt_perm : ∀ xs, (srt xs).Perm xs
  | [] => List.Perm.refl _
  | x :: xs => (insI_perm x _).trans ((srt_perm xs).cons x)
theorem insI_sorted (x : Int) : ∀ ys : List Int, ys.Pairwise (· ≤ ·) → (insI x ys).Pairwise (· ≤ ·)
  | [], _ => by simp [insI]
  | y :: ys, h => by
    rw [List.pairwise_cons] at h
    unfold insI
    split
    · rename_i z
      rw [List.pairwise_cons, List.pairwise_cons]
      exact ⟨fun a ha => by rcases List.mem_cons.mp ha with rfl | ha; exact z; exact Int.le_trans z (h.1 a ha), h⟩
    · rename_i z
      rw [List.pairwise_cons]
      exact ⟨fun a ha => by rcases List.mem_cons.mp ((insI_perm x ys).mem_iff.mp ha) with rfl | ha; omega; exact h.1 a ha, insI_sorted x ys h.2⟩
theorem srt_sorted : ∀ xs : List Int, (srt xs).Pairwise (· ≤ ·)
  | [] => List.Pairwise.nil
  | x :: xs => insI_sorted x _ (srt_sorted xs)
theorem sorted_uniq : ∀ {xs ys : List Int}, xs.Perm ys → xs.Pairwise (· ≤ ·) → ys.Pairwise (· ≤ ·) → xs = ys
  | [], ys, p, _, _ => (List.Perm.eq_nil p.symm).symm
  | x :: xs, ys, p, h1, h2 => by
    cases ys with
    | nil => exact absurd p.length_eq (by simp)
    | cons y ys =>
      rw [List.pairwise_cons] at h1 h2
      have e : x = y := by
        have a : x ∈ y :: ys := p.mem_iff.mp List.mem_cons_self
        have b : y ∈ x :: xs := p.mem_iff.mpr List.mem_cons_self
        rcases List.mem_cons.mp a with a | a
        · exact a
        · rcases List.mem_cons.mp b with b | b
          · exact b.symm
          · have := h2.1 x a; have := h1.1 y b; omega
      subst e
      rw [sorted_uniq (List.Perm.cons_inv p) h1.2 h2.2]
theorem srt_of {xs ys : List Int} (p : ys.Perm xs) (h : ys.Pairwise (· ≤ ·)) : ys = srt xs := sorted_uniq (p.trans (srt_perm xs).symm) h (srt_sorted xs)
theorem srt_len (xs : List Int) : (srt xs).length = xs.length := (srt_perm xs).length_eq
theorem mem_srt {xs : List Int} {x : Int} : x ∈ srt xs ↔ x ∈ xs := (srt_perm xs).mem_iff
section
variable {K : PySem.W.Frag} {ρ : List E} {te td ty tx ta tb : TE} {tas : TA} {tt : TT} {g : TG} {ts : TS} {vs : List Nat} {N B C : List E → Prop} {R : D → Prop} {QN : List D → Prop} {Q : E → Prop} {QM : List (Key × D) → Prop} {QT : Bool → Prop}
/-! ### list -/
def rListA (K : PySem.W.Frag) : List V → Hp → VK → Prop := fun xs H Q => rListQ K xs H Q ∨ ∃ p kvs, xs = [.ref p] ∧ Rd H p (.dK kvs) ∧ ∀ q, H q = none → Q (.ref q) (upd H q (.lst (kvs.map fun kv => kV kv.1)))
theorem kq_listA {X : Cx} (h : X.K = K := by rfl) (hc : X.calm = true := by rfl) : CallR X (.type "list") (rListA K) := by
  refine CallR.or (kq_list h) fun pins s σ H xs us Q I r hq => ?_
  obtain ⟨p, kvs, rfl, hk, q⟩ := hq
  rw [Vals.ref1 r]
  obtain ⟨z, lo, ws, rk, hd⟩ := dk_rd I.hok hk
  obtain ⟨ep, hat⟩ := hd.dictAt
  have hl : kvs.length = ws.length := Paired.length rk
  refine PySem.W.kdl_call (PySem.W.kdl_dict (knd := mixKind X.prog X.w) (kvs := ws) (ep := ep) lo) (I.ok.hd hc) hat (by omega) fun h' tk acc' c' hkeep hS hacc => ?_
  have ok : ObjOk X.prog X.w (upd H s.heap.objs.size (.lst (kvs.map fun kv => kV kv.1))) h' s.heap.objs.size (.lst (kvs.map fun kv => kV kv.1)) := by
    refine ⟨by rw [List.length_map]; exact z, acc'.toList, c', vals_of_at ?_ fun j x w h1 h2 => ?_, ?_⟩
    · have e0 : acc'.toList.length = acc'.size := Array.length_toList
      rw [List.length_map, e0, hacc.1, hl]
    · obtain ⟨k, y, hky, hi⟩ := hacc.2 j w (by rw [← Array.getElem?_toList]; exact h2)
      have e1 : (kvs.map (·.1))[j]? = some k := by rw [KV.keys rk, List.getElem?_map, hky]; rfl
      rw [List.getElem?_map] at h1 e1
      obtain ⟨kv, g1, g2⟩ := Option.map_eq_some_iff.mp h1
      rw [g1] at e1
      cases e1
      subst g2
      exact relV_key hi
    · simpa using hS
  exact ⟨.ref s.heap.objs.size, upd H s.heap.objs.size (.lst (kvs.map fun kv => kV kv.1)), I.laid hkeep (Nat.le_refl _) ok, rfl, q _ (I.hok.fresh (Nat.le_refl _))⟩
theorem rp_key {G : Hp} (k : Key) : Rp K G (kV k) (kD k) := by cases k <;> constructor
theorem rpa_keys {G : Hp} : ∀ {kvs : List (Key × V)} {m : List (Key × D)}, KvR K G kvs m → RpA K G (kvs.map fun kv => kV kv.1) (m.map fun p => kD p.1)
  | [], m, h => by rw [h.inv0]; exact .nil
  | p :: kvs, m, h => by
    obtain ⟨d, m', rfl, r, h'⟩ := h.inv
    exact .cons (rp_key _) (rpa_keys h')
theorem dn_listA (h : DE K te ρ fun x => (∃ ds, (x = .d (.lst ds) ∨ x = .d (.tup ds) ∨ x = .own ds) ∧ QN ds) ∨ DcE x fun m => QN (m.map fun p => kD p.1)) : DN K (tCB (rListA K) (tCons te tNil)) ρ QN := fun U σ L G o H j QH q =>
  h U σ L G o H j _ fun v H1 G1 j1 ⟨e1, x, sx, hx⟩ => by
    rcases hx with ⟨ds, hx, k⟩ | ⟨m, hx, k⟩
    · have z : ∃ a vs, v = .ref a ∧ (SqL K H1 a vs ∨ SqT K H1 a vs) ∧ RpA K G1 vs ds := by
        rcases hx with rfl | rfl | rfl
        · cases (sx : Rp K G1 v (.lst ds)) with | lst a b => exact ⟨_, _, rfl, .inl (sq_of (j1.up _ _ a)), b⟩
        · cases (sx : Rp K G1 v (.tup ds)) with | tup a b => exact ⟨_, _, rfl, .inr (ex_t j1.up a), b⟩
        · obtain ⟨a, vs, rfl, hm, b⟩ := sx; exact ⟨_, _, rfl, .inl (sq_of (j1.at hm)), b⟩
      obtain ⟨a, vs, rfl, hs, hr⟩ := z
      exact .inl ⟨a, vs, rfl, hs, fun l hl => q _ _ _ (j1.alloc hl) ⟨l, _, ds, G1, rfl, e1, j1.free hl, Ex.new (j1.free hl), upd_same, hr, k⟩⟩
    · obtain ⟨a, kvs, rfl, r, kr, nd⟩ := slot_dc hx sx j1
      exact .inr ⟨a, kvs, rfl, r, fun l hl => q _ _ _ (j1.alloc hl) ⟨l, _, _, G1, rfl, e1, j1.free hl, Ex.new (j1.free hl), upd_same, rpa_keys kr, k⟩⟩
def tListItemsR (te : TE) : TE := fun σ H Q => te σ H fun x H1 => ∃ (d : Addr) (kvs : List (Key × V)), x = .ref d ∧ Rd H1 d (.dK kvs) ∧
  ∀ (H' : Hp) (p : Addr) (ts : List Addr), (∀ b o, H1 b = some o → H' b = some o) → H1 p = none → (∀ t ∈ ts, H1 t = none) → p ∉ ts → H' p = some (.lst (ts.map V.ref)) → Paired (fun (t : Addr) (q : Key × V) => H' t = some (.tup [kV q.1, q.2])) ts kvs → Q (.ref p) H'
theorem pe_listItemsR {X : Cx} {e : Expr} {p apos cpos pos : Pos} (he : PE X e te) (hg : Gl X "list") (hm : X.mg "list" = none) (hc : X.calm = true := by rfl) (hv : bootBuiltins "list" = some (.type "list") := by decide +kernel) (hbase : attributeBase e "items" X.env (eval e X.env) = eval e X.env := by rfl) (hline : (apos.endLine == cpos.line) = true := by rfl)
    (hs : starEach [.Call (.Attribute e "items" apos) [] [] cpos] X.env = (false, eval (.Call (.Attribute e "items" apos) [] [] cpos) X.env) :: starEach [] X.env := by rfl) :
    PE X (.Call (.Name "list" p) [.Call (.Attribute e "items" apos) [] [] cpos] [] pos) (tListItemsR te) := by
  refine ⟨fun pins s σ H Q I hq => wpAny_Call_Name_kw (ld_blt I hg hm hv (PyProof.Rows.callWith_type1 ?_ hs rfl))⟩
  rw [hs]
  refine Calls.spliced_cons (wpAny_Call_method (T := "dict") (id := "dict.items") hbase rfl hline F.plainAttrs_dict F.slot_dict_items F.type_dict_items (thn (he.run pins s σ H _ I hq) fun u s1 ⟨x, H1, I1, rx, d, kvs, ex, hd, q⟩ => ?_))
  subst ex
  obtain rfl : u = Value.ref d := rx
  obtain ⟨hz, hsm, ws, kv, hdo⟩ := dk_rd I1.hok hd
  obtain ⟨ep, hat⟩ := hdo.dictAt
  have lk : kvs.length = ws.length := Paired.length kv
  have I2 : Inv X pins σ H1 { s1 with heap := s1.heap.push { cls := .type "dict_items", data := .fields #[.ref d] } } := I1.kept (t' := s1.toks) fun b ob z => Heap.get?_push_of_some _ z
  refine ⟨hdo.typeIs, hdo.mapOf.noDict, method_meetsIn F.slot_dict_items F.entry_dict_items rfl (PySem.evalArgs_none ⟨rfl, hdo.typeIs, F.args_dict_items_1 _, _, meets_dict_items (mixKind X.prog X.w) d hsm, ⟨ws, hdo⟩, Calls.spliced_nil ?_⟩)⟩
  refine PySem.W.kdx_call (knd := mixKind X.prog X.w) (kvs := ws) (ep := ep) (I1.ok.hd hc) ⟨_, Heap.get?_push_size _ rfl, rfl, rfl⟩ (hat.push _) (by omega) fun h' tk acc c as hk hS hl hG hacc => ?_
  obtain ⟨H', k1, k2, k3, k4, k5, k6, J'⟩ := LiI.items_laid (tk := tk) I2 hz kv hk hS hl hG hacc
  exact ⟨.ref _, H', J', rfl, q H' _ as k1 k2 k3 k4 k5 k6⟩
/-- new objects, all of them shown -/
theorem J.grow {U : Vx} {H H' G : Hp} (j : J U H G) (S : Addr → Prop) (hx : Ex H H') (hS : ∀ a, S a → H a = none) (G' : Hp) (h1 : ∀ a, S a → G' a = H' a) (h2 : ∀ a, ¬ S a → G' a = G a) : J U H' G' ∧ Ex G G' := by
  have hn : ∀ a, G a ≠ none → ¬ S a := fun a h s => h (j.free (hS a s))
  refine ⟨⟨fun a u e => ?_, j.keep.trans hx, fun a q g => ?_, U.st H _ j.hid fun a ma => ?_, fun a ma => ?_⟩, fun a u e => by rw [h2 a (hn a (by rw [e]; exact fun q => by cases q))]; exact e⟩
  · by_cases z : S a
    · rw [h1 a z] at e; exact e
    · rw [h2 a z] at e; exact hx _ _ (j.up _ _ e)
  · by_cases z : S a
    · exact none_of_ex j.keep (hS a z)
    · rw [h2 a z] at q; exact j.new a q g
  · have := (j.msk a ma).2
    cases z : H a with
    | none => exact absurd z this
    | some o => rw [hx a o z]
  · obtain ⟨q1, q2⟩ := j.msk a ma
    have z : ¬ S a := fun s => q2 (hS a s)
    refine ⟨by rw [h2 a z]; exact q1, ?_⟩
    cases y : H a with
    | none => exact absurd y q2
    | some o => rw [hx a o y]; exact fun q => by cases q
theorem rpa_items {G : Hp} : ∀ {kvs : List (Key × V)} {m : List (Key × D)} {ts : List Addr}, KvR K G kvs m → Paired (fun (t : Addr) (q : Key × V) => G t = some (.tup [kV q.1, q.2])) ts kvs → RpA K G (ts.map V.ref) (m.map pairD)
  | [], m, ts, h, p => by rw [h.inv0]; cases p; exact .nil
  | q :: kvs, m, ts, h, p => by
    obtain ⟨d, m', rfl, r, h'⟩ := h.inv
    cases p with
    | cons a b =>
      exact .cons (.tup (st_of a) (.cons (rp_key _) (.cons r .nil))) (rpa_items h' b)
open Classical in
theorem dn_items (h : DE K te ρ fun x => DcE x fun m => QN (m.map pairD)) : DN K (tListItemsR te) ρ QN := fun U σ L G o H j QH q =>
  h U σ L G o H j _ fun v H1 G1 j1 ⟨e1, x, sx, m, hx, k⟩ => by
    obtain ⟨a, kvs, rfl, r, kr, nd⟩ := slot_dc hx sx j1
    refine ⟨a, kvs, rfl, r, fun H' p ts hk hp ht npt gp pr => ?_⟩
    -- first the tuples, then the list
    obtain ⟨jt, et⟩ := j1.grow (H' := fun b => if b = p then none else H' b) (fun b => b ∈ ts) (fun b u e => by
      show (if b = p then none else H' b) = some u
      rw [if_neg (fun z => by rw [z, hp] at e; cases e)]; exact hk _ _ e) ht (fun b => if b ∈ ts then H' b else G1 b) (fun b hb => by
        show (if b ∈ ts then H' b else G1 b) = (if b = p then none else H' b)
        rw [if_pos hb, if_neg (fun z => npt (by rw [← z]; exact hb))]) (fun b hb => by show (if b ∈ ts then H' b else G1 b) = _; rw [if_neg hb])
    have gn : (fun b => if b ∈ ts then H' b else G1 b) p = none := by show (if p ∈ ts then H' p else G1 p) = none; rw [if_neg npt]; exact j1.free hp
    obtain ⟨jp, ep⟩ := jt.grow (H' := H') (fun b => b = p) (fun b u e => by
      have e : (if b = p then none else H' b) = some u := e
      by_cases z : b = p
      · rw [if_pos z] at e; cases e
      · rw [if_neg z] at e; exact e) (fun b hb => by show (if b = p then none else H' b) = none; rw [if_pos hb]) (upd (fun b => if b ∈ ts then H' b else G1 b) p (.lst (ts.map V.ref))) (fun b hb => by rw [hb, upd_same, gp]) (fun b hb => by rw [upd_ne hb])
    have pr' : Paired (fun (t : Addr) (q : Key × V) => (fun b => if b ∈ ts then H' b else G1 b) t = some (.tup [kV q.1, q.2])) ts kvs := by
      have : ∀ {us : List Addr} {ws : List (Key × V)}, (∀ t ∈ us, t ∈ ts) → Paired (fun (t : Addr) (q : Key × V) => H' t = some (.tup [kV q.1, q.2])) us ws → Paired (fun (t : Addr) (q : Key × V) => (fun b => if b ∈ ts then H' b else G1 b) t = some (.tup [kV q.1, q.2])) us ws := by
        intro us ws hu pp
        induction pp with
        | nil => exact .nil
        | cons a b ih => exact .cons (by show (if _ ∈ ts then _ else _) = _; rw [if_pos (hu _ List.mem_cons_self)]; exact a) (ih fun t ht => hu t (List.mem_cons_of_mem _ ht))
      exact this (fun t ht => ht) pr
    exact q _ _ _ jp ⟨p, _, _, _, rfl, e1.trans et, gn, ep, upd_same, rpa_items (kr.mono et) pr', k⟩
/-! ### sorted, of ints and of a dict's keys -/
def rSortA (K : PySem.W.Frag) : List V → Hp → VK → Prop := fun xs H Q => rSortedI K xs H Q ∨ ∃ (a : Addr) (kvs : List (Key × V)) (ks : List Int), xs = [.ref a] ∧ Rd H a (.dK kvs) ∧ kvs.map (·.1) = ks.map Sum.inl ∧ ks.length < 64 ∧
    ∀ (ys : List Int) (p : Addr), ys.Perm ks → ys.Pairwise (· ≤ ·) → H p = none → Q (.ref p) (upd H p (.lst (ys.map V.int)))
theorem kr_sortA {X : Cx} (h : X.K = K := by rfl) (hc : X.calm = true := by rfl) : CallR X (.builtin "sorted") (rSortA K) := by subst h; exact CallR.or cr_sortedI (call_sortedDI hc)
theorem rpa_mkI {G : Hp} : ∀ ns : List Int, RpA K G (ns.map V.int) (ns.map D.int)
  | [] => .nil
  | n :: ns => .cons (.int n) (rpa_mkI ns)
theorem dn_sortL (h : DE K te ρ fun x => ∃ ns : List Int, (x = .d (.lst (ns.map D.int)) ∨ x = .own (ns.map D.int)) ∧ QN ((srt ns).map D.int)) : DN K (tCB (rSortA K) (tCons te tNil)) ρ QN := fun U σ L G o H j QH q =>
  h U σ L G o H j _ fun v H1 G1 j1 ⟨e1, x, sx, ns, hx, k⟩ => by
    have z : ∃ a, v = .ref a ∧ SqL K H1 a (ns.map V.int) := by
      rcases hx with rfl | rfl
      · cases (sx : Rp K G1 v (.lst (ns.map D.int))) with | lst a b => rw [rpa_ints b] at a; exact ⟨_, rfl, sq_of (j1.up _ _ a)⟩
      · obtain ⟨a, vs, rfl, hm, b⟩ := sx; rw [rpa_ints b] at hm; exact ⟨_, rfl, sq_of (j1.at hm)⟩
    obtain ⟨a, rfl, hs⟩ := z
    exact .inl ⟨a, ns, rfl, hs, fun ys p hp hs' hn => by rw [srt_of hp hs']; exact q _ _ _ (j1.alloc hn) ⟨p, _, _, G1, rfl, e1, j1.free hn, Ex.new (j1.free hn), upd_same, rpa_mkI _, k⟩⟩
theorem dn_sortD {α : Type} {f : α → D} (h : DE K te ρ fun x => ∃ m : List (Int × α), (x = .d (.dc (mM f m)) ∨ x = .dm (mM f m)) ∧ m.length < 64 ∧ QN ((srt (m.map (·.1))).map D.int)) : DN K (tCB (rSortA K) (tCons te tNil)) ρ QN := fun U σ L G o H j QH q =>
  h U σ L G o H j _ fun v H1 G1 j1 ⟨e1, x, sx, m, hx, hl, k⟩ => by
    obtain ⟨a, kvs, rfl, r, kr, nd⟩ := slot_dc hx sx j1
    exact .inr ⟨a, kvs, m.map (·.1), rfl, r, by rw [kr.1, mM_keys], by rw [List.length_map]; exact hl, fun ys p hp hs' hn => by rw [srt_of hp hs']; exact q _ _ _ (j1.alloc hn) ⟨p, _, _, G1, rfl, e1, j1.free hn, Ex.new (j1.free hn), upd_same, rpa_mkI _, k⟩⟩
/-! ### displays -/
def DPs (K : PySem.W.Frag) : List (TE × TE) → List E → (List (Key × D) → Prop) → Prop
  | [], _, P => P []
  | (tk, tv) :: r, ρ, P => DE K tk ρ fun y => KyE y fun k => DE K tv ρ fun z => DD z fun d => DPs K r ρ fun m => P ((k, d) :: m)
theorem pairs_run {U : Vx} {σ : L2.St} {L : Ow} : ∀ (trs : List (TE × TE)) (P : List (Key × D) → Prop) (G : Hp), DPs K trs ρ P → EnvOk K U ρ σ L G → ∀ H, J (U.hides L) H G → ∀ R : List (V × V) → Hp → Prop, (∀ kvs m H' G', J (U.hides L) H' G' → Ex G G' → KvR K G' kvs m → kvs.length = trs.length → P m → R (kvs.map fun kv => (kV kv.1, kv.2)) H') → tPairs trs σ H R
  | [], P, G, h, o, H, j, R, q => q [] [] H G j (Ex.refl G) .nil rfl h
  | (tk, tv) :: r, P, G, h, o, H, j, R, q => h U σ L G o H j _ fun v H1 G1 j1 ⟨e1, y, sy, k, ek, h2⟩ => h2 U σ L G1 (o.mono e1) H1 j1 _ fun w H2 G2 j2 ⟨e2, z, sz, d, ed, h3⟩ =>
    pairs_run r _ G2 h3 (o.mono (e1.trans e2)) H2 j2 _ fun kvs m H3 G3 j3 e3 kr hl p => by
      subst ek ed
      rw [kD_of sy]
      exact q ((k, w) :: kvs) ((k, d) :: m) H3 G3 j3 ((e1.trans e2).trans e3) (.cons (SlotV.mono sz e3) kr) (by rw [List.length_cons, hl, List.length_cons]) p
theorem dn_disp {trs : List (TE × TE)} (h15 : trs.length ≤ 15) (h : DPs K trs ρ fun m => QM (mergeP [] m)) : DNM K (tDisp trs) ρ QM := fun U σ L G o H j QH q => fun p hp => by
  have c := lc_ok o (Ex.refl G) j hp
  have j' := (j.alloc (o := .dK []) hp).own (I := .ex (.dK [])) upd_same rfl c.ng
  have e' := Ex.wo' (j.free hp) (Ex.new (o := .dK []) (j.free hp))
  refine pairs_run trs _ _ h ((o.mono e').more (fun _ h => List.mem_cons_of_mem _ h) (c.lo o.lo _)) _ j' _ fun kvs m H2 G2 j2 e2 kr hl k => ⟨j2.at List.mem_cons_self, kvs, rfl, by omega, ?_⟩
  have j3 := j2.chgHead (I := .ex (.dK (mergeK [] kvs))) rfl c.nl c.nm c.nh
  have gd : G2 p = none := (j2.msk p (.inr ⟨_, List.mem_cons_self⟩)).1
  exact q _ _ _ (j3.showHead c.nm c.nh c.nl) (dnm_mk (e'.trans e2) gd (Ex.new gd) upd_same (kr.merge .nil) (mergeP_nodup _ _ List.nodup_nil) k)
/-! ### truth -/
def tTruQ (K : PySem.W.Frag) (ta : TE) : TT := fun σ H Q => ta σ H fun x H' => ∃ k, TruV K x H' k ∧ Q k H'
theorem kt_truth {X : Cx} {e : Expr} (he : PE X e te) (h : X.K = K := by rfl) (ht : ∀ whole, isTrue e X.env whole = (do let v ← whole; standAt e.pos; holding [v] (truthy v)) := by intro _; rfl) : PT X e (tTruQ K te) := by subst h; exact pt_truth he ht
theorem ke_orT {X : Cx} {a b : Expr} {rest : List Expr} {pos : Pos} (ha : PE X a ta) (hb : PE X (.BoolOp .Or (b :: rest) pos) tb) (h : X.K = K := by rfl) : PE X (.BoolOp .Or (a :: b :: rest) pos) (tOrT K ta tb) := by subst h; exact pe_orT ha hb
def truD : D → Option Bool
  | .non => some false
  | .bl b => some b
  | .int i => some (i != 0)
  | .lst ds => some (!ds.isEmpty)
  | .tup ds => some (!ds.isEmpty)
  | _ => none
theorem isEmpty_rpa {G : Hp} {vs : List V} {ds : List D} (h : RpA K G vs ds) : vs.isEmpty = ds.isEmpty := by cases h <;> rfl
theorem tru_of {H G : Hp} {U : Vx} {v : V} {d : D} {b : Bool} (r : Rp K G v d) (j : J U H G) (h : truD d = some b) : TruV K v H b := by
  cases r with
  | non => cases h; rfl
  | bl c => cases h; rfl
  | int i => cases h; rfl
  | str s => cases h
  | lst a k => cases h; exact .inl ⟨_, sq_of (j.up _ _ a), by rw [isEmpty_rpa k]⟩
  | tup a k => cases h; exact .inr (.inl ⟨_, ex_t j.up a, by rw [isEmpty_rpa k]⟩)
  | obj _ _ _ => cases h
  | dct _ _ _ _ => cases h
  | adr _ => cases h
theorem dt_truth (h : DE K te ρ fun x => DD x fun d => ∃ b, truD d = some b ∧ QT b) : DT K (tTruQ K te) ρ QT := fun U σ L G o H j QH q =>
  h U σ L G o H j _ fun v H1 G1 j1 ⟨e1, x, sx, d, ed, b, hb, k⟩ => by subst ed; exact ⟨b, tru_of sx j1 hb, q _ _ _ j1 ⟨e1, k⟩⟩
theorem de_orT (h : DE K ta ρ fun x => DD x fun d => ∃ b, truD d = some b ∧ if b = true then Q (.d d) else DE K tb ρ Q) : DE K (tOrT K ta tb) ρ Q := fun U σ L G o H j QH q =>
  h U σ L G o H j _ fun v H1 G1 j1 ⟨e1, x, sx, d, ed, b, hb, k⟩ => by
    subst ed
    refine ⟨b, tru_of sx j1 hb, ?_⟩
    cases b with
    | true => rw [if_pos rfl] at k ⊢; exact q _ _ _ j1 ⟨e1, .d d, sx, k⟩
    | false => rw [if_neg Bool.false_ne_true] at k ⊢; exact (k U σ L G1 (o.mono e1)) H1 j1 _ fun w H2 G2 j2 ⟨e2, r⟩ => q _ _ _ j2 ⟨e1.trans e2, r⟩
/-! ### + and * -/
def rAddA (K : PySem.W.Frag) : R2 := fun x y H Q => rI0 (fun i j => .int (i + j)) x y H Q ∨ rCat x y H Q ∨ rCatA K x y H Q
theorem kp_addA {X : Cx} (h : X.K = K := by rfl) : OpR X (binaryOp .Add) (rAddA K) := by subst h; exact OpR.or op_add (OpR.or op_cat op_catA)
theorem dr_addI {i j : Int} (k : Q (.d (.int (i + j)))) : DR K (rAddA K) (.d (.int i)) (.d (.int j)) Q := fun U L G v w lo sx sy H j QH q => .inl (dr_I0 (fun _ => .int _) k U L G v w lo sx sy H j QH q)
theorem dr_addL {ds es : List D} (hz : ds.length + es.length ≤ sizeLine) (k : Q (.d (.lst (ds ++ es)))) : DR K (rAddA K) (.d (.lst ds)) (.d (.lst es)) Q := fun U L G v w lo sx sy H j QH q => .inr (.inl (dr_cat hz k U L G v w lo sx sy H j QH q))
theorem dr_addT {ds es : List D} (hz : ds.length + es.length ≤ sizeLine) (k : Q (.d (.tup (ds ++ es)))) : DR K (rAddA K) (.d (.tup ds)) (.d (.tup es)) Q := fun U L G v w lo sx sy H j QH q => .inr (.inr (dr_catA hz k U L G v w lo sx sy H j QH q))
theorem dn_addL (h : DE K ta ρ fun x => DE K tb ρ fun y => ∃ ds es, x = .d (.lst ds) ∧ y = .d (.lst es) ∧ ds.length + es.length ≤ sizeLine ∧ QN (ds ++ es)) : DN K (tOp (rAddA K) ta tb) ρ QN := fun U σ L G o H j QH q =>
  (dn_cat h U σ L G o).w (fun v G' z => z) H j QH q |> fun t => by
    exact (h U σ L G o H j _ fun v H1 G1 j1 ⟨e1, x, sx, hx⟩ => hx U σ L G1 (o.mono e1) H1 j1 _ fun w H2 G2 j2 ⟨e2, y, sy, ds, es, ed, ee, hz, k⟩ => by
      subst ed ee
      cases (SlotV.mono sx e2 : Rp K G2 v (.lst ds)) with
      | lst a b =>
        cases (sy : Rp K G2 w (.lst es)) with
        | lst a' b' => exact .inr (.inl (rm_cat a a' (by rw [b.len, b'.len]; exact hz) (fun p G' n e g => ⟨p, _, ds ++ es, G2, rfl, e1.trans e2, n, e, g, b'.app b, k⟩) H2 j2 QH q)))
/-! ### == -/
def rEqA (K : PySem.W.Frag) : R2 := fun x y H Q => rEq x y H Q ∨ rEqD K x y H Q
def rNeA (K : PySem.W.Frag) : R2 := fun x y H Q => rNe x y H Q ∨ rNeD K x y H Q
theorem kp_eqA {X : Cx} (hu : X.A.units + 64 < cLine) (h : X.K = K := by rfl) : OpR X (compareOp .Eq) (rEqA K) := OpR.or op_eq (kp_eqD hu h)
theorem kp_neA {X : Cx} (hu : X.A.units + 64 < cLine) (h : X.K = K := by rfl) : OpR X (compareOp .NotEq) (rNeA K) := OpR.or op_ne (kp_neD hu h)
theorem dr_eqA {x y : E} (h : DR K rEq x y Q) : DR K (rEqA K) x y Q := fun U L G v w lo sx sy H j QH q => .inl (h U L G v w lo sx sy H j QH q)
theorem dr_neA {x y : E} (h : DR K rNe x y Q) : DR K (rNeA K) x y Q := fun U L G v w lo sx sy H j QH q => .inl (h U L G v w lo sx sy H j QH q)
theorem dr_eqAD {x y : E} (h : DR K (rEqD K) x y Q) : DR K (rEqA K) x y Q := fun U L G v w lo sx sy H j QH q => .inr (h U L G v w lo sx sy H j QH q)
theorem dr_neAD {x y : E} (h : DR K (rNeD K) x y Q) : DR K (rNeA K) x y Q := fun U L G v w lo sx sy H j QH q => .inr (h U L G v w lo sx sy H j QH q)
end
end
end Wp

set_option Elab.async false
set_option linter.all false
set_option maxRecDepth 100000
set_option maxHeartbeats 4000000
/-! Dicts of ints compared. -/
namespace Wp
section
open PySem L2 Evl StX
set_option autoImplicit false
/-- the same entries, whatever their order -/
def meq (m n : List (Int × Int)) : Bool := m.length == n.length && m.all fun p => getP n p.1 == some p.2
theorem keys_perm {m n : List (Int × Int)} (h1 : (m.map (·.1)).Nodup) (h2 : (n.map (·.1)).Nodup) (h : ∀ k, getP m k = getP n k) : m.length = n.length := by
  have hm : ∀ k, k ∈ m.map (·.1) ↔ k ∈ n.map (·.1) := fun k => by rw [← getP_isSome, ← getP_isSome, h k]
  have p : (m.map (·.1)).Perm (n.map (·.1)) := (List.perm_ext_iff_of_nodup h1 h2).mpr hm
  have := p.length_eq
  rwa [List.length_map, List.length_map] at this
theorem nodup_le {α : Type} [DecidableEq α] : ∀ (l m : List α), l.Nodup → (∀ x ∈ l, x ∈ m) → l.length ≤ m.length
  | [], m, _, _ => Nat.zero_le _
  | a :: l, m, h, s => by
    rw [List.nodup_cons] at h
    have ha := s a List.mem_cons_self
    have := nodup_le l (m.erase a) h.2 fun x hx => (List.mem_erase_of_ne (fun z => h.1 (by rw [← z]; exact hx))).mpr (s x (List.mem_cons_of_mem _ hx))
    rw [List.length_erase_of_mem ha] at this
    have := List.length_pos_of_mem ha
    rw [List.length_cons]; omega
theorem meq_iff {m n : List (Int × Int)} (h1 : (m.map (·.1)).Nodup) (h2 : (n.map (·.1)).Nodup) : meq m n = true ↔ ∀ k, getP m k = getP n k := by
  unfold meq
  rw [Bool.and_eq_true, List.all_eq_true]
  constructor
  · rintro ⟨hl, ha⟩ k
    have hl : m.length = n.length := by simpa using hl
    have ha : ∀ p ∈ m, getP n p.1 = some p.2 := fun p hp => by simpa using ha p hp
    cases e : getP m k with
    | some v => exact (ha _ (getP_mem e)).symm
    | none =>
      cases e' : getP n k with
      | none => rfl
      | some v =>
        -- n has one key more than m's
        exfalso
        have sub : ∀ x ∈ k :: m.map (·.1), x ∈ n.map (·.1) := fun x hx => by
          rcases List.mem_cons.mp hx with rfl | hx
          · exact List.mem_map.mpr ⟨_, getP_mem e', rfl⟩
          · obtain ⟨p, hp, rfl⟩ := List.mem_map.mp hx
            exact List.mem_map.mpr ⟨_, getP_mem (ha p hp), rfl⟩
        have nd : (k :: m.map (·.1)).Nodup := List.nodup_cons.mpr ⟨getP_none.mp e, h1⟩
        have := nodup_le _ _ nd sub
        simp at this
        omega
  · intro h
    refine ⟨by simpa using keys_perm h1 h2 h, fun p hp => ?_⟩
    rw [← h, mem_getP h1 (show (p.1, p.2) ∈ m from hp)]
    simp
section
variable {K : PySem.W.Frag}
abbrev iV (m : List (Int × Int)) : List (Key × V) := m.map fun p => (.inl p.1, .int p.2)
theorem val_iV {m : List (Int × Int)} {k : Int} : valV (iV m) (.inl k) = (getP m k).map V.int := by
  induction m with
  | nil => rfl
  | cons p m ih =>
    rw [getP_cons]
    by_cases z : p.1 = k
    · rw [if_pos z]; exact valV_pos (by show (Sum.inl p.1 : Key) = .inl k; rw [z])
    · rw [if_neg z, ← ih]; exact valV_neg (fun q => z (Sum.inl.inj q))
theorem hits_of {A : Around} {s : Shared} {n : List (Int × Int)} {vb : List (Key × Value)} (rb : L2.KV (iV n) vb) : ∀ {m : List (Int × Int)} {va : List (Key × Value)}, L2.KV (iV m) va → PySem.W.KeqHits A s vb va (m.all fun p => getP n p.1 == some p.2)
  | [], va, ra => by cases ra; exact .nil
  | p :: m, va, ra => by
    have ra' : Paired (fun (p : Key × V) (q : Key × Value) => p.1 = q.1 ∧ RelV p.2 q.2) ((.inl p.1, .int p.2) :: iV m) va := ra
    cases ra' with
    | @cons _ q _ qs h t =>
      obtain ⟨h1, i, h2⟩ := h
      obtain ⟨k, v⟩ := q
      have h1 : (Sum.inl p.1 : Key) = k := h1
      have h2 : v = Value.int p.2 i := h2
      subst h1 h2
      have ih := hits_of (A := A) (s := s) rb (m := m) (va := qs) t
      have rv := rb.val (.inl p.1)
      rw [val_iV] at rv
      rw [List.all_cons]
      cases e : getP n p.1 with
      | none =>
        rw [e] at rv
        have hn : valueAt vb (.inl p.1) = none := by
          cases z : valueAt vb (.inl p.1) with
          | none => rfl
          | some y => rw [z] at rv; cases rv
        exact .miss hn
      | some x =>
        rw [e] at rv
        have hy : ∃ t, valueAt vb (.inl p.1) = some (.int x t) := by
          cases z : valueAt vb (.inl p.1) with
          | none => rw [z] at rv; cases rv
          | some y => rw [z] at rv; obtain ⟨t, ht⟩ := (show RelV (.int x) y from rv); exact ⟨t, by rw [ht]⟩
        obtain ⟨t', hy⟩ := hy
        have e2 : ((some x == some p.2) : Bool) = (p.2 == x) := by
          by_cases z : x = p.2
          · subst z; simp
          · have z' : ¬ p.2 = x := fun q => z q.symm
            rw [beq_eq_false_iff_ne.mpr z', beq_eq_false_iff_ne.mpr (fun q => z (Option.some.inj q))]
        rw [e2]
        exact .hit hy (SeqAt.EqAt.int_int p.2 i x t') ih
def rEqM : R2 := fun x y H Q => ∃ a b m n, x = .ref a ∧ y = .ref b ∧ Rd H a (.dK (iV m)) ∧ Rd H b (.dK (iV n)) ∧ Q (.bl (meq m n)) H
def rNeM : R2 := fun x y H Q => ∃ a b m n, x = .ref a ∧ y = .ref b ∧ Rd H a (.dK (iV m)) ∧ Rd H b (.dK (iV n)) ∧ Q (.bl (!meq m n)) H
theorem len_KV {m : List (Int × Int)} {va : List (Key × Value)} (r : L2.KV (iV m) va) : va.length = m.length := by
  have := r.length
  rw [List.length_map] at this
  exact this.symm
theorem op_eqM {X : Cx} (hu : X.A.units + 64 < cLine) : OpR X (compareOp .Eq) rEqM := by
  rintro pins s σ H x y v u Q I rx ry ⟨a, b, m, n, rfl, rfl, ea, eb, q⟩
  obtain rfl : v = Value.ref a := rx
  obtain rfl : u = Value.ref b := ry
  obtain ⟨_, ya, va, ra, da⟩ := dk_rd I.hok ea
  obtain ⟨_, yb, vb, rb, db⟩ := dk_rd I.hok eb
  refine PySem.W.keq_eq (knd := mixKind X.prog X.w) (r := m.all fun p => getP n p.1 == some p.2) ya yb da db (by omega) (fun _ => hits_of rb ra) ⟨.bl (meq m n), H, I, ?_, q⟩
  rw [len_KV ra, len_KV rb]; rfl
theorem op_neM {X : Cx} (hu : X.A.units + 64 < cLine) : OpR X (compareOp .NotEq) rNeM := by
  rintro pins s σ H x y v u Q I rx ry ⟨a, b, m, n, rfl, rfl, ea, eb, q⟩
  obtain rfl : v = Value.ref a := rx
  obtain rfl : u = Value.ref b := ry
  obtain ⟨_, ya, va, ra, da⟩ := dk_rd I.hok ea
  obtain ⟨_, yb, vb, rb, db⟩ := dk_rd I.hok eb
  refine PySem.W.keq_ne (knd := mixKind X.prog X.w) (r := m.all fun p => getP n p.1 == some p.2) ya yb da db (by omega) (fun _ => hits_of rb ra) ⟨.bl (!meq m n), H, I, ?_, q⟩
  rw [len_KV ra, len_KV rb]; rfl
theorem kvr_iV {G : Hp} : ∀ {m : List (Int × Int)} {kvs : List (Key × V)}, KvR K G kvs (mI m) → kvs = iV m
  | [], kvs, h => by
    have := h.len
    cases kvs with
    | nil => rfl
    | cons a b => cases this
  | p :: m, kvs, h => by
    cases kvs with
    | nil => have := h.len; cases this
    | cons q kvs =>
      obtain ⟨d, m', e, r, h'⟩ := h.inv
      have e : ((Sum.inl p.1 : Key), D.int p.2) :: mM D.int m = (q.1, d) :: m' := e
      injection e with e1 e2
      injection e1 with e3 e4
      subst e2
      rw [kvr_iV h']
      have : q = (.inl p.1, .int p.2) := by
        refine Prod.ext e3.symm ?_
        rw [← e4] at r
        cases h : q.2 <;> rw [h] at r <;> cases r
        rfl
      rw [this]; rfl
section
open PySem.Spec PyProof.Rows
/-! ### tuples that hold ints, texts and dicts of ints -/
theorem isSome_of {m : List (Int × Int)} {vb : List (Key × Value)} (rb : L2.KV (iV m) vb) (k : Int) : (PySem.valueAt vb (.inl k : Key)).isSome = (getP m k).isSome := by
  have rv := rb.val (.inl k)
  rw [val_iV] at rv
  cases e : getP m k with
  | none =>
    rw [e] at rv
    cases z : PySem.valueAt vb (.inl k : Key) with
    | none => rfl
    | some y => rw [z] at rv; cases rv
  | some x =>
    rw [e] at rv
    cases z : PySem.valueAt vb (.inl k : Key) with
    | none => rw [z] at rv; cases rv
    | some y => rfl
theorem int_of {m : List (Int × Int)} {vb : List (Key × Value)} (rb : L2.KV (iV m) vb) {k : Int} {y : Value} (h : PySem.valueAt vb (.inl k : Key) = some y) : ∃ x t, getP m k = some x ∧ y = .int x t := by
  have rv := rb.val (.inl k)
  rw [val_iV, h] at rv
  cases e : getP m k with
  | none => rw [e] at rv; cases rv
  | some x => rw [e] at rv; obtain ⟨t, ht⟩ := (show RelV (.int x) y from rv); exact ⟨x, t, rfl, ht⟩
theorem mem_KV : ∀ {m : List (Int × Int)} {va : List (Key × Value)}, L2.KV (iV m) va → ∀ k v, (k, v) ∈ va → ∃ p t, p ∈ m ∧ k = .inl p.1 ∧ v = .int p.2 t
  | [], va, ra, k, v, h => by cases ra; cases h
  | p :: m, va, ra, k, v, h => by
    have ra' : Paired (fun (p : Key × V) (q : Key × Value) => p.1 = q.1 ∧ RelV p.2 q.2) ((.inl p.1, .int p.2) :: iV m) va := ra
    cases ra' with
    | @cons _ q _ qs hq t =>
      rcases List.mem_cons.mp h with e | h
      · subst e
        obtain ⟨h1, i, h2⟩ := hq
        exact ⟨p, i, List.mem_cons_self, h1.symm, h2⟩
      · obtain ⟨p', t', h1, h2⟩ := mem_KV (m := m) (va := qs) t k v h
        exact ⟨p', t', List.mem_cons_of_mem _ h1, h2⟩
theorem all_of {n : List (Int × Int)} {vb : List (Key × Value)} (rb : L2.KV (iV n) vb) {e : Key → Bool} : ∀ {m : List (Int × Int)} {va : List (Key × Value)}, L2.KV (iV m) va → (∀ p ∈ m, e (.inl p.1) = (getP n p.1 == some p.2)) →
    (va.all fun p => (PySem.valueAt vb p.1).isSome && e p.1) = m.all fun p => getP n p.1 == some p.2
  | [], va, ra, _ => by cases ra; rfl
  | p :: m, va, ra, he => by
    have ra' : Paired (fun (p : Key × V) (q : Key × Value) => p.1 = q.1 ∧ RelV p.2 q.2) ((.inl p.1, .int p.2) :: iV m) va := ra
    cases ra' with
    | @cons _ q _ qs hq t =>
      rw [List.all_cons, List.all_cons, all_of rb (m := m) (va := qs) t fun p hp => he p (List.mem_cons_of_mem _ hp)]
      have hk : q.1 = .inl p.1 := hq.1.symm
      rw [hk, isSome_of rb, he p List.mem_cons_self]
      cases getP n p.1 <;> rfl
/-- part by part -/
inductive CmpV (H : Hp) : V → V → Bool → Prop
  | int (i j : Int) : CmpV H (.int i) (.int j) (i == j)
  | str (i j : Str) : CmpV H (.str i) (.str j) (i == j)
  | dict {a b : Addr} {m n : List (Int × Int)} (ea : Rd H a (.dK (iV m))) (eb : Rd H b (.dK (iV n))) (nm : (m.map (·.1)).Nodup) : CmpV H (.ref a) (.ref b) (meq m n)
def rEqT (K : PySem.W.Frag) : R2 := fun x y H Q => ∃ (a b : Addr) (xs ys : List V) (es : List Bool), x = .ref a ∧ y = .ref b ∧ SqT K H a xs ∧ SqT K H b ys ∧ xs.length = ys.length ∧ xs.length = es.length ∧ (∀ (j : Nat) (v u : V) (e : Bool), xs[j]? = some v → ys[j]? = some u → es[j]? = some e → CmpV H v u e) ∧ Q (.bl (es.all id)) H
def rNeT (K : PySem.W.Frag) : R2 := fun x y H Q => ∃ (a b : Addr) (xs ys : List V) (es : List Bool), x = .ref a ∧ y = .ref b ∧ SqT K H a xs ∧ SqT K H b ys ∧ xs.length = ys.length ∧ xs.length = es.length ∧ (∀ (j : Nat) (v u : V) (e : Bool), xs[j]? = some v → ys[j]? = some u → es[j]? = some e → CmpV H v u e) ∧ Q (.bl (!es.all id)) H
theorem iV_inj : ∀ {m n : List (Int × Int)}, iV m = iV n → m = n
  | [], [], _ => rfl
  | [], _ :: _, h => by cases h
  | _ :: _, [], h => by cases h
  | p :: m, q :: n, h => by
    have h : ((Sum.inl p.1, V.int p.2) : Key × V) :: iV m = (Sum.inl q.1, V.int q.2) :: iV n := h
    injection h with h1 h2
    injection h1 with h3 h4
    injection h3 with h3
    injection h4 with h4
    rw [iV_inj h2, Prod.ext h3 h4]
theorem meq_self {m : List (Int × Int)} (nm : (m.map (·.1)).Nodup) : meq m m = true := (meq_iff nm nm).mpr fun _ => rfl
theorem tree_of {X : Cx} {pins : List (Addr × Obj)} {σ : L2.St} {H : Hp} {s : Shared} (I : L2.Inv X pins σ H s) {v u : V} {e : Bool} {v' u' : Value} (c : CmpV H v u e) (rv : RelV v v') (ru : RelV u u') : PySem.W.EqTree X.prog X.w s 3 v' u' e := by
  cases c with
  | int i j =>
    obtain ⟨t, rfl⟩ := rv
    obtain ⟨t', rfl⟩ := ru
    exact .leaf fun A _ => SeqAt.EqAt.int_int i t j t'
  | str i j =>
    obtain ⟨t, rfl⟩ := rv
    obtain ⟨t', rfl⟩ := ru
    exact .leaf fun A _ => SeqAt.EqAt.str_str i t j t'
  | @dict a b m n ea eb nm =>
    obtain rfl : v' = Value.ref a := rv
    obtain rfl : u' = Value.ref b := ru
    obtain ⟨_, ya, va, ra, da⟩ := dk_rd I.hok ea
    obtain ⟨_, yb, vb, rb, db⟩ := dk_rd I.hok eb
    by_cases z : a = b
    · subst z
      have em : HO.dK (iV m) = HO.dK (iV n) := by
        rcases ea with ea | ⟨od, ea⟩ <;> rcases eb with eb | ⟨od', eb⟩
        · rw [ea] at eb; exact Option.some.inj eb
        · rw [ea] at eb; cases Option.some.inj eb
        · rw [ea] at eb; cases Option.some.inj eb
        · rw [ea] at eb; injection Option.some.inj eb
      injection em with em
      have emn : m = n := iV_inj em
      subst emn
      rw [meq_self nm]
      exact .same
    · have t := PySem.W.EqTree.dicts (prog := X.prog) (w := X.w) (s := s) (n := 2) (knd := mixKind X.prog X.w) (e := fun k => match k with | .inl i => getP n i == getP m i | .inr _ => false) z ya yb da db (fun k v y hm hv => by
        obtain ⟨p, t, hp, rfl, rfl⟩ := mem_KV ra k v hm
        obtain ⟨x, t', hx, rfl⟩ := int_of rb hv
        have hg : getP m p.1 = some p.2 := mem_getP nm hp
        have : (getP n p.1 == getP m p.1) = (p.2 == x) := by
          rw [hx, hg]
          by_cases z : x = p.2
          · subst z; simp
          · rw [beq_eq_false_iff_ne.mpr (fun q => z (Option.some.inj q)), beq_eq_false_iff_ne.mpr (fun q => z q.symm)]
        show PySem.W.EqTree X.prog X.w s 2 _ _ (getP n p.1 == getP m p.1)
        rw [this]
        exact .leaf fun A _ => SeqAt.EqAt.int_int p.2 t x t')
      have e2 : (va.length == vb.length && va.all fun p => (PySem.valueAt vb p.1).isSome && (match p.1 with | .inl i => getP n i == getP m i | .inr _ => false)) = meq m n := by
        rw [all_of rb (e := fun k => match k with | .inl i => getP n i == getP m i | .inr _ => false) ra fun p hp => by show (getP n p.1 == getP m p.1) = _; rw [mem_getP nm hp], len_KV ra, len_KV rb]
        rfl
      rw [← e2]
      exact t
theorem all_getD : ∀ (es : List Bool), (List.range es.length).all (fun j => es.getD j false) = es.all id
  | [] => rfl
  | e :: es => by
    rw [List.length_cons, List.range_succ_eq_map, List.all_cons, List.all_map, List.all_cons, ← all_getD es]
    rfl
theorem op_eqT {X : Cx} (hu : X.A.units + 64 < cLine) : OpR X (compareOp .Eq) (rEqT X.K) := by
  rintro pins s σ H x y v u Q I rx ry ⟨a, b, xs, ys, es, rfl, rfl, ha, hb, hl, hle, hc, q⟩
  obtain rfl : v = Value.ref a := rx
  obtain rfl : u = Value.ref b := ry
  obtain ⟨us, ru, tu, _⟩ := I.tuple ha
  obtain ⟨ws, rw', tw, _⟩ := I.tuple hb
  have lu : us.length = xs.length := ru.length.symm
  have lw : ws.length = ys.length := rw'.length.symm
  refine PySem.W.eq_tuplesT (n := 3) (e := fun j => es.getD j false) tu tw (fun j h1 h2 => ?_) (by omega) ⟨.bl (es.all id), H, I, ?_, q⟩
  · have h1' : j < xs.length := by simpa [lu] using h1
    obtain ⟨u1, e1, r1⟩ := ru.get (List.getElem?_eq_getElem h1')
    obtain ⟨u2, e2, r2⟩ := rw'.get (List.getElem?_eq_getElem (show j < ys.length by omega))
    have hj : j < es.length := by omega
    have c := hc j _ _ _ (List.getElem?_eq_getElem h1') (List.getElem?_eq_getElem (show j < ys.length by omega)) (List.getElem?_eq_getElem hj)
    have t := tree_of I c r1 r2
    have g1 : us.toArray[j] = u1 := by
      have := (List.getElem?_eq_some_iff.mp e1).2
      simpa using this
    have g2 : ws.toArray[j] = u2 := by
      have := (List.getElem?_eq_some_iff.mp e2).2
      simpa using this
    rw [g1, g2]
    show PySem.W.EqTree X.prog X.w s 3 u1 u2 (es.getD j false)
    rw [List.getD_eq_getElem?_getD, List.getElem?_eq_getElem hj]
    exact t
  · have e3 : ((List.range (min us.toArray.size ws.toArray.size)).all (fun j => es.getD j false) && us.toArray.size == ws.toArray.size) = es.all id := by
      have s1 : us.toArray.size = es.length := by simp [lu, hle]
      have s2 : ws.toArray.size = es.length := by simp [lw, ← hl, hle]
      rw [s1, s2, Nat.min_self, all_getD]
      simp
    show RelV (.bl (es.all id)) (Value.bool _)
    rw [e3]
    rfl
end
/-! ### == over anything that is known -/
def rEqB (K : PySem.W.Frag) : R2 := fun x y H Q => rEqA K x y H Q ∨ rEqM x y H Q ∨ rEqT K x y H Q
def rNeB (K : PySem.W.Frag) : R2 := fun x y H Q => rNeA K x y H Q ∨ rNeM x y H Q
theorem kp_eqB {X : Cx} (hu : X.A.units + 64 < cLine) (h : X.K = K := by rfl) : OpR X (compareOp .Eq) (rEqB K) := OpR.or (kp_eqA hu h) (OpR.or (op_eqM hu) (by subst h; exact op_eqT hu))
theorem kp_neB {X : Cx} (hu : X.A.units + 64 < cLine) (h : X.K = K := by rfl) : OpR X (compareOp .NotEq) (rNeB K) := OpR.or (kp_neA hu h) (op_neM hu)
variable {Q : E → Prop} {x y : E}
theorem dr_eqB' (h : DR K rEq x y Q) : DR K (rEqB K) x y Q := fun U L G v w lo sx sy H j QH q => .inl (dr_eqA h U L G v w lo sx sy H j QH q)
theorem dr_neB' (h : DR K rNe x y Q) : DR K (rNeB K) x y Q := fun U L G v w lo sx sy H j QH q => .inl (dr_neA h U L G v w lo sx sy H j QH q)
theorem dr_eqBD (h : DR K (rEqD K) x y Q) : DR K (rEqB K) x y Q := fun U L G v w lo sx sy H j QH q => .inl (dr_eqAD h U L G v w lo sx sy H j QH q)
theorem dr_neBD (h : DR K (rNeD K) x y Q) : DR K (rNeB K) x y Q := fun U L G v w lo sx sy H j QH q => .inl (dr_neAD h U L G v w lo sx sy H j QH q)
theorem dr_eqBM {m n : List (Int × Int)} (hx : x = .d (.dc (mI m)) ∨ x = .dm (mI m)) (hy : y = .d (.dc (mI n)) ∨ y = .dm (mI n)) (k : Q (.d (.bl (meq m n)))) : DR K (rEqB K) x y Q := fun U L G v w lo sx sy H j QH q => by
  obtain ⟨a, kvs, rfl, r1, k1, _⟩ := slot_dc hx sx j
  obtain ⟨b, lvs, rfl, r2, k2, _⟩ := slot_dc hy sy j
  rw [kvr_iV k1] at r1
  rw [kvr_iV k2] at r2
  exact .inr (.inl ⟨a, b, m, n, rfl, rfl, r1, r2, q _ _ _ j ⟨Ex.refl G, .d (.bl _), Rp.bl _, k⟩⟩)
theorem dr_neBM {m n : List (Int × Int)} (hx : x = .d (.dc (mI m)) ∨ x = .dm (mI m)) (hy : y = .d (.dc (mI n)) ∨ y = .dm (mI n)) (k : Q (.d (.bl (!meq m n)))) : DR K (rNeB K) x y Q := fun U L G v w lo sx sy H j QH q => by
  obtain ⟨a, kvs, rfl, r1, k1, _⟩ := slot_dc hx sx j
  obtain ⟨b, lvs, rfl, r2, k2, _⟩ := slot_dc hy sy j
  rw [kvr_iV k1] at r1
  rw [kvr_iV k2] at r2
  exact .inr ⟨a, b, m, n, rfl, rfl, r1, r2, q _ _ _ j ⟨Ex.refl G, .d (.bl _), Rp.bl _, k⟩⟩
/-- part by part, told by data -/
inductive CmpD : D → D → Bool → Prop
  | int (i j : Int) : CmpD (.int i) (.int j) (i == j)
  | str (i j : Str) : CmpD (.str i) (.str j) (i == j)
  | dc (m n : List (Int × Int)) : CmpD (.dc (mI m)) (.dc (mI n)) (meq m n)
def CmpL : List D → List D → List Bool → Prop
  | [], [], [] => True
  | d :: ds, e :: es, b :: bs => CmpD d e b ∧ CmpL ds es bs
  | _, _, _ => False
theorem cmpV_of {U : Vx} {H G : Hp} (j : J U H G) {d e : D} {b : Bool} (c : CmpD d e b) {v u : V} (rv : Rp K G v d) (ru : Rp K G u e) : CmpV H v u b := by
  cases c with
  | int i j => cases rv; cases ru; exact .int _ _
  | str i j => cases rv; cases ru; exact .str _ _
  | dc m n =>
    obtain ⟨a, kvs, rfl, r1, k1, nd⟩ := rp_dc rv
    obtain ⟨b, lvs, rfl, r2, k2, _⟩ := rp_dc ru
    rw [kvr_iV k1] at r1
    rw [kvr_iV k2] at r2
    have up : ∀ a x, Rd G a x → Rd H a x := fun a x h => h.elim (fun h => .inl (j.up _ _ h)) fun ⟨od, h⟩ => .inr ⟨od, j.up _ _ h⟩
    exact .dict (up _ _ r1) (up _ _ r2) (mM_nodup.mp nd)
theorem cmpL_at {U : Vx} {H G : Hp} (j : J U H G) : ∀ {ds es : List D} {bs : List Bool} {xs ys : List V}, CmpL ds es bs → RpA K G xs ds → RpA K G ys es → xs.length = ys.length ∧ xs.length = bs.length ∧ ∀ (i : Nat) (v u : V) (b : Bool), xs[i]? = some v → ys[i]? = some u → bs[i]? = some b → CmpV H v u b
  | [], [], [], xs, ys, _, hx, hy => by cases hx; cases hy; exact ⟨rfl, rfl, fun i v u b h => by simp at h⟩
  | d :: ds, e :: es, b :: bs, xs, ys, ⟨c, cs⟩, hx, hy => by
    cases hx with
    | cons r1 t1 =>
      cases hy with
      | cons r2 t2 =>
        obtain ⟨h1, h2, h3⟩ := cmpL_at j cs t1 t2
        refine ⟨by simp [h1], by simp [h2], fun i v u b' hv hu hb => ?_⟩
        cases i with
        | zero => simp at hv hu hb; subst hv hu hb; exact cmpV_of j c r1 r2
        | succ i => exact h3 i v u b' (by simpa using hv) (by simpa using hu) (by simpa using hb)
  | [], [], _ :: _, _, _, h, _, _ => h.elim
  | [], _ :: _, _, _, _, h, _, _ => h.elim
  | _ :: _, [], _, _, _, h, _, _ => h.elim
  | _ :: _, _ :: _, [], _, _, h, _, _ => h.elim
theorem dr_eqBT {ds es : List D} (bs : List Bool) (c : CmpL ds es bs) (k : Q (.d (.bl (bs.all id)))) : DR K (rEqB K) (.d (.tup ds)) (.d (.tup es)) Q := fun U L G v w lo sx sy H j QH q => by
  cases (sx : Rp K G v (.tup ds)) with
  | tup a1 b1 =>
    cases (sy : Rp K G w (.tup es)) with
    | tup a2 b2 =>
      obtain ⟨h1, h2, h3⟩ := cmpL_at j c b1 b2
      exact .inr (.inr ⟨_, _, _, _, bs, rfl, rfl, ex_t j.up a1, ex_t j.up a2, h1, h2, h3, q _ _ _ j ⟨Ex.refl G, .d (.bl _), Rp.bl _, k⟩⟩)
end
end
end Wp

set_option Elab.async false
set_option linter.all false
set_option maxRecDepth 100000
set_option maxHeartbeats 4000000
/-! What the walker meets: one lemma for each kind of thing. -/
namespace Wp
section
open PySem L2 Evl StX
set_option autoImplicit false
def LenE (e : E) (P : Nat → Prop) : Prop := (∃ ds, (e = .d (.lst ds) ∨ e = .d (.tup ds) ∨ e = .own ds) ∧ P ds.length) ∨ DcE e fun m => P m.length
def SqE (e : E) (P : List D → Prop) : Prop := ∃ ds, (e = .d (.lst ds) ∨ e = .d (.tup ds)) ∧ P ds
def LsE (e : E) (P : List D → Prop) : Prop := (∃ ds, (e = .d (.lst ds) ∨ e = .d (.tup ds) ∨ e = .own ds) ∧ P ds) ∨ DcE e fun m => P (m.map fun p => kD p.1)
def RvE (e : E) (P : E → Prop) : Prop := (∃ ds, e = .d (.lst ds) ∧ P (.d (.lst ds.reverse))) ∨ (∃ ds, e = .own ds ∧ P (.d (.lst ds.reverse))) ∨ ∃ ds, e = .d (.tup ds) ∧ P (.d (.tup ds.reverse))
def TrE (e : E) (P : Bool → Prop) : Prop := DD e fun d => ∃ b, truD d = some b ∧ P b
section
variable {P : Nat → Prop} {PL : List D → Prop} {PE' : E → Prop} {PB : Bool → Prop} {ds : List D} {m : List (Key × D)} {α : Type} {f : α → D} {xs : List α} {mm : List (Int × α)}
theorem len_l (h : P ds.length) : LenE (.d (.lst ds)) P := .inl ⟨ds, .inl rfl, h⟩
theorem len_t (h : P ds.length) : LenE (.d (.tup ds)) P := .inl ⟨ds, .inr (.inl rfl), h⟩
theorem len_o (h : P ds.length) : LenE (.own ds) P := .inl ⟨ds, .inr (.inr rfl), h⟩
theorem len_lM (h : P xs.length) : LenE (.d (.lst (xs.map f))) P := len_l (by rw [List.length_map]; exact h)
theorem len_tM (h : P xs.length) : LenE (.d (.tup (xs.map f))) P := len_t (by rw [List.length_map]; exact h)
theorem len_oM (h : P xs.length) : LenE (.own (xs.map f)) P := len_o (by rw [List.length_map]; exact h)
theorem len_d (h : P m.length) : LenE (.d (.dc m)) P := .inr (dce_d h)
theorem len_m (h : P m.length) : LenE (.dm m) P := .inr (dce_o h)
theorem len_dM (h : P mm.length) : LenE (.d (.dc (mM f mm))) P := len_d (by rw [mM_len]; exact h)
theorem len_mM (h : P mm.length) : LenE (.dm (mM f mm)) P := len_m (by rw [mM_len]; exact h)
theorem sq_l (h : PL ds) : SqE (.d (.lst ds)) PL := ⟨ds, .inl rfl, h⟩
theorem sq_t (h : PL ds) : SqE (.d (.tup ds)) PL := ⟨ds, .inr rfl, h⟩
theorem ls_l (h : PL ds) : LsE (.d (.lst ds)) PL := .inl ⟨ds, .inl rfl, h⟩
theorem ls_t (h : PL ds) : LsE (.d (.tup ds)) PL := .inl ⟨ds, .inr (.inl rfl), h⟩
theorem ls_o (h : PL ds) : LsE (.own ds) PL := .inl ⟨ds, .inr (.inr rfl), h⟩
theorem ls_d (h : PL (m.map fun p => kD p.1)) : LsE (.d (.dc m)) PL := .inr (dce_d h)
theorem ls_m (h : PL (m.map fun p => kD p.1)) : LsE (.dm m) PL := .inr (dce_o h)
theorem kD_mM : (mM f mm).map (fun p => kD p.1) = (mm.map (·.1)).map D.int := by unfold mM; rw [List.map_map, List.map_map]; rfl
theorem ls_dM (h : PL ((mm.map (·.1)).map D.int)) : LsE (.d (.dc (mM f mm))) PL := ls_d (by rw [kD_mM]; exact h)
theorem ls_mM (h : PL ((mm.map (·.1)).map D.int)) : LsE (.dm (mM f mm)) PL := ls_m (by rw [kD_mM]; exact h)
theorem rv_l (h : PE' (.d (.lst ds.reverse))) : RvE (.d (.lst ds)) PE' := .inl ⟨ds, rfl, h⟩
theorem rv_o (h : PE' (.d (.lst ds.reverse))) : RvE (.own ds) PE' := .inr (.inl ⟨ds, rfl, h⟩)
theorem rv_t (h : PE' (.d (.tup ds.reverse))) : RvE (.d (.tup ds)) PE' := .inr (.inr ⟨ds, rfl, h⟩)
theorem rv_lM (h : PE' (.d (.lst (xs.reverse.map f)))) : RvE (.d (.lst (xs.map f))) PE' := rv_l (by rw [← List.map_reverse]; exact h)
theorem rv_oM (h : PE' (.d (.lst (xs.reverse.map f)))) : RvE (.own (xs.map f)) PE' := rv_o (by rw [← List.map_reverse]; exact h)
theorem rv_tM (h : PE' (.d (.tup (xs.reverse.map f)))) : RvE (.d (.tup (xs.map f))) PE' := rv_t (by rw [← List.map_reverse]; exact h)
theorem tr_n (h : PB false) : TrE (.d .non) PB := ⟨_, rfl, false, rfl, h⟩
theorem tr_b {b : Bool} (h : PB b) : TrE (.d (.bl b)) PB := ⟨_, rfl, b, rfl, h⟩
theorem tr_i {i : Int} (h : PB (i != 0)) : TrE (.d (.int i)) PB := ⟨_, rfl, _, rfl, h⟩
theorem tr_l (h : PB (!ds.isEmpty)) : TrE (.d (.lst ds)) PB := ⟨_, rfl, _, rfl, h⟩
theorem tr_t (h : PB (!ds.isEmpty)) : TrE (.d (.tup ds)) PB := ⟨_, rfl, _, rfl, h⟩
theorem tr_lM (h : PB (!xs.isEmpty)) : TrE (.d (.lst (xs.map f))) PB := tr_l (by rw [List.isEmpty_map]; exact h)
theorem tr_tM (h : PB (!xs.isEmpty)) : TrE (.d (.tup (xs.map f))) PB := tr_t (by rw [List.isEmpty_map]; exact h)
end
section
variable {K : PySem.W.Frag} {ρ : List E} {te td ty tx ta tb tl : TE} {tas : TA} {tt : TT} {g : TG} {ts : TS} {vs : List Nat} {N B C : List E → Prop} {R : D → Prop} {QN P : List D → Prop} {Q : E → Prop} {QM : List (Key × D) → Prop} {QT : Bool → Prop} {x y : E}
theorem de_len (h : DE K te ρ fun x => LenE x fun n => Q (.d (.int (n : Nat)))) : DE K (tCB (rLenA K) (tCons te tNil)) ρ Q := de_lenA fun U σ L G o => (h U σ L G o).w fun v G1 ⟨e1, x, sx, hx⟩ => ⟨e1, x, sx, hx⟩
theorem di_sq' (h : DE K tl ρ fun e => SqE e P) : DI K (iSq K tl) ρ P := di_sq h
theorem dn_list (h : DE K te ρ fun x => LsE x QN) : DN K (tCB (rListA K) (tCons te tNil)) ρ QN := dn_listA h
theorem de_rev (h : DE K te ρ fun x => RvE x Q) : DE K (tRevS K te) ρ Q := de_revS h
theorem dt_tru (h : DE K te ρ fun x => TrE x QT) : DT K (tTruQ K te) ρ QT := dt_truth h
theorem de_or (h : DE K ta ρ fun x => DD x fun d => ∃ b, truD d = some b ∧ if b = true then Q (.d d) else DE K tb ρ Q) : DE K (tOrT K ta tb) ρ Q := de_orT h
/-! ### items and slices of the def's own lists -/
theorem dr_ixSO {ds : List D} {i : Int} (h : ∃ d, atI ds i = some d ∧ Q (.d d)) : DR K (rIxS K) (.own ds) (.d (.int i)) Q := fun U L G v w lo sx sy H j QH q => .inl (dr_ixO h U L G v w lo sx sy H j QH q)
theorem dsl_SO {ds : List D} {lo hi : Option Int} (k : Q (.d (.lst (cutO ds lo hi)))) : DSl K (rSlS K) (.own ds) lo hi Q := fun U L G v lo' sx H j QH q => .inl (dsl_O k U L G v lo' sx H j QH q)
theorem dn_sl {tl th : TO} (h : DE K te ρ fun x => DO K tl ρ fun l => DO K th ρ fun u => ∃ ds, x = .d (.lst ds) ∧ QN (cutO ds l u)) : DN K (tSl (rSlS K) te tl th) ρ QN := fun U σ L G o H j QH q =>
  h U σ L G o H j _ fun v H1 G1 j1 ⟨e1, x, sx, hx⟩ => hx U σ L G1 (o.mono e1) H1 j1 _ fun l H2 G2 j2 ⟨e2, h2⟩ => h2 U σ L G2 (o.mono (e1.trans e2)) H2 j2 _ fun u H3 G3 j3 ⟨e3, ds, ed, k⟩ => by
    subst ed
    cases ((sx.mono e2).mono e3 : Rp K G3 v (.lst ds)) with
    | lst a b => exact .inl (rm_slL (sq_of a) (fun p G' n e g => ⟨p, _, _, G3, rfl, (e1.trans e2).trans e3, n, e, g, b.cut l u, k⟩) H3 j3 QH q)
theorem dr_eqBI {i j : Int} (k : Q (.d (.bl (decide (i = j))))) : DR K (rEqB K) (.d (.int i)) (.d (.int j)) Q := dr_eqB' (dr_eqI k)
theorem dr_neBI {i j : Int} (k : Q (.d (.bl (!decide (i = j))))) : DR K (rNeB K) (.d (.int i)) (.d (.int j)) Q := dr_neB' (dr_neI k)
theorem dr_eqBS {i j : Str} (k : Q (.d (.bl (decide (i = j))))) : DR K (rEqB K) (.d (.str i)) (.d (.str j)) Q := dr_eqB' (dr_eqS k)
theorem dr_neBS {i j : Str} (k : Q (.d (.bl (!decide (i = j))))) : DR K (rNeB K) (.d (.str i)) (.d (.str j)) Q := dr_neB' (dr_neS k)
theorem dr_eqBB {i j : Bool} (k : Q (.d (.bl (decide (i = j))))) : DR K (rEqB K) (.d (.bl i)) (.d (.bl j)) Q := dr_eqB' (dr_eqB k)
theorem dr_neBB {i j : Bool} (k : Q (.d (.bl (!decide (i = j))))) : DR K (rNeB K) (.d (.bl i)) (.d (.bl j)) Q := dr_neB' (dr_neB k)
theorem dr_eqBdd {m n : List (Int × Int)} (k : Q (.d (.bl (meq m n)))) : DR K (rEqB K) (.d (.dc (mI m))) (.d (.dc (mI n))) Q := dr_eqBM (.inl rfl) (.inl rfl) k
theorem dr_neBdd {m n : List (Int × Int)} (k : Q (.d (.bl (!meq m n)))) : DR K (rNeB K) (.d (.dc (mI m))) (.d (.dc (mI n))) Q := dr_neBM (.inl rfl) (.inl rfl) k
/-- data, told by something that is theirs: two of one kind, compared by what they are made of -/
theorem dr_eqBX {d e : D} (b : Bool) (hb : b = true ↔ d = e) (hd : d.plain = true) (he : e.plain = true) (sd : d.dep ≤ 60) (se : e.dep ≤ 60) (k : Q (.d (.bl b))) : DR K (rEqB K) (.d d) (.d e) Q := dr_eqBD (dr_eqD b hb hd he sd se k)
theorem dr_neBX {d e : D} (b : Bool) (hb : b = true ↔ d = e) (hd : d.plain = true) (he : e.plain = true) (sd : d.dep ≤ 60) (se : e.dep ≤ 60) (k : Q (.d (.bl (!b)))) : DR K (rNeB K) (.d d) (.d e) Q := dr_neBD (dr_neD b hb hd he sd se k)
/-! ### an item at a drawn place -/
section
variable {n : Int} {PD : D → Prop} {a b c d e f g h : Int}
theorem at_some {ds : List D} (h0 : 0 ≤ n) (h1 : n < ds.length) (k : ∀ d ∈ ds, PD d) : ∃ d, atI ds n = some d ∧ PD d := by
  obtain ⟨m, rfl⟩ := Int.eq_ofNat_of_zero_le h0
  have hm : m < ds.length := by omega
  exact ⟨ds[m], atI_nat (List.getElem?_eq_getElem hm), k _ (List.getElem_mem hm)⟩
theorem pick2 (h0 : 0 ≤ n) (h1 : n < 2) (k : ∀ m, m = a ∨ m = b → PD (.int m)) : ∃ d, atI [.int a, .int b] n = some d ∧ PD d := at_some h0 (by simpa using h1) fun d hd => by
  simp at hd; rcases hd with rfl | rfl <;> exact k _ (by simp)
theorem pick3 (h0 : 0 ≤ n) (h1 : n < 3) (k : ∀ m, m = a ∨ m = b ∨ m = c → PD (.int m)) : ∃ d, atI [.int a, .int b, .int c] n = some d ∧ PD d := at_some h0 (by simpa using h1) fun d hd => by
  simp at hd; rcases hd with rfl | rfl | rfl <;> exact k _ (by simp)
theorem pick4 (h0 : 0 ≤ n) (h1 : n < 4) (k : ∀ m, m = a ∨ m = b ∨ m = c ∨ m = d → PD (.int m)) : ∃ d', atI [.int a, .int b, .int c, .int d] n = some d' ∧ PD d' := at_some h0 (by simpa using h1) fun d hd => by
  simp at hd; rcases hd with rfl | rfl | rfl | rfl <;> exact k _ (by simp)
theorem pick5 (h0 : 0 ≤ n) (h1 : n < 5) (k : ∀ m, m = a ∨ m = b ∨ m = c ∨ m = d ∨ m = e → PD (.int m)) : ∃ d', atI [.int a, .int b, .int c, .int d, .int e] n = some d' ∧ PD d' := at_some h0 (by simpa using h1) fun d hd => by
  simp at hd; rcases hd with rfl | rfl | rfl | rfl | rfl <;> exact k _ (by simp)
theorem pick8 (h0 : 0 ≤ n) (h1 : n < 8) {a' : Int} (k : ∀ m, m = a ∨ m = b ∨ m = c ∨ m = d ∨ m = e ∨ m = f ∨ m = g ∨ m = a' → PD (.int m)) : ∃ d', atI [.int a, .int b, .int c, .int d, .int e, .int f, .int g, .int a'] n = some d' ∧ PD d' := at_some h0 (by simpa using h1) fun d hd => by
  simp at hd; rcases hd with rfl | rfl | rfl | rfl | rfl | rfl | rfl | rfl <;> exact k _ (by simp)
theorem pickI {ns : List Int} (h0 : 0 ≤ n) (h1 : n < ns.length) (k : ∀ m, m ∈ ns → PD (.int m)) : ∃ d, atI (ns.map D.int) n = some d ∧ PD d := at_some h0 (by rw [List.length_map]; exact h1) fun d hd => by
  obtain ⟨m, hm, rfl⟩ := List.mem_map.mp hd; exact k m hm
theorem pickM {α : Type} {fd : α → D} {ns : List α} (h0 : 0 ≤ n) (h1 : n < ns.length) (k : ∀ m, m ∈ ns → PD (fd m)) : ∃ d, atI (ns.map fd) n = some d ∧ PD d := at_some h0 (by rw [List.length_map]; exact h1) fun d hd => by
  obtain ⟨m, hm, rfl⟩ := List.mem_map.mp hd; exact k m hm
end
theorem get_some {α : Type} {f : α → D} {m : List (Int × α)} {k : Int} {v : α} {PD : D → Prop} (h : getP m k = some v) (q : PD (f v)) : ∃ d, getP (mM f m) (.inl k) = some d ∧ PD d := ⟨f v, by rw [get_mM, h]; rfl, q⟩
/-! ### min of a dict's keys, of a list -/
def rMinA (K : PySem.W.Frag) : List V → Hp → VK → Prop := fun xs H Q => rMin K xs H Q ∨ ∃ (a : Addr) (kvs : List (Key × V)) (ks : List Int), xs = [.ref a] ∧ Rd H a (.dK kvs) ∧ kvs.map (·.1) = ks.map Sum.inl ∧ 0 < ks.length ∧ ∀ m, m ∈ ks → (∀ y ∈ ks, m ≤ y) → Q (.int m) H
theorem kr_minA {X : Cx} (h : X.K = K := by rfl) (hc : X.calm = true := by rfl) : CallR X (.builtin "min") (rMinA K) := by
  subst h
  refine CallR.or (cr_min hc) fun pins s σ H xs us Q I r hq => ?_
  obtain ⟨a, kvs, ks, rfl, hd, hks, hne, q⟩ := hq
  rw [Vals.ref1 r]
  obtain ⟨_, hsys, ws, rel, dof⟩ := dk_rd I.hok hd
  obtain ⟨ep, dat⟩ := dof.dictAt
  have hkw : ws.map (·.1) = ks.map Sum.inl := rel.keys.symm.trans hks
  have hl : ws.length = ks.length := by have e := congrArg List.length hkw; rwa [List.length_map, List.length_map] at e
  have hval : ∀ (i : Nat) (v : Value), (∃ k x, ws[i]? = some (k, x) ∧ (mixKind X.prog X.w).is k v = true) → ∃ t, v = Value.int (ks.getD i 0) t := fun i v ⟨k, x, hk, hv⟩ => by
    have e3 : (ws.map (·.1))[i]? = some k := by rw [List.getElem?_map, hk]; rfl
    rw [hkw, List.getElem?_map] at e3
    obtain ⟨y, hy, e5⟩ := Option.map_eq_some_iff.mp e3
    subst e5
    rcases keyIs_shape (show keyIs (Sum.inl y) v = true from hv) with ⟨i', t, ek, ev⟩ | ⟨z, t, ek, ev⟩
    · cases ek; exact ⟨t, by rw [ev, List.getD_eq_getElem?_getD, hy]; rfl⟩
    · cases ek
  have hlt : a < s.heap.objs.size := by obtain ⟨ob, es, ho, _⟩ := dat; exact Heap.lt_size ho
  refine call_min_walk (wpAny_pyIter_dict hsys dat ⟨_, _, _, _, _, _, _, rfl, Walks.dictKeys (knd := mixKind X.prog X.w) (A := X.A.in1) (I.ok.hd hc) s.heap.objs.size a (Nat.ne_of_lt hlt) ws ep, ⟨⟨_, Heap.get?_push_size _ rfl, rfl, rfl⟩, dat.keep fun b u e => Heap.get?_push_of_some _ e⟩, fun b hb => ?_, by omega, CmpOf.ints_lt (fun i => ks.getD i 0) hval, fun v h' tk hP hk => ?_⟩)
  · show b < (s.heap.push _).objs.size
    rw [Heap.size_push]
    rcases List.mem_cons.mp hb with e | hb
    · rw [e]; exact Nat.lt_succ_self _
    · rw [show b = a from List.mem_singleton.mp hb]; exact Nat.lt_succ_of_lt hlt
  · obtain ⟨t, rfl⟩ := hval _ v hP
    obtain ⟨b1, b2⟩ := argBest_lt (fun i => ks.getD i 0) (ws.length - 1)
    have at' : ∀ i, i < ks.length → ks[i]? = some (ks.getD i 0) := fun i hi => by rw [List.getD_eq_getElem?_getD, List.getElem?_eq_getElem hi]; rfl
    refine ⟨.int _, H, I.kept (t' := tk) fun b u e => hk b u (fun hmem => ?_) (Heap.get?_push_of_some _ e), ⟨t, rfl⟩, q _ (List.mem_of_getElem? (at' _ (by omega))) fun j hj => ?_⟩
    · have e1 : b = s.heap.objs.size := List.mem_singleton.mp hmem
      have e2 := Heap.lt_size e
      rw [e1] at e2
      exact Nat.lt_irrefl _ e2
    · obtain ⟨i, hi, e⟩ := List.mem_iff_getElem.mp hj
      have e2 : ks.getD i 0 = j := by rw [List.getD_eq_getElem?_getD, List.getElem?_eq_getElem hi, ← e]; rfl
      rw [← e2]
      exact b2 i (by omega)
theorem de_minD {α : Type} {f : α → D} (h : DE K te ρ fun x => ∃ m : List (Int × α), (x = .d (.dc (mM f m)) ∨ x = .dm (mM f m)) ∧ 0 < m.length ∧ ∀ k, k ∈ m.map (·.1) → (∀ y ∈ m.map (·.1), k ≤ y) → Q (.d (.int k))) : DE K (tCB (rMinA K) (tCons te tNil)) ρ Q := fun U σ L G o H j QH q =>
  h U σ L G o H j _ fun v H1 G1 j1 ⟨e1, x, sx, m, hx, hl, k⟩ => by
    obtain ⟨a, kvs, rfl, r, kr, nd⟩ := slot_dc hx sx j1
    exact .inr ⟨a, kvs, m.map (·.1), rfl, r, by rw [kr.1, mM_keys], by rw [List.length_map]; exact hl, fun n hn hy => q _ _ _ j1 ⟨e1, .d (.int n), Rp.int _, k n hn hy⟩⟩
end
end
end Wp

set_option Elab.async false
set_option linter.all false
set_option maxRecDepth 100000
set_option maxHeartbeats 4000000
namespace Wp
section
open PySem L2 Evl StX PySem.Spec
set_option autoImplicit false
/-! ### (a, b, ..) = a list or a tuple -/
def gSq (K : PySem.W.Frag) (n : Nat) (t : TGs) : TG := fun v σ H Q => gTup K n t v σ H Q ∨ gUnl K n t v σ H Q
theorem kg_sq {X : Cx} {K : PySem.W.Frag} {es : List Expr} {k n : Nat} {t : TGs} {pos : Pos} (hc : X.calm = true) (h : PGs X es t) (hn : (assignEach es X.env).length = n := by rfl) (hst : (assignEach es X.env).findIdx? (·.1) = none := by rfl) (hk : X.K = K := by rfl) : PG X (.Tuple es k pos) (gSq K n t) := by
  subst hk
  exact ⟨fun pins s σ H v u Q I r hh => hh.elim ((pg_tup hc h hn hst).run pins s σ H v u Q I r) ((pg_unl hc h hn hst).run pins s σ H v u Q I r)⟩
variable {K : PySem.W.Frag} {ρ : List E} {gs : TGs} {ds : List D} {N : List E → Prop} {Q : E → Prop}
theorem dg_sqT {n : Nat} (hl : ds.length = n) (k : DGs K gs ds ρ N) : DG K (gSq K n gs) (.d (.tup ds)) ρ N := fun U σ L G v o s => by
  cases (s : Rp K G v (.tup ds)) with
  | tup a b => exact fun H j QH q => .inl (gm_tup a (by rw [b.len]; exact hl) (k U σ L G _ o b) H j QH q)
theorem dg_sqL {n : Nat} (hl : ds.length = n) (k : DGs K gs ds ρ N) : DG K (gSq K n gs) (.d (.lst ds)) ρ N := fun U σ L G v o s => by
  cases (s : Rp K G v (.lst ds)) with
  | lst a b => exact fun H j QH q => .inr ⟨_, _, rfl, sq_of (j.up _ _ a), by rw [b.len]; exact hl, k U σ L G _ o b H j QH q⟩
/-! ### among ints -/
theorem in_ints (i : Int) (ns : List Int) : inV (.int i) (ns.map V.int) = decide (i ∈ ns) := by
  unfold inV
  rw [List.any_map, Bool.eq_iff_iff, List.any_eq_true, decide_eq_true_eq]
  constructor
  · rintro ⟨x, hx, e⟩
    rw [show i = x from (eq_of_beq (show (x == i) = true from e)).symm]; exact hx
  · exact fun h => ⟨i, h, show (i == i) = true by simp⟩
theorem dr_inI {neg : Bool} {i : Int} {ns : List Int} {d : D} (hd : d = .tup (ns.map D.int) ∨ d = .lst (ns.map D.int)) (k : Q (.d (.bl (if neg then !decide (i ∈ ns) else decide (i ∈ ns))))) : DR K (rIn K neg) (.d (.int i)) (.d d) Q := fun U L G v w lo sx sy H j QH q => by
  cases (sx : Rp K G v (.int i))
  have hfl : (ns.map V.int).all flatV = true := by rw [List.all_map]; exact List.all_eq_true.mpr fun _ _ => rfl
  rcases hd with rfl | rfl
  · cases (sy : Rp K G w (.tup (ns.map D.int))) with
    | tup a b =>
      rw [rpa_ints b] at a
      exact ⟨_, _, rfl, .inr (ex_t j.up a), rfl, hfl, q _ _ _ j ⟨Ex.refl G, .d (.bl _), Rp.bl _, by rw [in_ints]; exact k⟩⟩
  · cases (sy : Rp K G w (.lst (ns.map D.int))) with
    | lst a b =>
      rw [rpa_ints b] at a
      exact ⟨_, _, rfl, .inl (sq_of (j.up _ _ a)), rfl, hfl, q _ _ _ j ⟨Ex.refl G, .d (.bl _), Rp.bl _, by rw [in_ints]; exact k⟩⟩
/-! ### the def's own dict or list, lent while something is counted -/
theorem J.same {U : Vx} {L L' : Ow} {H G : Hp} (j : J (U.hides L) H G) (h : ∀ p, p ∈ L ↔ p ∈ L') : J (U.hides L') H G := by
  refine ⟨j.up, j.keep, j.new, ⟨j.hid.1, fun p hp => j.hid.2 p ((h p).mpr hp)⟩, fun a ma => j.msk a ?_⟩
  rcases ma with ma | ⟨o, ma⟩
  · exact .inl ma
  · exact .inr ⟨o, (h _).mpr ma⟩
theorem own_back {U : Vx} {L : Ow} {a : Addr} {u : HO} (lo : LOk U L) (hm : (a, HI.ex u) ∈ L) : ∀ p, p ∈ (a, HI.ex u) :: L.filter (fun p => decide (p.1 ≠ a)) ↔ p ∈ L := fun p => by
  constructor
  · intro h
    rcases List.mem_cons.mp h with rfl | h
    · exact hm
    · exact (List.mem_filter.mp h).1
  · intro h
    by_cases z : p.1 = a
    · obtain ⟨b, x⟩ := p
      dsimp only at z
      subst z
      rw [lo.fn _ _ _ h hm]
      exact List.mem_cons_self
    · exact List.mem_cons_of_mem _ (List.mem_filter.mpr ⟨h, by simpa using z⟩)
theorem de_lendD {te : TE} {i : Nat} {m : List (Key × D)} {ρ' : List E} (hi : ρ[i]? = some (.dm m)) (hr : ρ.set i (.d (.dc m)) = ρ') (h : DE K te ρ' fun y => ∃ n : Int, y = .d (.int n) ∧ Q (.d (.int n))) : DE K te ρ Q := fun U σ L G o H j QH q => by
  obtain ⟨v, h3, a, vs, rfl, hm, hk, hnd, k⟩ := o.at hi rfl
  have na : G a = none := (j.msk a (.inr ⟨_, hm⟩)).1
  have e : Ex G (upd G a (.dK vs)) := Ex.new na
  obtain ⟨n1, n2, n3⟩ := o.lo.nm _ hm
  subst hr
  refine h U σ _ _ (o.shown hi rfl dic1 h3 hm na fun x => .dct (.inl upd_same) hk hnd (k.mono x)) H (j.show hm n1 n2) QH fun v H1 G1 j1 ⟨e1, y, sy, n, ey, k2⟩ => ?_
  have g1 : G1 a = some (.dK vs) := e1 _ _ upd_same
  have j2 := (j1.own (I := .ex (.dK vs)) g1 rfl n3).same (own_back o.lo hm)
  subst ey
  cases (sy : Rp K G1 v (.int n))
  exact q _ _ _ j2 ⟨woEx na (e.trans e1), .d (.int n), Rp.int _, k2⟩
/-! ### a def that returns its own list of ints -/
def KO (U : Vx) (rt : VK) (G : Hp) (R : List Int → Prop) : Prop := ∀ a qs L' G', R qs → G a = none → U.Ge a = none → G' a = some (.lst (qs.map V.int)) → Ex G G' → LOk U L' → KV (U.hides L') rt (.ref a) G'
def DSO (K : PySem.W.Frag) (ts : TS) (ρ : List E) (R : List Int → Prop) : Prop := ∀ U σ L G (Dn : Ends), EnvOk K U ρ σ L G → KO U Dn.rt G R → SM (U.hides L) ts Dn σ G
theorem KO.mono {U : Vx} {rt : VK} {G G' : Hp} {R : List Int → Prop} (h : KO U rt G R) (e : Ex G G') : KO U rt G' R := fun a qs L' G2 r n n' g e2 lo => h a qs L' G2 r (none_of_ex e n) n' g (e.trans e2) lo
theorem dso_seq {t1 t2 : TS} {R : List Int → Prop} (h : DS K t1 ρ (fun ρ' => DSO K t2 ρ' R) (fun _ => False) (fun _ => False) (fun _ => False)) : DSO K (tSeq t1 t2) ρ R := fun U σ L G Dn o r =>
  sm_seq (h U σ L G ⟨t2 Dn, Dn.rt, Dn.bk, Dn.ct⟩ o (fun ρ' σ' L' G' k o' e => fun H j => k U σ' L' G' Dn o' (r.mono e) H j) (fun _ _ _ _ z => z.elim) (fun _ _ _ _ z => z.elim) (fun _ _ _ _ z => z.elim))
theorem dso_ret {i : Nat} {R : List Int → Prop} (h : ∃ qs, ρ[i]? = some (.own (qs.map D.int)) ∧ R qs) : DSO K (tRet (tVar i)) ρ R := fun U σ L G Dn o r H j => by
  obtain ⟨qs, h1, h2⟩ := h
  obtain ⟨v, h3, a, vs, rfl, hm, b⟩ := o.at h1 rfl
  have na : G a = none := (j.msk a (.inr ⟨_, hm⟩)).1
  obtain ⟨n1, n2, n3⟩ := o.lo.nm _ hm
  have o2 := o.shown h1 rfl own1 h3 hm na fun x => .lst upd_same (b.mono x)
  have ev := rpa_ints b
  subst ev
  exact ⟨_, h3, r a qs _ _ h2 na n3 upd_same (Ex.new na) o2.lo H (j.show hm n1 n2)⟩
def spSN {α : Type} (K : PySem.W.Frag) (args : α → List D) (pre : α → Prop) (R : α → List Int → Prop) : Sp := spSA K (fun (x : α × Hp) vs G => x.2 = G ∧ RpA K G vs (args x.1) ∧ pre x.1) (fun x v G' => ∃ p qs, v = .ref p ∧ x.2 p = none ∧ G' p = some (.lst (qs.map V.int)) ∧ R x.1 qs)
section
variable {α : Type} {args : α → List D} {pre : α → Prop} {R : α → List Int → Prop}
theorem len_sN {vs : List V} {H : Hp} {QV : VK} {E' : XK} {n : Nat} (h : spSN K args pre R vs H QV E') (hn : ∀ x, (args x).length + 2 = n) : vs.length = n := by
  obtain ⟨⟨x, G0⟩, st, sc, ns, rest, G, rfl, _, _, _, _, ⟨_, s, p⟩, q⟩ := h
  rw [List.length_cons, List.length_cons, s.len, hn]
theorem env_draw {N : List Str} {st sc : Addr} {ns : List Int} {rest : List V} {ds : List D} {H G : Hp} (s : RpA K G rest ds) (hsc : SqL K G sc (ns.map V.int)) : EnvOk K (VS st H G) (.st :: .sc :: (ds.map E.d ++ List.replicate (N.length - ds.length - 2) E.any)) (L2.start N (.ref st :: .ref sc :: rest)) [] G := by
  have o := start_env (K := K) (N := N.drop 2) (U := V0 H G) (Ex.refl G) s
  have hl : L2.start N (.ref st :: .ref sc :: rest) = some (.ref st) :: some (.ref sc) :: (rest.map some ++ List.replicate (N.length - (rest.length + 2)) none) := rfl
  have e1 : L2.start (N.drop 2) rest = rest.map some ++ List.replicate (N.length - (rest.length + 2)) none := by
    unfold L2.start; rw [List.length_drop]; congr 2; omega
  have e2 : ds.map E.d ++ List.replicate (N.length - ds.length - 2) E.any = ds.map E.d ++ List.replicate ((N.drop 2).length - ds.length) E.any := by
    rw [List.length_drop]; congr 2; omega
  rw [hl, ← e1, e2]
  refine env_flat (by rw [List.length_cons, List.length_cons, o.len]; rfl) (fun i e h => ?_) (Ex.refl G)
  match i with
  | 0 => cases h; exact ⟨_, rfl, .inr ⟨_, rfl, rfl, st, rfl, VS.draw⟩⟩
  | 1 => cases h; exact ⟨_, rfl, .inr ⟨_, rfl, rfl, sc, ns, rfl, hsc⟩⟩
  | i + 2 =>
    obtain ⟨fp, of⟩ := o.fs
    obtain ⟨u, h1, h2⟩ := of.sl i e h
    refine ⟨u, h1, h2.elim (fun z => .inl z.1) fun ⟨v, h3, h4⟩ => ?_⟩
    have hm : e ∈ ds.map E.d ++ List.replicate ((N.drop 2).length - ds.length) E.any := List.mem_of_getElem? h
    cases e with
    | any => exact .inl rfl
    | d d => exact .inr ⟨v, h3, rfl, h4.slot⟩
    | _ => simp at hm
theorem fn_sN {N : List Str} {ts : TS} {vs : List V} {H : Hp} {QV : VK} {E' : XK} (h : spSN K args pre R vs H QV E') (hb : ∀ x, pre x → DSO K ts (.st :: .sc :: ((args x).map E.d ++ List.replicate (N.length - (args x).length - 2) E.any)) (R x)) : ts { nx := fun _ H' => QV .non H', rt := QV } (L2.start N vs) H := by
  obtain ⟨⟨x, G0⟩, st, sc, ns, rest, G, rfl, hst, gst, e0, hsc, ⟨eg, s, p⟩, q⟩ := h
  dsimp only at eg s p
  subst eg
  refine hb x p (VS st H G0) _ [] G0 ⟨fun _ H' => QV .non H', QV, fun _ _ => False, fun _ _ => False⟩ (env_draw s hsc) (fun a qs L' G' r n n' g e lo H' j => ?_) H (VS.start hst gst e0).hides_nil
  exact kv_s (p := fun v G' => ∃ p qs, v = .ref p ∧ G0 p = none ∧ G' p = some (.lst (qs.map V.int)) ∧ R x qs) (Q := QV) (fun v H' G' a b c dd ee ff g => q v H' G' a b c dd ee ff g) e ⟨a, qs, rfl, n, g, r⟩ H' j.unhides
theorem dn_callSN {i j : Nat} {tr : TA} {E' : XK} {QN : List D → Prop} (h1 : ρ[i]? = some .st) (h2 : ρ[j]? = some .sc) (h : DA K tr ρ fun ds => ∃ x, ds = args x ∧ pre x ∧ ∀ qs, R x qs → QN (qs.map D.int)) : DN K (tCall (spSN K args pre R) [] E' (tCons (tVar i) (tCons (tVar j) tr))) ρ QN := fun U σ L G o => by
  obtain ⟨v, h3, a, rfl, hd⟩ := o.at h1 rfl
  obtain ⟨w, h4, b, ns, rfl, hs⟩ := o.at h2 rfl
  refine em_call (am_cons (em_var h3 (am_cons (em_var h4 ((h U σ L G o).w fun vs G1 ⟨e1, ds, sd, x, ed, p, k⟩ => ?_)))))
  subst ed
  exact cm_sa (x, G1) (hd.hides o.lo) (ex_l e1 hs) ⟨rfl, sd, p⟩ fun v G3 e3 ⟨pp, qs, ev, np, gp, r⟩ => ⟨pp, _, _, G1, ev, e1, np, e3, gp, rpa_mkI qs, k qs r⟩
end
end
end Wp

set_option Elab.async false
set_option linter.all false
set_option maxRecDepth 100000
set_option maxHeartbeats 4000000
/-! sum(d.values()). -/
namespace Wp
section
open PySem L2 Evl StX PySem.Spec PyProof.Rows
set_option autoImplicit false
variable {K : PySem.W.Frag}
theorem sum_src {prog : Program} {w : World} {A : Around} {E : Value → Shared → Prop} {s : Shared} {T : String} {r d : Addr} {n : Nat} {P : Nat → Value → Prop} {OK : Heap → Prop} {Q : Value → Shared → Prop} (Ks : PySem.W.KdlSrc prog w T r d n P OK) (hh : A.handled = none) (hok : OK s.heap) (val : Nat → Int) (hval : ∀ (i : Nat) (v : Value), P i v → ∃ t : Tok, v = Value.int (val i) t)
    (h : ∀ (h' : Heap) (tk : Nat) (t' : Tok), (∀ b o, s.heap.get? b = some o → h'.get? b = some o) → Q (.int (preSum val n) t') { s with heap := h', toks := tk }) :
    wpAny (model prog w) A (call (.builtin "sum") [.ref r]) Q E s := by
  refine call_sum_walkAnyS ?_
  obtain ⟨oI, St, hit, W, st⟩ := Ks.iter A.in1 s hh hok
  refine hit _ _ ⟨s.heap.objs.size, _, _, _, n, P, _, val, rfl, W.toS, st, fun b hb => ?_, hval, fun s' t' hm => ?_⟩
  · show b < (s.heap.push oI).objs.size
    rw [Heap.size_push]
    rcases List.mem_cons.mp hb with e | hb
    · rw [e]; exact Nat.lt_succ_self _
    · rw [List.mem_singleton.mp hb]; exact Nat.lt_succ_of_lt (Ks.there _ hok).2
  · have hk : ∀ b o, s.heap.get? b = some o → s'.heap.get? b = some o := fun b o e =>
      hm.heap b o (fun hI => absurd (Heap.lt_size e) (by rw [List.mem_singleton.mp hI]; exact Nat.lt_irrefl _)) (Heap.get?_push_of_some _ e)
    rw [Moved.eq_with hm]
    exact h s'.heap s'.toks t' hk
theorem preSum_ints (f : Nat → Int) : ∀ (ns : List Int), (∀ i n, ns[i]? = some n → f i = n) → preSum f ns.length = ns.sum := by
  intro ns
  induction ns generalizing f with
  | nil => intro _; rfl
  | cons n ns ih =>
    intro h
    rw [List.length_cons, PySem.W.kdu_shift, ih (fun i => f (i + 1)) fun i m hm => h (i + 1) m (by simpa using hm), h 0 n rfl, List.sum_cons]
def tSumV (te : TE) : TE := fun σ H Q => te σ H fun x H1 => ∃ (d : Addr) (kvs : List (Key × V)) (ns : List Int), x = .ref d ∧ Rd H1 d (.dK kvs) ∧ kvs.map (·.2) = ns.map V.int ∧ Q (.int ns.sum) H1
theorem pe_sumV {X : Cx} {te : TE} {e : Expr} {p apos cpos pos : Pos} (he : PE X e te) (hg : Gl X "sum") (hm : X.mg "sum" = none) (hc : X.calm = true := by rfl) (hv : bootBuiltins "sum" = some (.builtin "sum") := by decide +kernel) (hbase : attributeBase e "values" X.env (eval e X.env) = eval e X.env := by rfl) (hline : (apos.endLine == cpos.line) = true := by rfl)
    (hs : starEach [.Call (.Attribute e "values" apos) [] [] cpos] X.env = (false, eval (.Call (.Attribute e "values" apos) [] [] cpos) X.env) :: starEach [] X.env := by rfl) :
    PE X (.Call (.Name "sum" p) [.Call (.Attribute e "values" apos) [] [] cpos] [] pos) (tSumV te) := by
  refine ⟨fun pins s σ H Q I hq => wpAny_Call_Name_kw (ld_blt I hg hm hv (PyProof.Rows.callWith_builtin1 ?_ hs rfl))⟩
  rw [hs]
  refine Calls.spliced_cons (wpAny_Call_method (T := "dict") (id := "dict.values") hbase rfl hline F.plainAttrs_dict F.slot_dict_values F.type_dict_values (thn (he.run pins s σ H _ I hq) fun u s1 ⟨x, H1, I1, rx, d, kvs, ns, ex, hd, hns, q⟩ => ?_))
  subst ex
  obtain rfl : u = Value.ref d := rx
  obtain ⟨hz, hsm, ws, kv, hdo⟩ := dk_rd I1.hok hd
  obtain ⟨ep, hat⟩ := hdo.dictAt
  have lk : kvs.length = ws.length := Paired.length kv
  have I2 : L2.Inv X pins σ H1 { s1 with heap := s1.heap.push { cls := .type "dict_values", data := .fields #[.ref d] } } := I1.kept (t' := s1.toks) fun b ob z => Heap.get?_push_of_some _ z
  refine ⟨hdo.typeIs, hdo.mapOf.noDict, method_meetsIn F.slot_dict_values F.entry_dict_values rfl (PySem.evalArgs_none ⟨rfl, hdo.typeIs, F.args_dict_values_1 _, _, meets_dict_values (mixKind X.prog X.w) d hsm, ⟨ws, hdo⟩, Calls.spliced_nil ?_⟩)⟩
  have hat' : ∀ (i : Nat) (v : Value) (k : Key), ws[i]? = some (k, v) → ∃ t, v = Value.int (ns.getD i 0) t := fun i v k hi => by
    obtain ⟨x, hx, rx⟩ := kv.at' hi
    have h2 : (kvs.map (·.2))[i]? = some x := by rw [List.getElem?_map, hx]; rfl
    rw [hns, List.getElem?_map] at h2
    obtain ⟨n, hn, rfl⟩ := Option.map_eq_some_iff.mp h2
    obtain ⟨t, ht⟩ := (show RelV (.int n) v from rx)
    exact ⟨t, by rw [ht, List.getD_eq_getElem?_getD, hn]; rfl⟩
  have ln : ns.length = ws.length := by
    have := congrArg List.length hns
    rw [List.length_map, List.length_map] at this
    omega
  refine sum_src (PySem.W.kdl_values (knd := mixKind X.prog X.w) (kvs := ws) (ep := ep)) (I1.ok.hd hc) ⟨⟨_, Heap.get?_push_size _ rfl, rfl, rfl⟩, hat.push _⟩ (fun i => ns.getD i 0) (fun i v ⟨k, hk⟩ => hat' i v k hk) fun h' tk t' hk => ?_
  have e : preSum (fun i => ns.getD i 0) ws.length = ns.sum := by
    rw [← ln]
    exact preSum_ints _ ns fun i n h => by rw [List.getD_eq_getElem?_getD, h]; rfl
  rw [e]
  exact ⟨.int _, H1, I2.kept (t' := tk) hk, ⟨_, rfl⟩, q⟩
theorem de_sumV {te : TE} {ρ : List E} {Q : E → Prop} (h : DE K te ρ fun x => ∃ m : List (Int × Int), (x = .d (.dc (mI m)) ∨ x = .dm (mI m)) ∧ Q (.d (.int (m.map (·.2)).sum))) : DE K (tSumV te) ρ Q := fun U σ L G o H j QH q =>
  h U σ L G o H j _ fun v H1 G1 j1 ⟨e1, x, sx, m, hx, k⟩ => by
    obtain ⟨a, kvs, rfl, r, kr, nd⟩ := slot_dc hx sx j1
    refine ⟨a, kvs, m.map (·.2), rfl, r, ?_, q _ _ _ j1 ⟨e1, .d (.int _), Rp.int _, k⟩⟩
    rw [kvr_iV kr, List.map_map, List.map_map]
    rfl
end
end Wp

set_option Elab.async false
set_option linter.all false
set_option maxRecDepth 100000
set_option maxHeartbeats 4000000
/-! Own things at an address that is known: handed to a def that changes them. -/
namespace Wp
section
open PySem L2 Evl StX
set_option autoImplicit false
variable {K : PySem.W.Frag} {ρ : List E} {te tv tk ty tx : TE} {ta tas : TA} {tt : TT} {g : TG} {ts t1 t2 : TS} {N B C : List E → Prop} {Rr : D → Prop} {Q : E → Prop}
/-- a statement that is never reached -/
def tDead : TS := fun _ _ _ => False
theorem ps_dead {X : Cx} {st : Stmt} : PS X st tDead := ⟨fun _ _ _ _ _ _ h => h.elim⟩
theorem ks_fld {X : Cx} {o value : Expr} {f : Str} {pos pos' : Pos} {ta tv : TE} (ha : PE X o ta) (hv : PE X value tv) (hs : swapsWith value (some (.Attribute o f pos')) pos.line X.env = pure false) (h : X.K = K := by rfl) : PS X (.Assign [.Attribute o f pos'] value pos) (sFld K ta tv f) := by subst h; exact ps_fld ha hv hs
theorem ks_fldaug {X : Cx} {o value : Expr} {f : Str} {pos tpos : Pos} {ta tv : TE} {op : Operator} {rd : V → V → Hp → VK → Prop} (ha : PE X o ta) (hv : PE X value tv) (hop : InOp X op rd) (h : X.K = K := by rfl) : PS X (.AugAssign (.Attribute o f tpos) op value pos) (sFldAug K ta tv rd f) := by subst h; exact ps_fldaug ha hv hop
abbrev OD.dm (m : List (Key × D)) : OD := .dct (m.map (·.1)) (m.map (·.2))
section
variable {U : Vx} {σ : L2.St} {L : Ow} {G H : Hp}
theorem EnvOk.oa (o : EnvOk K U ρ σ L G) {i : Nat} {a : Addr} {w : OD} (hi : ρ[i]? = some (.oa a w)) : ∃ u, σ[i]? = some (some (.ref a)) ∧ (a, HI.ex u) ∈ L ∧ ODr K G w u := by
  obtain ⟨v, h1, rfl, u, m, r⟩ := o.at hi rfl
  exact ⟨u, h1, m, r⟩
end
/-! ### fields -/
theorem de_fldO {i : Nat} {f : Str} (h : ∃ a C ks ds d, ρ[i]? = some (.oa a (.ins C ks ds)) ∧ Cls K C ∧ NoAttr K C f ∧ (ks.zip ds).lookup f = some d ∧ Q (.d d)) : DE K (tFld K (tVar i) f) ρ Q := fun U σ L G o H j QH q => by
  obtain ⟨a, C, ks, ds, d, hi, c, n, l, k⟩ := h
  obtain ⟨u, h1, m, r⟩ := o.oa hi
  cases r with
  | ins e b =>
    subst e
    obtain ⟨w, h2, h3⟩ := lk_of b l
    exact ⟨_, h1, a, C, _, _, w, rfl, j.at m, c, n, h2, q _ _ _ j ⟨Ex.refl G, .d d, h3, k⟩⟩
def putD (f : Str) (d : D) : List (Str × D) → List (Str × D)
  | [] => [(f, d)]
  | (g, x) :: r => if g = f then (g, d) :: r else (g, x) :: putD f d r
theorem putF_len (f : Str) (v : V) : ∀ fs : List (Str × V), (putF f v fs).length ≤ fs.length + 1
  | [] => Nat.le_refl _
  | (g, x) :: r => by
    unfold putF
    split
    · simp
    · have := putF_len f v r; simp; exact this
theorem put_of {F : Hp} {f : Str} {v : V} {d : D} (hv : Rp K F v d) : ∀ {fvs : List (Str × V)} {ds : List D}, RpA K F (fvs.map (·.2)) ds →
    (putF f v fvs).map (·.1) = (putD f d ((fvs.map (·.1)).zip ds)).map (·.1) ∧ RpA K F ((putF f v fvs).map (·.2)) ((putD f d ((fvs.map (·.1)).zip ds)).map (·.2))
  | [], ds, h => by cases h; exact ⟨rfl, .cons hv .nil⟩
  | (g, x) :: r, ds, h => by
    cases h with
    | @cons _ _ d0 ds a b =>
      show (putF f v ((g, x) :: r)).map (·.1) = (putD f d ((g, d0) :: ((r.map (·.1)).zip ds))).map (·.1) ∧ RpA K F ((putF f v ((g, x) :: r)).map (·.2)) ((putD f d ((g, d0) :: ((r.map (·.1)).zip ds))).map (·.2))
      have hz : (r.map (·.1)).length = ds.length := by rw [List.length_map]; have := b.len; rwa [List.length_map] at this
      unfold putF putD
      by_cases z : g = f
      · rw [if_pos z, if_pos z]
        refine ⟨?_, ?_⟩
        · show g :: r.map (·.1) = g :: ((r.map (·.1)).zip ds).map (·.1)
          rw [List.map_fst_zip (by omega)]
        · show RpA K F (v :: r.map (·.2)) (d :: ((r.map (·.1)).zip ds).map (·.2))
          rw [List.map_snd_zip (by omega)]
          exact .cons hv b
      · rw [if_neg z, if_neg z]
        obtain ⟨h1, h2⟩ := put_of (f := f) hv b
        exact ⟨congrArg (g :: ·) h1, .cons a h2⟩
/-- what an object is behind the setting of a field -/
def InsTo (C : Addr) (ks : List Str) (ds : List D) (f : Str) (d : D) (P : OD → Prop) : Prop := ∃ ks' ds', (putD f d (ks.zip ds)).map (·.1) = ks' ∧ (putD f d (ks.zip ds)).map (·.2) = ds' ∧ P (.ins C ks' ds')
theorem putD_new {f : Str} {d : D} : ∀ {ks : List Str} {ds : List D}, f ∉ ks → ks.length = ds.length → putD f d (ks.zip ds) = (ks ++ [f]).zip (ds ++ [d])
  | [], [], _, _ => rfl
  | k :: ks, e :: ds, h, hl => by
    have h1 : k ≠ f := fun z => h (by rw [z]; exact List.mem_cons_self)
    show putD f d ((k, e) :: ks.zip ds) = (k, e) :: (ks ++ [f]).zip (ds ++ [d])
    rw [putD, if_neg h1, putD_new (fun z => h (List.mem_cons_of_mem _ z)) (by simpa using hl)]
theorem putD_at {f : Str} {d : D} : ∀ {ks : List Str} {ds : List D} (i : Nat), ks[i]? = some f → f ∉ ks.take i → ks.length = ds.length → putD f d (ks.zip ds) = ks.zip (ds.set i d)
  | [], _, i, h, _, _ => by simp at h
  | k :: ks, [], i, _, _, hl => by simp at hl
  | k :: ks, e :: ds, 0, h, _, _ => by
    simp at h; subst h
    show putD k d ((k, e) :: ks.zip ds) = (k, d) :: ks.zip ds
    rw [putD, if_pos rfl]
  | k :: ks, e :: ds, i + 1, h, hn, hl => by
    have h1 : k ≠ f := fun z => hn (by rw [z]; exact List.mem_cons_self)
    show putD f d ((k, e) :: ks.zip ds) = (k, e) :: ks.zip (ds.set i d)
    rw [putD, if_neg h1, putD_at i (by simpa using h) (fun z => hn (List.mem_cons_of_mem _ z)) (by simpa using hl)]
theorem insTo_new {C : Addr} {ks ks' : List Str} {ds ds' : List D} {f : Str} {d : D} {P : OD → Prop} (hn : f ∉ ks) (hl : ks.length = ds.length) (e1 : ks ++ [f] = ks') (e2 : ds ++ [d] = ds') (k : P (.ins C ks' ds')) : InsTo C ks ds f d P := by
  subst e1 e2
  refine ⟨_, _, ?_, ?_, k⟩ <;> rw [putD_new hn hl]
  · rw [List.map_fst_zip (by simp [hl])]
  · rw [List.map_snd_zip (by simp [hl])]
theorem insTo_at {C : Addr} {ks : List Str} {ds ds' : List D} {f : Str} {d : D} {P : OD → Prop} (i : Nat) (hi : ks[i]? = some f) (hn : f ∉ ks.take i) (hl : ks.length = ds.length) (e2 : ds.set i d = ds') (k : P (.ins C ks ds')) : InsTo C ks ds f d P := by
  subst e2
  refine ⟨_, _, ?_, ?_, k⟩ <;> rw [putD_at i hi hn hl]
  · rw [List.map_fst_zip (by simp [hl])]
  · rw [List.map_snd_zip (by simp [hl])]
theorem ds_fldO {i : Nat} {f : Str} (h : DE K tv ρ fun y => DD y fun d => ∃ a C ks ds, ρ[i]? = some (.oa a (.ins C ks ds)) ∧ Cls K C ∧ NoAttr K C f ∧ ks.length < 999 ∧ InsTo C ks ds f d fun w => SetTo ρ i (.oa a w) N) : DS K (sFld K (tVar i) tv f) ρ N B C Rr := fun U σ L G Dn o n b c r H j => by
  refine h U σ L G o H j _ fun y H1 G1 j1 ⟨e1, x, sx, d, ed, a, C, ks, ds, hi, cl, na, hl, ks', ds', hk, hd, ρ', hr, kn⟩ => ?_
  subst ed hr hk hd
  have o1 := o.mono e1
  obtain ⟨u, h1, m, r⟩ := o1.oa hi
  obtain ⟨n1, n2, _⟩ := o1.lo.nm _ m
  cases r with
  | @ins _ dx fvs _ _ e bb =>
    subst e
    obtain ⟨p1, p2⟩ := put_of (f := f) (d := d) (v := y) sx bb
    exact ⟨_, h1, a, C, dx, fvs, rfl, j1.at m, cl, na, by rw [List.length_map] at hl; omega, n _ _ _ _ kn (o1.chg hi rfl oa1 h1 m (.oa (mem_setO_self m) (.ins p1 p2))) e1 _ (j1.chg m rfl n1 n2)⟩
theorem ds_fldaugO {i : Nat} {f : Str} (h : ∃ a C ks ds n, ρ[i]? = some (.oa a (.ins C ks ds)) ∧ Cls K C ∧ NoAttr K C f ∧ (ks.zip ds).lookup f = some (.int n) ∧ ks.length < 999 ∧ DE K tv ρ fun y => IE y fun m => InsTo C ks ds f (.int (n + m)) fun w => SetTo ρ i (.oa a w) N) : DS K (sFldAug K (tVar i) tv rAdd f) ρ N B C Rr := fun U σ L G Dn o n b c r H j => by
  obtain ⟨a, C, ks, ds, nn, hi, cl, na, hlk, hl, h⟩ := h
  obtain ⟨u0, h1, m0, r0⟩ := o.oa hi
  cases r0 with
  | @ins _ dx fvs _ _ e bb =>
    subst e
    obtain ⟨w, h2, h3⟩ := lk_of bb hlk
    cases h3
    refine ⟨_, h1, a, C, dx, fvs, _, rfl, j.at m0, cl, na, h2, h U σ L G o H j _ fun y H1 G1 j1 ⟨e1, x, sx, mm, em, ks', ds', hk, hd, ρ', hr, kn⟩ => ?_⟩
    subst em hr hk hd
    cases (sx : Rp K G1 y (.int mm))
    have o1 := o.mono e1
    obtain ⟨n1, n2, _⟩ := o1.lo.nm _ m0
    obtain ⟨p1, p2⟩ := put_of (K := K) (F := G1) (f := f) (d := .int (nn + mm)) (v := .int (nn + mm)) (.int _) (bb.mono e1)
    exact ⟨nn, mm, rfl, rfl, dx, fvs, j1.at m0, by rw [List.length_map] at hl; omega, n _ _ _ _ kn (o1.chg hi rfl oa1 h1 m0 (.oa (mem_setO_self m0) (.ins p1 p2))) e1 _ (j1.chg m0 rfl n1 n2)⟩
/-! ### its own dict -/
theorem ds_dputA {i : Nat} (h : DE K tx ρ fun z => DD z fun dz => ∃ a m, ρ[i]? = some (.oa a (.dm m)) ∧ DE K ty ρ fun y => KyE y fun k => m.length < 16000000 ∧ SetTo ρ i (.oa a (.dm (putP m k dz))) N) : DS K (sDPut (tVar i) ty tx) ρ N B C Rr := fun U σ L G Dn o n b c r H j => by
  refine h U σ L G o H j _ fun w H1 G1 j1 ⟨e1, x, sx, d, ed, a, m, hi, k2⟩ => ?_
  obtain ⟨u, h3, hm, hr0⟩ := (o.mono e1).oa hi
  obtain ⟨n1, n2, _⟩ := o.lo.nm _ hm
  cases hr0 with
  | @dct kvs _ _ hk hn k =>
    refine ⟨_, h3, k2 U σ L G1 (o.mono e1) H1 j1 _ fun y H2 G2 j2 ⟨e2, z, sz, key, em, hz, ρ', hr, kn⟩ => ?_⟩
    subst ed em hr
    have kr : KvR K G2 kvs m := ⟨hk, k.mono e2⟩
    have kr' := kr.put (k := key) (SlotV.mono sx e2 : Rp K G2 w d)
    refine ⟨a, _, rfl, .inl ⟨kvs, key, j2.at hm, kD_of sz, by rw [kr.len]; exact Nat.lt_of_lt_of_le hz (by decide), rfl⟩, ?_⟩
    exact n _ _ _ _ kn ((o.mono (e1.trans e2)).chg hi rfl oa1 h3 hm (.oa (mem_setO_self hm) (.dct kr'.1 (putP_nodup (by rw [← hk] at hn ⊢; exact hn)) kr'.2))) (e1.trans e2) _ (j2.chg hm rfl n1 n2)
/-! ### names of addresses come and go -/
theorem EnvOk.nameL {U : Vx} {σ : L2.St} {L : Ow} {G : Hp} (o : EnvOk K U ρ σ L G) {i : Nat} {ds : List D} (hi : ρ[i]? = some (.own ds)) : ∃ a, EnvOk K U (ρ.set i (.oa a (.lst ds))) σ L G := by
  obtain ⟨v, F, h1, h2, h3, h4⟩ := o.upd hi rfl
  cases h2 with
  | @own a vs _ m r => exact ⟨a, h4 L G _ [a] (Ex.refl G) (fun _ _ h => h) (fun _ _ _ h => h) o.lo (.oa m (.lst r)) (by simp) (fun _ h => .inl h)⟩
theorem EnvOk.nameD {U : Vx} {σ : L2.St} {L : Ow} {G : Hp} (o : EnvOk K U ρ σ L G) {i : Nat} {ks : List Key} {ds : List D} (hi : ρ[i]? = some (.dic ks ds)) : ∃ a, EnvOk K U (ρ.set i (.oa a (.dct ks ds))) σ L G := by
  obtain ⟨v, F, h1, h2, h3, h4⟩ := o.upd hi rfl
  cases h2 with
  | @dic a kvs _ _ m k n r => exact ⟨a, h4 L G _ [a] (Ex.refl G) (fun _ _ h => h) (fun _ _ _ h => h) o.lo (.oa m (.dct k n r)) (by simp) (fun _ h => .inl h)⟩
theorem EnvOk.unL {U : Vx} {σ : L2.St} {L : Ow} {G : Hp} (o : EnvOk K U ρ σ L G) {i : Nat} {a : Addr} {ds : List D} (hi : ρ[i]? = some (.oa a (.lst ds))) : EnvOk K U (ρ.set i (.own ds)) σ L G := by
  obtain ⟨v, F, h1, h2, h3, h4⟩ := o.upd hi rfl
  cases h2 with
  | oa m r =>
    cases r with
    | lst r => exact h4 L G _ [a] (Ex.refl G) (fun _ _ h => h) (fun _ _ _ h => h) o.lo (.own m r) (by simp) (fun _ h => .inl h)
theorem EnvOk.unD {U : Vx} {σ : L2.St} {L : Ow} {G : Hp} (o : EnvOk K U ρ σ L G) {i : Nat} {a : Addr} {ks : List Key} {ds : List D} (hi : ρ[i]? = some (.oa a (.dct ks ds))) : EnvOk K U (ρ.set i (.dic ks ds)) σ L G := by
  obtain ⟨v, F, h1, h2, h3, h4⟩ := o.upd hi rfl
  cases h2 with
  | oa m r =>
    cases r with
    | dct k n r => exact h4 L G _ [a] (Ex.refl G) (fun _ _ h => h) (fun _ _ _ h => h) o.lo (.dic m k n r) (by simp) (fun _ h => .inl h)
theorem ds_nameL (i : Nat) {ds : List D} (hi : ρ[i]? = some (.own ds)) (h : ∀ a ρ', ρ.set i (.oa a (.lst ds)) = ρ' → DS K ts ρ' N B C Rr) : DS K ts ρ N B C Rr := fun U σ L G Dn o n b c r H j =>
  let ⟨a, o'⟩ := o.nameL hi; h a _ rfl U σ L G Dn o' n b c r H j
theorem ds_nameD (i : Nat) {ks : List Key} {ds : List D} (hi : ρ[i]? = some (.dic ks ds)) (h : ∀ a ρ', ρ.set i (.oa a (.dct ks ds)) = ρ' → DS K ts ρ' N B C Rr) : DS K ts ρ N B C Rr := fun U σ L G Dn o n b c r H j =>
  let ⟨a, o'⟩ := o.nameD hi; h a _ rfl U σ L G Dn o' n b c r H j
theorem ds_unL (i : Nat) {a : Addr} {ds : List D} {ρ' : List E} (hi : ρ[i]? = some (.oa a (.lst ds))) (hr : ρ.set i (.own ds) = ρ') (h : DS K ts ρ' N B C Rr) : DS K ts ρ N B C Rr := fun U σ L G Dn o n b c r H j => by
  subst hr; exact h U σ L G Dn (o.unL hi) n b c r H j
theorem ds_unD (i : Nat) {a : Addr} {ks : List Key} {ds : List D} {ρ' : List E} (hi : ρ[i]? = some (.oa a (.dct ks ds))) (hr : ρ.set i (.dic ks ds) = ρ') (h : DS K ts ρ' N B C Rr) : DS K ts ρ N B C Rr := fun U σ L G Dn o n b c r H j => by
  subst hr; exact h U σ L G Dn (o.unD hi) n b c r H j
/-- the def's own object is a datum from here on -/
theorem ds_freezeO (i : Nat) {a : Addr} {Cc : Addr} {ks : List Str} {ds : List D} {ρ' : List E} (hi : ρ[i]? = some (.oa a (.ins Cc ks ds))) (hr : ρ.set i (.d (.obj Cc ks ds)) = ρ') (h : DS K ts ρ' N B C Rr) : DS K ts ρ N B C Rr := fun U σ L G Dn o n b c r H j => by
  obtain ⟨u, h3, hm, rr⟩ := o.oa hi
  cases rr with
  | @ins _ dx fvs _ _ e k =>
    have na : G a = none := (j.msk a (.inr ⟨_, hm⟩)).1
    have ex : Ex G (upd G a (.ins Cc dx fvs)) := Ex.new na
    obtain ⟨n1, n2, _⟩ := o.lo.nm _ hm
    subst hr
    exact h U σ _ _ Dn (o.shown hi rfl oa1 h3 hm na fun x => .obj upd_same e (k.mono x)) (n.mono ex) (b.mono ex) (c.mono ex) (r.mono ex) H (j.show hm n1 n2)
/-! ### arguments of any kind -/
inductive SlotA (K : PySem.W.Frag) (U : Vx) (L : Ow) (G : Hp) : List E → List V → Prop
  | nil : SlotA K U L G [] []
  | cons {e : E} {v : V} {es : List E} {vs : List V} : SlotV K U L G e v → SlotA K U L G es vs → SlotA K U L G (e :: es) (v :: vs)
theorem SlotA.mono {U : Vx} {L : Ow} {G G' : Hp} {es : List E} {vs : List V} (h : SlotA K U L G es vs) (x : Ex G G') : SlotA K U L G' es vs := by
  induction h with
  | nil => exact .nil
  | cons a _ ih => exact .cons (a.mono x) ih
def DAE (K : PySem.W.Frag) (ta : TA) (ρ : List E) (Q : List E → Prop) : Prop := ∀ U σ L G, EnvOk K U ρ σ L G → AM (U.hides L) ta σ G fun vs G' => Ex G G' ∧ ∃ es, SlotA K U L G' es vs ∧ Q es
theorem dae_nil {QA : List E → Prop} (k : QA []) : DAE K tNil ρ QA := fun U σ L G o => am_nil ⟨Ex.refl G, [], .nil, k⟩
theorem dae_cons {QA : List E → Prop} (h : DE K te ρ fun e => DAE K ta ρ fun es => QA (e :: es)) : DAE K (tCons te ta) ρ QA := fun U σ L G o =>
  am_cons ((h U σ L G o).w fun v G1 ⟨e1, x, sx, hx⟩ => (hx U σ L G1 (o.mono e1)).w fun vs G2 ⟨e2, es, ss, q⟩ => ⟨e1.trans e2, x :: es, .cons (sx.mono e2) ss, q⟩)
theorem slotA_of {U : Vx} {L : Ow} {G : Hp} : ∀ {ds : List D} {vs : List V}, RpA K G vs ds → SlotA K U L G (ds.map E.d) vs
  | [], vs, h => by cases h; exact .nil
  | d :: ds, vs, h => by cases h with | cons a b => exact .cons a (slotA_of b)
theorem slotA_split {U : Vx} {L : Ow} {G : Hp} {e : E} : ∀ {d1 d2 : List D} {vs : List V}, SlotA K U L G (d1.map E.d ++ e :: d2.map E.d) vs → ∃ v1 v v2, vs = v1 ++ v :: v2 ∧ RpA K G v1 d1 ∧ SlotV K U L G e v ∧ RpA K G v2 d2
  | [], d2, vs, h => by
    cases h with
    | @cons _ v _ vs a b =>
      have z : ∀ {d2 : List D} {vs : List V}, SlotA K U L G (d2.map E.d) vs → RpA K G vs d2 := by
        intro d2
        induction d2 with
        | nil => intro vs h; cases h; exact .nil
        | cons d d2 ih => intro vs h; cases h with | cons a b => exact .cons a (ih b)
      exact ⟨[], v, vs, rfl, .nil, a, z b⟩
  | d :: d1, d2, vs, h => by
    cases h with
    | @cons _ v _ vs a b =>
      obtain ⟨v1, u, v2, rfl, h1, h2, h3⟩ := slotA_split b
      exact ⟨v :: v1, u, v2, rfl, .cons a h1, h2, h3⟩
/-! ### the promise of a def that is handed an own thing -/
def spO {α : Type} (K : PySem.W.Frag) (w : α → OD) (as1 as2 : α → List D) (pre : α → Prop) (R : α → D → OD → Prop) : Sp := fun vs H Q _ => ∃ (x : α) (a : Addr) (u : HO) (v1 v2 : List V) (G : Hp), vs = v1 ++ .ref a :: v2 ∧ H a = some u ∧ ODr K G (w x) u ∧ G a = none ∧ Ex G H ∧ RpA K G v1 (as1 x) ∧ RpA K G v2 (as2 x) ∧ pre x ∧
  ∀ v d w' u' H' G', (∀ b o, b ≠ a → H b = some o → H' b = some o) → H' a = some u' → ODr K G' w' u' → Ex G G' → Ex G' H' → (∀ b, G' b ≠ none → G b = none → H b = none) → G' a = none → Rp K G' v d → R x d w' → Q v H'
section
variable {α : Type} {w : α → OD} {as1 as2 : α → List D} {pre : α → Prop} {R : α → D → OD → Prop}
theorem spO_run {U : Vx} {σ : L2.St} {L : Ow} {G H : Hp} (o : EnvOk K U ρ σ L G) (j : J (U.hides L) H G) {i : Nat} {a : Addr} (x : α) (hi : ρ[i]? = some (.oa a (w x))) {v1 v2 : List V} (s1 : RpA K G v1 (as1 x)) (s2 : RpA K G v2 (as2 x)) (p : pre x) {QH : VK} {E' : XK}
    (k : ∀ v d w' L' H' G', R x d w' → EnvOk K U (ρ.set i (.oa a w')) σ L' G' → Ex G G' → Rp K G' v d → J (U.hides L') H' G' → QH v H') : spO K w as1 as2 pre R (v1 ++ .ref a :: v2) H QH E' := by
  obtain ⟨u, h1, m, r⟩ := o.oa hi
  refine ⟨x, a, u, v1, v2, G, rfl, j.at m, r, (j.msk a (.inr ⟨_, m⟩)).1, j.up, s1, s2, p, fun v d w' u' H' G' hk ha hr e1 e2 hn ga rv hR => ?_⟩
  obtain ⟨n1, n2, n3⟩ := o.lo.nm _ m
  have j1 := j.chg (o := u') (I := .ex u') m rfl n1 n2
  have j2 := j1.call (H' := H') (G' := G') (fun b o' eb => by
    by_cases z : b = a
    · subst z; rw [upd_same] at eb; rw [ha]; exact eb
    · rw [upd_ne z] at eb; exact hk b o' z eb) e2 (fun b hb hg => by
    have : b ≠ a := fun z => by subst z; exact hb ga
    rw [upd_ne this]; exact hn b hb hg)
  exact k v d w' _ H' G' hR ((o.mono e1).chg hi rfl oa1 h1 m (.oa (mem_setO_self m) hr)) e1 rv j2
/-- what is asked of a call that is handed the thing at slot i -/
def Hand (ρ : List E) (w : α → OD) (as1 as2 : α → List D) (pre : α → Prop) (R : α → D → OD → Prop) (es : List E) (P : D → List E → Prop) : Prop := ∃ x i a, ρ[i]? = some (.oa a (w x)) ∧ es = (as1 x).map E.d ++ .oa a (w x) :: (as2 x).map E.d ∧ pre x ∧ ∀ d w', R x d w' → P d (ρ.set i (.oa a w'))
theorem hand (x : α) (i : Nat) {a : Addr} {es : List E} {P : D → List E → Prop} (hi : ρ[i]? = some (.oa a (w x))) (he : es = (as1 x).map E.d ++ .oa a (w x) :: (as2 x).map E.d) (p : pre x) (k : ∀ d w', R x d w' → ∃ ρ', ρ.set i (.oa a w') = ρ' ∧ P d ρ') : Hand ρ w as1 as2 pre R es P := ⟨x, i, a, hi, he, p, fun d w' hR => let ⟨ρ', e, h⟩ := k d w' hR; e ▸ h⟩
theorem ds_asgCO {E' : XK} (h : DAE K tas ρ fun es => Hand ρ w as1 as2 pre R es fun d ρ' => DG K g (.d d) ρ' N) : DS K (tAsg (tCall (spO K w as1 as2 pre R) [] E' tas) g) ρ N B C Rr := fun U σ L G Dn o n b c r H j => by
  refine h U σ L G o H j _ fun vs H1 G1 j1 ⟨e1, es, ss, x, i, a, hi, ee, p, k⟩ => ?_
  subst ee
  obtain ⟨v1, v, v2, rfl, s1, sv, s2⟩ := slotA_split ss
  obtain ⟨rfl, _⟩ := (show v = .ref a ∧ _ from sv)
  show spO K w as1 as2 pre R ((v1 ++ .ref a :: v2) ++ []) H1 _ _
  rw [List.append_nil]
  exact spO_run (o.mono e1) j1 x hi s1 s2 p fun v d w' L' H' G' hR o' e' rv j' => k d w' hR U σ L' G' v o' rv H' j' _ fun σ2 H2 G2 j2 ⟨e2, ρ2, o2, k2⟩ => n ρ2 σ2 L' G2 k2 o2 ((e1.trans e').trans e2) H2 j2
theorem ds_asgMO {Cc : Addr} {m : Str} {E' : XK} {i : Nat} (h : ∃ a ks ds, ρ[i]? = some (.oa a (.ins Cc ks ds)) ∧ m ∉ ks ∧ DA K tas ρ fun as => Hand ρ w as1 as2 pre R (.oa a (.ins Cc ks ds) :: as.map E.d) fun d ρ' => DG K g (.d d) ρ' N) : DS K (tAsg (tMeth Cc m (spO K w as1 as2 pre R) [] E' (tVar i) tas) g) ρ N B C Rr := fun U σ L G Dn o n b c r H j => by
  obtain ⟨a, ks, ds, hi0, hm, h⟩ := h
  obtain ⟨u, h1, mm, rr⟩ := o.oa hi0
  have sl : SlotV K U L G (.oa a (.ins Cc ks ds)) (.ref a) := ⟨rfl, u, mm, rr⟩
  cases rr with
  | @ins _ dx fvs _ _ ek bb =>
    subst ek
    refine ⟨_, h1, a, dx, fvs, rfl, j.at mm, lk_none hm, h U σ L G o H j _ fun vs H1 G1 j1 ⟨e1, as, sa, x, i, a', hi, ee, p, k⟩ => ?_⟩
    have ss : SlotA K U L G1 (.oa a (.ins Cc _ ds) :: as.map E.d) (.ref a :: vs) := .cons (sl.mono e1) (slotA_of sa)
    rw [ee] at ss
    obtain ⟨v1, v, v2, ev, s1, sv, s2⟩ := slotA_split ss
    obtain ⟨rfl, _⟩ := (show v = .ref a' ∧ _ from sv)
    show spO K w as1 as2 pre R (.ref a :: (vs ++ [])) H1 _ _
    rw [List.append_nil, ev]
    exact spO_run (o.mono e1) j1 x hi s1 s2 p fun v d w' L' H' G' hR o' e' rv j' => k d w' hR U σ L' G' v o' rv H' j' _ fun σ2 H2 G2 j2 ⟨e2, ρ2, o2, k2⟩ => n ρ2 σ2 L' G2 k2 o2 ((e1.trans e').trans e2) H2 j2
end
/-! ### bodies whose end tells the slots -/
def KRX (K : PySem.W.Frag) (U : Vx) (rt : VK) (G : Hp) (R : D → List E → Prop) : Prop := ∀ d v ρ' σ' L' G', R d ρ' → Rp K G' v d → EnvOk K U ρ' σ' L' G' → Ex G G' → KV (U.hides L') rt v G'
theorem KRX.mono {U : Vx} {rt : VK} {G G' : Hp} {R : D → List E → Prop} (h : KRX K U rt G R) (e : Ex G G') : KRX K U rt G' R := fun d v ρ' σ' L' G2 r s o e2 => h d v ρ' σ' L' G2 r s o (e.trans e2)
def DSX (K : PySem.W.Frag) (ts : TS) (ρ : List E) (N : List E → Prop) (R : D → List E → Prop) : Prop := ∀ U σ L G (Dn : Ends), EnvOk K U ρ σ L G → KN K U Dn.nx G N → KRX K U Dn.rt G R → SM (U.hides L) ts Dn σ G
section
variable {R : D → List E → Prop}
theorem dsx_seq (h : DSX K t1 ρ (fun ρ' => DSX K t2 ρ' N R) R) : DSX K (tSeq t1 t2) ρ N R := fun U σ L G Dn o n r =>
  sm_seq (h U σ L G ⟨t2 Dn, Dn.rt, Dn.bk, Dn.ct⟩ o (fun ρ' σ' L' G' k o' e => fun H j => k U σ' L' G' Dn o' (n.mono e) (r.mono e) H j) r)
theorem dsx_next (k : N ρ) : DSX K tNext ρ N R := fun U σ L G Dn o n r => sm_next (n ρ σ L G k o (Ex.refl G))
theorem dsx_if (h : DT K tt ρ fun c => if c = true then DSX K t1 ρ N R else DSX K t2 ρ N R) : DSX K (tIfS tt t1 t2) ρ N R := fun U σ L G Dn o n r =>
  sm_if ((h U σ L G o).w fun x G1 ⟨e1, hb⟩ => by
    cases x with
    | true => rw [if_pos rfl] at hb ⊢; exact hb U σ L G1 Dn (o.mono e1) (n.mono e1) (r.mono e1)
    | false => rw [if_neg Bool.false_ne_true] at hb ⊢; exact hb U σ L G1 Dn (o.mono e1) (n.mono e1) (r.mono e1))
theorem dsx_ret (h : DE K te ρ fun e => DD e fun d => R d ρ) : DSX K (tRet te) ρ N R := fun U σ L G Dn o n r =>
  sm_ret ((h U σ L G o).w fun v G1 ⟨e1, x, sx, d, ed, hd⟩ => by subst ed; exact r d v ρ σ L G1 hd sx (o.mono e1) e1)
theorem dsx_retN (h : R .non ρ) : DSX K tRetN ρ N R := fun U σ L G Dn o n r => sm_retN (r .non .non ρ σ L G h .non o (Ex.refl G))
theorem dsx_thru (h : DSX K ts ρ N R) : DSX K (tCut ts) ρ N R := fun U σ L G Dn o n r H j => ⟨Dn.nx, fun _ _ z => z, h U σ L G Dn o n r H j⟩
theorem dsx_cut (P : List E → Prop) (h : DSX K ts ρ (Wk P) R) (k : ∀ ρ', P ρ' → N ρ') : DSX K (tCut ts) ρ N R := fun U σ L G Dn o n r H j =>
  ⟨fun σ' H' => ∃ ρ' L' G', P ρ' ∧ EnvOk K U ρ' σ' L' G' ∧ Ex G G' ∧ J (U.hides L') H' G', fun σ' H' ⟨ρ', L', G', p, o', e', j'⟩ => n ρ' σ' L' G' (k ρ' p) o' e' H' j',
    h U σ L G ⟨fun σ' H' => ∃ ρ' L' G', P ρ' ∧ EnvOk K U ρ' σ' L' G' ∧ Ex G G' ∧ J (U.hides L') H' G', Dn.rt, Dn.bk, Dn.ct⟩ o (fun ρ' σ' L' G' ⟨ρ2, le, p⟩ o' e H' j' => ⟨ρ2, L', G', p, o'.le le, e, j'⟩) r H j⟩
/-- a statement that returns nothing -/
theorem dsx_asg (h : DS K (tAsg te g) ρ N (fun _ => True) (fun _ => True) (fun _ => False)) : DSX K (tAsg te g) ρ N R := fun U σ L G Dn o n r H j =>
  h U σ L G ⟨Dn.nx, fun _ _ => True, fun _ _ => True, fun _ _ => True⟩ o n (fun _ _ _ _ _ _ _ _ _ => trivial) (fun _ _ _ _ _ _ _ _ _ => trivial) (fun _ _ _ _ z => z.elim) H j
theorem dsx_fld {ta : TE} {f : Str} (h : DS K (sFld K ta tv f) ρ N (fun _ => True) (fun _ => True) (fun _ => False)) : DSX K (sFld K ta tv f) ρ N R := fun U σ L G Dn o n r H j =>
  h U σ L G ⟨Dn.nx, fun _ _ => True, fun _ _ => True, fun _ _ => True⟩ o n (fun _ _ _ _ _ _ _ _ _ => trivial) (fun _ _ _ _ _ _ _ _ _ => trivial) (fun _ _ _ _ z => z.elim) H j
theorem dsx_fldaug {ta : TE} {f : Str} {rd : V → V → Hp → VK → Prop} (h : DS K (sFldAug K ta tv rd f) ρ N (fun _ => True) (fun _ => True) (fun _ => False)) : DSX K (sFldAug K ta tv rd f) ρ N R := fun U σ L G Dn o n r H j =>
  h U σ L G ⟨Dn.nx, fun _ _ => True, fun _ _ => True, fun _ _ => True⟩ o n (fun _ _ _ _ _ _ _ _ _ => trivial) (fun _ _ _ _ _ _ _ _ _ => trivial) (fun _ _ _ _ z => z.elim) H j
theorem dsx_dput {td : TE} (h : DS K (sDPut td ty tx) ρ N (fun _ => True) (fun _ => True) (fun _ => False)) : DSX K (sDPut td ty tx) ρ N R := fun U σ L G Dn o n r H j =>
  h U σ L G ⟨Dn.nx, fun _ _ => True, fun _ _ => True, fun _ _ => True⟩ o n (fun _ _ _ _ _ _ _ _ _ => trivial) (fun _ _ _ _ _ _ _ _ _ => trivial) (fun _ _ _ _ z => z.elim) H j
theorem dsx_drop (h : DS K (tDrop te) ρ N (fun _ => True) (fun _ => True) (fun _ => False)) : DSX K (tDrop te) ρ N R := fun U σ L G Dn o n r H j =>
  h U σ L G ⟨Dn.nx, fun _ _ => True, fun _ _ => True, fun _ _ => True⟩ o n (fun _ _ _ _ _ _ _ _ _ => trivial) (fun _ _ _ _ _ _ _ _ _ => trivial) (fun _ _ _ _ z => z.elim) H j
section
variable {α : Type} {w : α → OD} {as1 as2 : α → List D} {pre : α → Prop} {R' : α → D → OD → Prop}
theorem dsx_retCO {E' : XK} (h : DAE K tas ρ fun es => Hand ρ w as1 as2 pre R' es fun d ρ' => R d ρ') : DSX K (tRet (tCall (spO K w as1 as2 pre R') [] E' tas)) ρ N R := fun U σ L G Dn o n r H j => by
  refine h U σ L G o H j _ fun vs H1 G1 j1 ⟨e1, es, ss, x, i, a, hi, ee, p, k⟩ => ?_
  subst ee
  obtain ⟨v1, v, v2, rfl, s1, sv, s2⟩ := slotA_split ss
  obtain ⟨rfl, _⟩ := (show v = .ref a ∧ _ from sv)
  show spO K w as1 as2 pre R' ((v1 ++ .ref a :: v2) ++ []) H1 _ _
  rw [List.append_nil]
  exact spO_run (o.mono e1) j1 x hi s1 s2 p fun v d w' L' H' G' hR o' e' rv j' => r d v _ σ L' G' (k d w' hR) rv o' (e1.trans e') H' j'
theorem dsx_retMO {Cc : Addr} {m : Str} {E' : XK} {i : Nat} (h : ∃ a ks ds, ρ[i]? = some (.oa a (.ins Cc ks ds)) ∧ m ∉ ks ∧ DA K tas ρ fun as => Hand ρ w as1 as2 pre R' (.oa a (.ins Cc ks ds) :: as.map E.d) fun d ρ' => R d ρ') : DSX K (tRet (tMeth Cc m (spO K w as1 as2 pre R') [] E' (tVar i) tas)) ρ N R := fun U σ L G Dn o n r H j => by
  obtain ⟨a, ks, ds, hi0, hm, h⟩ := h
  obtain ⟨u, h1, mm, rr⟩ := o.oa hi0
  have sl : SlotV K U L G (.oa a (.ins Cc ks ds)) (.ref a) := ⟨rfl, u, mm, rr⟩
  cases rr with
  | @ins _ dx fvs _ _ ek bb =>
    subst ek
    refine ⟨_, h1, a, dx, fvs, rfl, j.at mm, lk_none hm, h U σ L G o H j _ fun vs H1 G1 j1 ⟨e1, as, sa, x, i, a', hi, ee, p, k⟩ => ?_⟩
    have ss : SlotA K U L G1 (.oa a (.ins Cc _ ds) :: as.map E.d) (.ref a :: vs) := .cons (sl.mono e1) (slotA_of sa)
    rw [ee] at ss
    obtain ⟨v1, v, v2, ev, s1, sv, s2⟩ := slotA_split ss
    obtain ⟨rfl, _⟩ := (show v = .ref a' ∧ _ from sv)
    show spO K w as1 as2 pre R' (.ref a :: (vs ++ [])) H1 _ _
    rw [List.append_nil, ev]
    exact spO_run (o.mono e1) j1 x hi s1 s2 p fun v d w' L' H' G' hR o' e' rv j' => r d v _ σ L' G' (k d w' hR) rv o' (e1.trans e') H' j'
end
end
/-! ### the frame of such a def -/
section
variable {α : Type} {w : α → OD} {as1 as2 : α → List D} {pre : α → Prop} {R : α → D → OD → Prop}
theorem len_oa {vs : List V} {H : Hp} {QV : VK} {E' : XK} {n : Nat} (h : spO K w as1 as2 pre R vs H QV E') (hn : ∀ x, (as1 x).length + (as2 x).length + 1 = n) : vs.length = n := by
  obtain ⟨x, a, u, v1, v2, G, rfl, _, _, _, _, s1, s2, _⟩ := h
  rw [List.length_append, List.length_cons, s1.len, s2.len, ← hn x]; omega
theorem set_self {α : Type} {xs : List α} {i : Nat} {x : α} (h : xs[i]? = some x) : xs.set i x = xs := by
  refine List.ext_getElem? fun q => ?_
  by_cases z : i = q
  · subst z; rw [List.getElem?_set_self (List.getElem?_eq_some_iff.mp h).1, h]
  · rw [List.getElem?_set_ne z]
theorem fn_o {Nm : List Str} {vs : List V} {H : Hp} {QV : VK} {E' : XK} (h : spO K w as1 as2 pre R vs H QV E')
    (hb : ∀ x a, pre x → DSX K ts ((((as1 x) ++ .adr a :: (as2 x)).map E.d ++ List.replicate (Nm.length - ((as1 x) ++ .adr a :: (as2 x)).length) E.any).set (as1 x).length (.oa a (w x))) (fun ρ' => ∃ w', ρ'[(as1 x).length]? = some (.oa a w') ∧ R x .non w') (fun d ρ' => ∃ w', ρ'[(as1 x).length]? = some (.oa a w') ∧ R x d w')) : ts { nx := fun _ H' => QV .non H', rt := QV } (L2.start Nm vs) H := by
  obtain ⟨x, a, u, v1, v2, G, rfl, ha, hr, ga, e0, s1, s2, p, q⟩ := h
  have lo : LOk (V0 (wo a H) G) [(a, HI.ex u)] := ⟨fun p hp => by
    rw [List.mem_singleton] at hp; subst hp
    exact ⟨fun z => z, wo_same, ga⟩, fun b x y h1 h2 => by
    rw [List.mem_singleton] at h1 h2; cases h1; cases h2; rfl⟩
  have j0 : J ((V0 (wo a H) G).hides [(a, HI.ex u)]) H G := ⟨e0, wo_ex, fun b q g => absurd g q, ⟨trivial, fun p hp => by
    rw [List.mem_singleton] at hp; subst hp; exact ⟨u, ha, rfl⟩⟩, fun b mb => by
    rcases mb with mb | ⟨o, mb⟩
    · exact mb.elim
    · rw [List.mem_singleton] at mb; cases mb; exact ⟨ga, by rw [ha]; exact fun q => by cases q⟩⟩
  have o := (start_env (K := K) (N := Nm) (U := V0 (wo a H) G) (Ex.refl G) (RpA.app (.cons (.adr a) s2) s1)).put (i := (as1 x).length) (L' := [(a, HI.ex u)]) (v := .ref a) (e := .oa a (w x)) (F := [a]) (Ex.refl G) (fun _ h => by simp at h) lo (.oa (by simp) hr) (by simp) (fun _ _ _ h => by simp at h)
  rw [set_self (xs := L2.start Nm (v1 ++ .ref a :: v2)) (by
    unfold L2.start
    rw [List.getElem?_append_left (by simp [s1.len]), List.getElem?_map, List.getElem?_append_right (by rw [s1.len]; exact Nat.le_refl _), s1.len, Nat.sub_self]; rfl)] at o
  have fin : ∀ d v ρ' σ' L' G' w', ρ'[(as1 x).length]? = some (.oa a w') → R x d w' → Rp K G' v d → EnvOk K (V0 (wo a H) G) ρ' σ' L' G' → Ex G G' → ∀ H', J ((V0 (wo a H) G).hides L') H' G' → QV v H' := fun d v ρ' σ' L' G' w' h1 h2 rv o' e H' j' => by
    obtain ⟨u', _, m, r⟩ := o'.oa h1
    have ga' := (j'.msk a (.inr ⟨_, m⟩)).1
    exact q v d w' u' H' G' (fun b o nb eb => j'.keep b o (by show wo a H b = some o; rw [wo_ne nb]; exact eb)) (j'.at m) r e j'.up (fun b hb hg => by
      have nb : b ≠ a := fun z => by subst z; exact hb ga'
      have hh : wo a H b = none := j'.new b hb hg
      rw [wo_ne nb] at hh; exact hh) ga' rv h2
  exact hb x a p (V0 (wo a H) G) _ _ G ⟨fun _ H' => QV .non H', QV, fun _ _ => False, fun _ _ => False⟩ o
    (fun ρ' σ' L' G' ⟨w', h1, h2⟩ o' e H' j' => fin .non .non ρ' σ' L' G' w' h1 h2 .non o' e H' j')
    (fun d v ρ' σ' L' G' ⟨w', h1, h2⟩ rv o' e H' j' => fin d v ρ' σ' L' G' w' h1 h2 rv o' e H' j') H j0
/-! ### instances -/
theorem make_run {U : Vx} {σ : L2.St} {L : Ow} {G H : Hp} (o : EnvOk K U ρ σ L G) (j : J (U.hides L) H G) (x : α) {Cc : Addr} (hw : w x = .ins Cc [] []) (ha1 : as1 x = []) {vs : List V} (s : RpA K G vs (as2 x)) (p : pre x) (hn : ∀ d w', R x d w' → d = .non) {QH : VK} {E' : XK}
    (k : ∀ a w' u' H' G', R x .non w' → G' a = none → U.Ge a = none → U.He a = none → ¬ U.m a → (∀ u, (a, u) ∉ L) → Ex G G' → ODr K G' w' u' → J (U.hides ((a, HI.ex u') :: L)) H' G' → QH (.ref a) H') :
    ∀ a dx, H a = none → H dx = none → dx ≠ a → spO K w as1 as2 pre R (.ref a :: (vs ++ [])) (upd (upd H dx (.own a)) a (.ins Cc dx [])) (fun v H2 => v = .non ∧ QH (.ref a) H2) E' := fun a dx na ndx ne => by
  rw [List.append_nil]
  have n2 : upd H dx (.own a) a = none := by rw [upd_ne (Ne.symm ne)]; exact na
  have j2 := (j.alloc (o := .own a) ndx).alloc (o := .ins Cc dx []) n2
  have ga : G a = none := j.free na
  have gdx : G dx = none := j.free ndx
  have ug : U.Ge a = none := none_of_ex o.ge ga
  have hm : ¬ U.m a := fun z => (j.msk a (.inl z)).2 na
  have hl : ∀ u, (a, u) ∉ L := fun u hu => (j.msk a (.inr ⟨_, hu⟩)).2 na
  have uh : U.He a = none := none_of_ex j.keep na
  have j3 := j2.own (p := a) (I := .ex (.ins Cc dx [])) upd_same rfl ug
  refine ⟨x, a, .ins Cc dx [], [], vs, G, rfl, upd_same, by rw [hw]; exact .ins rfl .nil, ga, fun b u e => ?_, by rw [ha1]; exact .nil, s, p, fun v d w' u' H' G' hk ha hr e1 e2 hnw ga' rv hR => ?_⟩
  · rw [upd_ne (ne_of_none e ga), upd_ne (ne_of_none e gdx)]; exact j.up b u e
  have hd := hn d w' hR
  subst hd
  cases rv
  refine ⟨rfl, ?_⟩
  have j4 := j3.chgHead (o := u') (I := .ex u') rfl (fun q hq z => hl q.2 (by rw [← z]; exact hq)) hm uh
  have j5 := j4.call (H' := H') (G' := G') (fun b o' eb => by
    by_cases z : b = a
    · subst z; rw [upd_same] at eb; rw [ha]; exact eb
    · rw [upd_ne z] at eb; exact hk b o' z eb) e2 (fun b hb hg => by
    have nb : b ≠ a := fun z => by subst z; exact hb ga'
    rw [upd_ne nb]
    rw [wo_ne nb] at hg
    refine hnw b hb ?_
    cases z : G b with
    | none => rfl
    | some u =>
      rw [upd_ne nb] at hg
      have nd : b ≠ dx := fun y => by subst y; rw [gdx] at z; cases z
      rw [upd_ne nd, z] at hg; cases hg)
  exact k a w' u' H' G' hR ga' ug uh hm hl e1 hr j5
/-- a datum -/
theorem de_makeO {Cc : Addr} {E' : XK} (hw : ∀ x, w x = .ins Cc [] []) (ha1 : ∀ x, as1 x = []) (h : DA K tas ρ fun as => ∃ x, as = as2 x ∧ pre x ∧ (∀ d w', R x d w' → d = .non) ∧ ∀ w', R x .non w' → ∃ ks ds, w' = .ins Cc ks ds ∧ Q (.d (.obj Cc ks ds))) : DE K (tMake Cc (spO K w as1 as2 pre R) [] E' tas) ρ Q := fun U σ L G o H j QH q => by
  refine h U σ L G o H j _ fun vs H1 G1 j1 ⟨e1, as, sa, x, ea, p, hn, k⟩ => ?_
  subst ea
  refine make_run (o.mono e1) j1 x (hw x) (ha1 x) sa p hn fun a w' u' H' G' hR ga ug uh hm hl e' hr j' => ?_
  obtain ⟨ks, ds, rfl, kq⟩ := k w' hR
  cases hr with
  | @ins _ dx fvs _ _ ek bb =>
    exact q _ _ _ (j'.showHead hm uh (fun q hq z => hl q.2 (by rw [← z]; exact hq))) ⟨(e1.trans e').trans (Ex.new ga), .d (.obj Cc ks ds), .obj upd_same ek (bb.mono (Ex.new ga)), kq⟩
/-- the def's own -/
theorem ds_makeO {Cc : Addr} {E' : XK} {i : Nat} (hw : ∀ x, w x = .ins Cc [] []) (ha1 : ∀ x, as1 x = []) (h : DA K tas ρ fun as => ∃ x, as = as2 x ∧ pre x ∧ (∀ d w', R x d w' → d = .non) ∧ ∀ a w', R x .non w' → SetTo ρ i (.oa a w') N) : DS K (tAsg (tMake Cc (spO K w as1 as2 pre R) [] E' tas) (gName i)) ρ N B C Rr := fun U σ L G Dn o n b c r H j => by
  refine h U σ L G o H j _ fun vs H1 G1 j1 ⟨e1, as, sa, x, ea, p, hn, k⟩ => ?_
  subst ea
  refine make_run (QH := fun v H2 => gName i v σ H2 Dn.nx) (o.mono e1) j1 x (hw x) (ha1 x) sa p hn fun a w' u' H' G' hR ga ug uh hm hl e' hr j' => ?_
  obtain ⟨ρ', er, kn⟩ := k a w' hR
  subst er
  exact n _ _ _ _ kn (((o.mono e1).mono e').put (Ex.refl _) (fun q hq => List.mem_cons_of_mem _ hq) (o.lo.cons hl hm uh ug) (.oa List.mem_cons_self hr) (by simp) (fun b hb u hu => by simp at hb; subst hb; exact hl u hu)) (e1.trans e') H' j'
end
end
end Wp

set_option Elab.async false
set_option linter.all false
set_option maxRecDepth 100000
set_option maxHeartbeats 4000000
namespace Wp
open PySem L2 Evl StX
set_option autoImplicit false
/-! ### cells: hidden places that a value leads to -/
theorem cell_hid {U : Vx} {L : Ow} {c : Addr} {I : HO → Prop} (lo : LOk U L) (h : CellOk U c I ∨ (c, HI.ce I) ∈ L) : HidOk (U.hides L) c I := by
  rcases h with ck | hm
  · refine ⟨.inl ck.m, ck.ne, fun H hI => ck.at_ H hI.1, fun H H' hI hk ho => ⟨ck.to H H' hI.1 (fun x mx nx => hk x (.inl mx) nx) ho, fun p hp => ?_⟩⟩
    obtain ⟨o, h1, h2⟩ := hI.2 p hp
    have : p.1 ≠ c := fun z => (lo.nm p hp).1 (z ▸ ck.m)
    exact ⟨o, by rw [hk _ (.inr ⟨_, hp⟩) this]; exact h1, h2⟩
  · refine ⟨.inr ⟨_, hm⟩, (lo.nm _ hm).2.1, fun H hI => hI.2 _ hm, fun H H' hI hk ho => ⟨U.st H H' hI.1 fun a ma => hk a (.inl ma) fun z => (lo.nm _ hm).1 (z ▸ ma), fun p hp => ?_⟩⟩
    by_cases z : p.1 = c
    · obtain ⟨p1, p2⟩ := p
      subst z
      have e := lo.fn _ _ _ hp hm
      subst e
      exact ho
    · obtain ⟨o, h1, h2⟩ := hI.2 p hp
      exact ⟨o, by rw [hk _ (.inr ⟨_, hp⟩) z]; exact h1, h2⟩
def CellsAt (H : Hp) (cs : Ce) : Prop := ∀ c ∈ cs, ∃ o, H c.1 = some o ∧ c.2 o
def CFn (cs : Ce) : Prop := ∀ c d, c ∈ cs → d ∈ cs → c.1 = d.1 → c.2 = d.2
theorem cfn1 (c : Addr × (HO → Prop)) : CFn [c] := fun a b ha hb _ => by rw [List.mem_singleton.mp ha, List.mem_singleton.mp hb]
theorem cfn0 : CFn [] := fun a b ha => by cases ha
def InEnv (ρ : List E) (c : Addr × (HO → Prop)) : Prop := ∃ (i : Nat) (d : D) (cs : Ce), ρ[i]? = some (E.cd d cs) ∧ c ∈ cs
theorem InEnv.ok {K : PySem.W.Frag} {U : Vx} {ρ : List E} {σ : L2.St} {L : Ow} {G : Hp} {c : Addr × (HO → Prop)} (o : EnvOk K U ρ σ L G) (h : InEnv ρ c) : CellOk U c.1 c.2 ∨ (c.1, HI.ce c.2) ∈ L := by
  obtain ⟨i, d, cs, hi, hc⟩ := h
  obtain ⟨v, h3, h4, h5⟩ := o.at hi rfl
  exact h5 c hc
def spC {α : Type} (K : PySem.W.Frag) (args : α → List D) (cells : α → Ce) (pre : α → Prop) (R : α → D → Ce → Prop) : Sp := fun vs H Q _ => ∃ (x : α) (G : Hp), CellsAt H (cells x) ∧ (∀ c ∈ cells x, G c.1 = none) ∧ CFn (cells x) ∧ Ex G H ∧ RpA K G vs (args x) ∧ pre x ∧
  ∀ v H' G' d ns, (∀ y u, (∀ c ∈ cells x, y ≠ c.1) → H y = some u → H' y = some u) → CellsAt H' (cells x) → CellsAt H' ns → (∀ c ∈ ns, H c.1 = none ∧ G' c.1 = none) → CFn ns → Ex G G' → Ex G' H' → (∀ a, G' a ≠ none → G a = none → H a = none) → (∀ c ∈ cells x, G' c.1 = none) → R x d ns → Rp K G' v d → Q v H'
open Classical in
noncomputable def wos (cs : Ce) (H : Hp) : Hp := fun a => if ∃ c ∈ cs, a = c.1 then none else H a
theorem wos_in {cs : Ce} {H : Hp} {c : Addr × (HO → Prop)} (h : c ∈ cs) : wos cs H c.1 = none := by unfold wos; rw [if_pos ⟨c, h, rfl⟩]
theorem wos_ne {cs : Ce} {H : Hp} {a : Addr} (h : ∀ c ∈ cs, a ≠ c.1) : wos cs H a = H a := by unfold wos; rw [if_neg fun ⟨c, hc, e⟩ => h c hc e]
theorem wos_some {cs : Ce} {H : Hp} {a : Addr} {u : HO} (h : wos cs H a = some u) : (∀ c ∈ cs, a ≠ c.1) ∧ H a = some u := by
  have n : ∀ c ∈ cs, a ≠ c.1 := fun c hc e => by rw [e, wos_in hc] at h; cases h
  exact ⟨n, by rw [wos_ne n] at h; exact h⟩
noncomputable def VC (cs : Ce) (H G : Hp) : Vx := ⟨wos cs H, G, fun H' => CellsAt H' cs, fun a => ∃ c ∈ cs, a = c.1, fun H1 H2 h k c hc => by obtain ⟨o, h1, h2⟩ := h c hc; exact ⟨o, by rw [k _ ⟨c, hc, rfl⟩]; exact h1, h2⟩⟩
theorem VC.cell {cs : Ce} {H G : Hp} (fn : CFn cs) {c : Addr × (HO → Prop)} (hc : c ∈ cs) : CellOk (VC cs H G) c.1 c.2 :=
  ⟨⟨c, hc, rfl⟩, wos_in hc, fun H' h => h c hc, fun H1 H2 h k ho d hd => by
    by_cases z : d.1 = c.1
    · rw [z, fn d c hd hc z]; exact ho
    · obtain ⟨o, h1, h2⟩ := h d hd
      exact ⟨o, by rw [k _ ⟨d, hd, rfl⟩ z]; exact h1, h2⟩⟩
theorem VC.start {cs : Ce} {H G : Hp} (h : CellsAt H cs) (g : ∀ c ∈ cs, G c.1 = none) (e : Ex G H) : J (VC cs H G) H G := ⟨e, fun a u q => (wos_some q).2, fun x q z => absurd z q, h, fun a ⟨c, hc, ea⟩ => by
  subst ea
  obtain ⟨o, h1, _⟩ := h c hc
  exact ⟨g c hc, by rw [h1]; exact fun q => by cases q⟩⟩
theorem cells_to {U : Vx} {H' : Hp} : ∀ (cs : Ce) (H : Hp), (∀ c ∈ cs, HidOk U c.1 c.2) → U.I H → (∀ x, U.m x → (∀ c ∈ cs, x ≠ c.1) → H' x = H x) → CellsAt H' cs → U.I H'
  | [], H, _, i, k, _ => U.st H H' i fun a ma => k a ma (fun c hc => by cases hc)
  | c :: cs, H, d, i, k, h => by
    classical
    obtain ⟨H1, e1⟩ : ∃ H1 : Hp, H1 = fun a => if a = c.1 then H' a else H a := ⟨_, rfl⟩
    have i1 : U.I H1 := (d c List.mem_cons_self).to H H1 i (fun x _ nx => by rw [e1]; exact if_neg nx) (by
      obtain ⟨o, h1, h2⟩ := h c List.mem_cons_self
      exact ⟨o, by rw [e1]; show (if c.1 = c.1 then H' c.1 else H c.1) = _; rw [if_pos rfl]; exact h1, h2⟩)
    refine cells_to cs H1 (fun c' hc' => d c' (List.mem_cons_of_mem _ hc')) i1 (fun x mx nx => ?_) (fun c' hc' => h c' (List.mem_cons_of_mem _ hc'))
    rw [e1]
    show H' x = if x = c.1 then H' x else H x
    by_cases z : x = c.1
    · rw [if_pos z]
    · rw [if_neg z]
      exact k x mx fun c' hc' => by
        rcases List.mem_cons.mp hc' with e | hc'
        · rw [e]; exact z
        · exact nx c' hc'
theorem J.cells_call {U : Vx} {H G H' G' : Hp} {cs : Ce} (d : ∀ c ∈ cs, HidOk U c.1 c.2) (j : J U H G) (hx : ∀ y u, (∀ c ∈ cs, y ≠ c.1) → H y = some u → H' y = some u) (hc : CellsAt H' cs) (e2 : Ex G' H') (hn : ∀ x, G' x ≠ none → G x = none → H x = none) : J U H' G' where
  up := e2
  keep := fun x o ex => hx x o (fun c hc' z => by rw [z, (d c hc').ne] at ex; cases ex) (j.keep x o ex)
  new := fun x z g => by
    cases w : G x with
    | none => exact none_of_ex j.keep (hn x z w)
    | some o => exact j.new x (by rw [w]; exact fun q => by cases q) g
  hid := cells_to cs H d j.hid (fun x mx nx => by
    cases z : H x with
    | none => exact absurd z (j.msk x mx).2
    | some o => exact hx x o nx z) hc
  msk := fun x mx => by
    obtain ⟨g, h⟩ := j.msk x mx
    refine ⟨by
      cases z : G' x with
      | none => rfl
      | some o => exact absurd (hn x (by rw [z]; exact fun q => by cases q) g) h, fun z => ?_⟩
    by_cases m : ∃ c ∈ cs, x = c.1
    · obtain ⟨c, hcm, e⟩ := m
      obtain ⟨o, h1, _⟩ := hc c hcm
      rw [e, h1] at z; cases z
    · cases w : H x with
      | none => exact h w
      | some o => rw [hx x o (fun c hcm e => m ⟨c, hcm, e⟩) w] at z; cases z
def cdHead (cs : Ce) : List D → List E
  | [] => []
  | d :: ds => .cd d cs :: ds.map E.d
section
variable {K : PySem.W.Frag} {α : Type} {args : α → List D} {cells : α → Ce} {pre : α → Prop} {R : α → D → Ce → Prop} {ds : List D}
theorem cm_c {U : Vx} {vs : List V} {G : Hp} {Q : VK} (x : α) (d : ∀ c ∈ cells x, HidOk U c.1 c.2) (fn : CFn (cells x)) (h : RpA K G vs (args x)) (p : pre x) (k : ∀ v G' dd ns, Ex G G' → R x dd ns → Rp K G' v dd → Q v G') : CM U (spC K args cells pre R) vs G Q := fun H j QH q E =>
  ⟨x, G, fun c hc => (d c hc).at_ H j.hid, fun c hc => (j.msk _ (d c hc).m).1, fn, j.up, h, p, fun v H' G' dd ns hx hc _ _ _ e1 e2 hn _ r rp => q v H' G' (J.cells_call d j hx hc e2 hn) (k v G' dd ns e1 r rp)⟩
theorem de_callC {ρ : List E} {Q : E → Prop} {tas : TA} {sp : Sp} {E' : XK} (hsp : sp = spC K args cells pre R) (h : DA K tas ρ fun ds => ∃ x, ds = args x ∧ pre x ∧ (∀ c ∈ cells x, InEnv ρ c) ∧ CFn (cells x) ∧ ∀ d ns, R x d ns → Q (.d d)) : DE K (tCall sp [] E' tas) ρ Q := fun U σ L G o => by
  subst hsp
  refine em_call ((h U σ L G o).w fun vs G1 ⟨e1, ds, sd, x, ed, p, hc, fn, k⟩ => ?_)
  subst ed
  exact cm_c x (fun c hcm => cell_hid o.lo ((hc c hcm).ok o)) fn sd p fun v G' dd ns e r rp => ⟨e1.trans e, .d dd, rp, k dd ns r⟩
theorem start_envC {N : List Str} {vs : List V} {G : Hp} {U : Vx} {cs : Ce} (ge : Ex U.Ge G) (s : RpA K G vs ds) (hc : ∀ c ∈ cs, CellOk U c.1 c.2) : EnvOk K U (cdHead cs ds ++ List.replicate (N.length - ds.length) E.any) (L2.start N vs) [] G := by
  have hl : (cdHead cs ds).length = ds.length := by cases ds <;> simp [cdHead]
  refine env_flat (by unfold L2.start; rw [List.length_append, List.length_append, hl, List.length_map, List.length_replicate, List.length_replicate, s.len]) (fun i e h => ?_) ge
  unfold L2.start
  by_cases z : i < ds.length
  · rw [List.getElem?_append_left (by rw [hl]; exact z)] at h
    obtain ⟨d, hd⟩ : ∃ d, ds[i]? = some d := ⟨_, List.getElem?_eq_getElem z⟩
    obtain ⟨v, h1, h2⟩ := s.get hd
    refine ⟨some v, by rw [List.getElem?_append_left (by rw [List.length_map, s.len]; exact z), List.getElem?_map, h1]; rfl, .inr ⟨v, rfl, ?_⟩⟩
    cases ds with
    | nil => simp at z
    | cons d0 ds =>
      cases i with
      | zero =>
        simp [cdHead] at h hd
        subst h hd
        exact ⟨rfl, h2, fun c hcm => .inl (hc c hcm)⟩
      | succ i =>
        simp [cdHead] at h hd
        rw [hd] at h
        simp at h
        subst h
        exact ⟨rfl, h2⟩
  · rw [List.getElem?_append_right (by rw [hl]; omega), hl, List.getElem?_replicate] at h
    split at h
    · rename_i hh
      cases h
      exact ⟨none, by rw [List.getElem?_append_right (by rw [List.length_map, s.len]; omega), List.length_map, s.len, List.getElem?_replicate, if_pos hh], .inl rfl⟩
    · cases h
theorem fn_c {N : List Str} {ts : TS} {vs : List V} {H : Hp} {QV : VK} {E' : XK} (h : spC K args cells pre R vs H QV E') (hb : ∀ x, pre x ∧ CFn (cells x) → DS K ts (cdHead (cells x) (args x) ++ List.replicate (N.length - (args x).length) E.any) (fun _ => R x .non []) (fun _ => False) (fun _ => False) (fun d => R x d [])) : ts { nx := fun _ H' => QV .non H', rt := QV } (L2.start N vs) H := by
  obtain ⟨x, G, hca, hcg, fn, e0, s, p, q⟩ := h
  have fin : ∀ {v : V} {L' : Ow} {H' G' : Hp} {d : D}, J ((VC (cells x) H G).hides L') H' G' → Ex G G' → R x d [] → Rp K G' v d → QV v H' := fun {v L' H' G' d} j e r s' =>
    q v H' G' d [] (fun y u ny hy => j.keep y u (by show wos (cells x) H y = some u; rw [wos_ne ny]; exact hy)) j.hid.1 (fun c hc => by cases hc) (fun c hc => by cases hc) cfn0 e j.up (fun a g1 g2 => by
      have h1 : wos (cells x) H a = none := j.new a g1 g2
      have h2 : ∀ c ∈ cells x, a ≠ c.1 := fun c hc ea => g1 (j.msk a (.inl ⟨c, hc, ea⟩)).1
      rw [wos_ne h2] at h1; exact h1) (fun c hc => (j.msk _ (.inl ⟨c, hc, rfl⟩)).1) r s'
  exact hb x ⟨p, fn⟩ (VC (cells x) H G) _ [] G ⟨fun _ H' => QV .non H', QV, fun _ _ => False, fun _ _ => False⟩ (start_envC (Ex.refl G) s fun c hc => VC.cell fn hc)
    (fun ρ' σ' L' G' r o e H' j => fin j e r .non) (fun _ _ _ _ z => z.elim) (fun _ _ _ _ z => z.elim)
    (fun d v L' G' r s' e lo H' j => fin j e r s') H (VC.start hca hcg e0).hides_nil
theorem len_c {vs : List V} {H : Hp} {QV : VK} {E' : XK} {n : Nat} (h : spC K args cells pre R vs H QV E') (hn : ∀ x, (args x).length = n) : vs.length = n := by
  obtain ⟨x, G, _, _, _, e0, s, p, q⟩ := h
  rw [s.len, hn]
/-! ### a def that returns new cells -/
def KRc (K : PySem.W.Frag) (U : Vx) (rt : VK) (G : Hp) (Rc : D → Ce → Prop) : Prop := ∀ d ns v L' G', Rc d ns → (∀ c ∈ ns, CellOk U c.1 c.2 ∨ (c.1, HI.ce c.2) ∈ L') → Rp K G' v d → Ex G G' → LOk U L' → KV (U.hides L') rt v G'
def DSR (K : PySem.W.Frag) (ts : TS) (ρ : List E) (Rc : D → Ce → Prop) : Prop := ∀ U σ L G (Dn : Ends), EnvOk K U ρ σ L G → KRc K U Dn.rt G Rc → SM (U.hides L) ts Dn σ G
theorem KRc.mono {U : Vx} {rt : VK} {G G' : Hp} {Rc : D → Ce → Prop} (k : KRc K U rt G Rc) (e : Ex G G') : KRc K U rt G' Rc := fun d ns v L' G2 r hc rp e2 lo => k d ns v L' G2 r hc rp (e.trans e2) lo
theorem dsr_seq {t1 t2 : TS} {ρ : List E} {Rc : D → Ce → Prop} (h : DS K t1 ρ (fun ρ' => DSR K t2 ρ' Rc) (fun _ => False) (fun _ => False) (fun _ => False)) : DSR K (tSeq t1 t2) ρ Rc := fun U σ L G Dn o r =>
  sm_seq (h U σ L G ⟨t2 Dn, Dn.rt, Dn.bk, Dn.ct⟩ o (fun ρ' σ' L' G' k o' e => fun H j => k U σ' L' G' Dn o' (r.mono e) H j) (fun _ _ _ _ z => z.elim) (fun _ _ _ _ z => z.elim) (fun _ _ _ _ z => z.elim))
theorem dsr_ret {te : TE} {ρ : List E} {Rc : D → Ce → Prop} (h : DE K te ρ fun e => DD e fun d => ∃ ns, Rc d ns ∧ ∀ c ∈ ns, InEnv ρ c) : DSR K (tRet te) ρ Rc := fun U σ L G Dn o r =>
  sm_ret ((h U σ L G o).w fun v G1 ⟨e1, x, sx, d, ed, ns, hd, hc⟩ => by subst ed; exact r d ns v L G1 hd (fun c hcm => (hc c hcm).ok o) sx e1 o.lo)
theorem dsr_freeze (i : Nat) {ρ ρ' : List E} {ts : TS} {Rc : D → Ce → Prop} {ds : List D} (hi : ρ[i]? = some (.own ds)) (hr : ρ.set i (.d (.lst ds)) = ρ') (h : DSR K ts ρ' Rc) : DSR K ts ρ Rc := fun U σ L G Dn o r H j => by
  obtain ⟨v, h3, a, vs, rfl, hm, k⟩ := o.at hi rfl
  have na : G a = none := (j.msk a (.inr ⟨_, hm⟩)).1
  have e : Ex G (upd G a (.lst vs)) := Ex.new na
  obtain ⟨n1, n2, _⟩ := o.lo.nm _ hm
  subst hr
  exact h U σ _ _ Dn (o.shown hi rfl own1 h3 hm na fun x => .lst upd_same (k.mono x)) (r.mono e) H (j.show hm n1 n2)
theorem fn_cN {N : List Str} {ts : TS} {vs : List V} {H : Hp} {QV : VK} {E' : XK} (h : spC K args cells pre R vs H QV E') (h0 : ∀ x, cells x = []) (hb : ∀ x, pre x → DSR K ts ((args x).map E.d ++ List.replicate (N.length - (args x).length) E.any) (R x)) : ts { nx := fun _ H' => QV .non H', rt := QV } (L2.start N vs) H := by
  obtain ⟨x, G, _, _, _, e0, s, p, q⟩ := h
  rw [h0] at q
  refine hb x p (V0 H G) _ [] G ⟨fun _ H' => QV .non H', QV, fun _ _ => False, fun _ _ => False⟩ (start_env (Ex.refl G) s)
    (fun d ns v L' G' r hc s' e lo H' j => ?_) H (J.start e0).hides_nil
  have hL : ∀ c ∈ ns, (c.1, HI.ce c.2) ∈ L' := fun c hcm => (hc c hcm).elim (fun ck => absurd ck.m (fun z => z)) id
  refine q v H' G' d ns (fun y u _ hy => j.keep y u hy) (fun c hcm => by cases hcm) (fun c hcm => j.hid.2 _ (hL c hcm)) (fun c hcm => ⟨(lo.nm _ (hL c hcm)).2.1, (j.msk _ (.inr ⟨_, hL c hcm⟩)).1⟩) (fun c d hcm hdm ecd => ?_) e j.unhides.up j.new (fun c hcm => by cases hcm) r s'
  have h1 := hL c hcm
  have h2 := hL d hdm
  rw [ecd] at h1
  have := lo.fn _ _ _ h1 h2
  injection this
/-! ### its call: a name is set -/
theorem J.cells_new {U : Vx} {L : Ow} {H G : Hp} {ns : Ce} (j : J (U.hides L) H G) (hc : CellsAt H ns) (hg : ∀ c ∈ ns, G c.1 = none) : J (U.hides (ns.map (fun c => (c.1, HI.ce c.2)) ++ L)) H G where
  up := j.up
  keep := j.keep
  new := j.new
  hid := ⟨j.hid.1, fun p hp => by
    rcases List.mem_append.mp hp with hp | hp
    · obtain ⟨c, hcm, rfl⟩ := List.mem_map.mp hp
      exact hc c hcm
    · exact j.hid.2 p hp⟩
  msk := fun a ma => by
    rcases ma with ma | ⟨u, hu⟩
    · exact j.msk a (.inl ma)
    · rcases List.mem_append.mp hu with hp | hp
      · obtain ⟨c, hcm, e⟩ := List.mem_map.mp hp
        injection e with e1 e2
        subst e1
        obtain ⟨o, h1, _⟩ := hc c hcm
        exact ⟨hg c hcm, by rw [h1]; exact fun q => by cases q⟩
      · exact j.msk a (.inr ⟨u, hp⟩)
theorem ds_asgC {ρ : List E} {N B C : List E → Prop} {RR : D → Prop} {i : Nat} {tas : TA} {sp : Sp} {E' : XK} (hsp : sp = spC K args cells pre R) (h : DA K tas ρ fun ds => ∃ x, ds = args x ∧ pre x ∧ (∀ c ∈ cells x, InEnv ρ c) ∧ CFn (cells x) ∧ ∀ d ns, CFn ns → R x d ns → SetTo ρ i (.cd d ns) N) : DS K (tAsg (tCall sp [] E' tas) (gName i)) ρ N B C RR := fun U σ L G Dn o n b c r H j => by
  subst hsp
  refine h U σ L G o H j _ fun vs H1 G1 j1 ⟨e1, ds, sd, x, ed, p, hc, fn, k⟩ => ?_
  subst ed
  show spC K args cells pre R (vs ++ []) H1 _ _
  rw [List.append_nil]
  have hd : ∀ c ∈ cells x, HidOk (U.hides L) c.1 c.2 := fun c hcm => cell_hid o.lo ((hc c hcm).ok o)
  refine ⟨x, G1, fun c hcm => (hd c hcm).at_ H1 j1.hid, fun c hcm => (j1.msk _ (hd c hcm).m).1, fn, j1.up, sd, p, fun v H' G' dd ns hx hca hna hnn hnf e2 e3 hn hg rr rp => ?_⟩
  obtain ⟨ρ', hr, kn⟩ := k dd ns hnf rr
  subst hr
  have j2 := J.cells_call hd j1 hx hca e3 hn
  have j3 := j2.cells_new hna fun c hcm => (hnn c hcm).2
  have ee := e1.trans e2
  have nol : ∀ a u, H1 a = none → (a, u) ∉ L := fun a u ha hu => (j1.msk a (.inr ⟨u, hu⟩)).2 ha
  have lo' : LOk U (ns.map (fun c => (c.1, HI.ce c.2)) ++ L) := ⟨fun q hq => by
    rcases List.mem_append.mp hq with hq | hq
    · obtain ⟨c, hcm, rfl⟩ := List.mem_map.mp hq
      have h1 := (hnn c hcm).1
      exact ⟨fun z => (j1.msk _ (.inl z)).2 h1, none_of_ex j1.keep h1, none_of_ex ((o.ge.trans e1).trans j1.up) h1⟩
    · exact o.lo.nm q hq, fun a u w h1 h2 => by
    rcases List.mem_append.mp h1 with h1 | h1 <;> rcases List.mem_append.mp h2 with h2 | h2
    · obtain ⟨c, hcm, e⟩ := List.mem_map.mp h1
      obtain ⟨d, hdm, e'⟩ := List.mem_map.mp h2
      injection e with ea eb
      injection e' with ea' eb'
      rw [← eb, ← eb', hnf c d hcm hdm (ea.trans ea'.symm)]
    · obtain ⟨c, hcm, e⟩ := List.mem_map.mp h1
      injection e with ea eb
      subst ea
      exact absurd h2 (nol _ _ (hnn c hcm).1)
    · obtain ⟨c, hcm, e⟩ := List.mem_map.mp h2
      injection e with ea eb
      subst ea
      exact absurd h1 (nol _ _ (hnn c hcm).1)
    · exact o.lo.fn a u w h1 h2⟩
  exact n _ _ _ _ kn (o.put (F := []) ee (fun q hq => List.mem_append_right _ hq) lo' (.cd rp fun c hcm => .inr (List.mem_append_left _ (List.mem_map.mpr ⟨c, hcm, rfl⟩))) List.nodup_nil (fun a ha => by simp at ha)) ee H' j3
/-- a slot of cells, read as a datum -/
theorem de_cdv {ρ : List E} {Q : E → Prop} {i : Nat} {d : D} {cs : Ce} (hi : ρ[i]? = some (.cd d cs)) (k : Q (.d d)) : DE K (tVar i) ρ Q := fun U σ L G o => by
  obtain ⟨v, h3, h4⟩ := o.at hi rfl
  exact em_var h3 ⟨Ex.refl G, .d d, h4.1, k⟩
/-- a datum's slot takes cells that the def knows -/
theorem ds_cell (i : Nat) (cs : Ce) {ρ ρ' : List E} {ts : TS} {N B C : List E → Prop} {RR : D → Prop} {d : D} (hi : ρ[i]? = some (.d d)) (hr : ρ.set i (.cd d cs) = ρ') (hc : ∀ c ∈ cs, InEnv ρ c) (h : DS K ts ρ' N B C RR) : DS K ts ρ N B C RR := fun U σ L G Dn o => by
  obtain ⟨v, h3, h4⟩ := o.at hi rfl
  subst hr
  have o2 := o.set (i := i) (e := .cd d cs) (v := v) rfl ⟨h4, fun c hcm => (hc c hcm).ok o⟩
  rw [show σ.set i (some v) = σ from by
    have hl := (List.getElem?_eq_some_iff.mp h3).1
    refine List.ext_getElem? fun j => ?_
    by_cases z : i = j
    · subst z; rw [List.getElem?_set_self hl, h3]
    · rw [List.getElem?_set_ne z]] at o2
  exact h U σ L G Dn o2
theorem ds_cell' (i : Nat) (cs : Ce) {ρ ρ' : List E} {ts : TS} {N B C : List E → Prop} {RR : D → Prop} {d : D} {cs0 : Ce} (hi : ρ[i]? = some (.cd d cs0)) (hr : ρ.set i (.cd d cs) = ρ') (hc : ∀ c ∈ cs, InEnv ρ c) (h : DS K ts ρ' N B C RR) : DS K ts ρ N B C RR := fun U σ L G Dn o => by
  obtain ⟨v, h3, h4⟩ := o.at hi rfl
  subst hr
  have o2 := o.set (i := i) (e := .cd d cs) (v := v) rfl ⟨h4.1, fun c hcm => (hc c hcm).ok o⟩
  rw [show σ.set i (some v) = σ from by
    have hl := (List.getElem?_eq_some_iff.mp h3).1
    refine List.ext_getElem? fun j => ?_
    by_cases z : i = j
    · subst z; rw [List.getElem?_set_self hl, h3]
    · rw [List.getElem?_set_ne z]] at o2
  exact h U σ L G Dn o2
/-! ### a list, so many times -/
theorem rpa_rep {G : Hp} {vs : List V} {es : List D} (h : RpA K G vs es) : ∀ n : Nat, RpA K G (List.replicate n vs).flatten (List.replicate n es).flatten
  | 0 => .nil
  | n + 1 => by rw [List.replicate_succ, List.replicate_succ, List.flatten_cons, List.flatten_cons]; exact (rpa_rep h n).app h
theorem dr_rep {Q : E → Prop} {es : List D} {n : Int} (h0 : -2 ^ 63 ≤ n) (h1 : n < 2 ^ 63) (hz : es.length * n.toNat ≤ sizeLine) (k : Q (.d (.lst (List.replicate n.toNat es).flatten))) : DR K rRep (.d (.lst es)) (.d (.int n)) Q := fun U L G v w lo sx sy H j QH q => by
  cases (sx : Rp K G v (.lst es)) with
  | lst a b =>
    cases (sy : Rp K G w (.int n))
    exact ⟨_, _, _, rfl, rfl, j.up _ _ a, h0, h1, by rw [b.len]; exact hz, fun p hp => q _ _ _ (j.alloc hp) ⟨Ex.new (j.free hp), .d (.lst _), .lst upd_same (rpa_rep (b.mono (Ex.new (j.free hp))) _), k⟩⟩
end
end Wp

set_option Elab.async false
set_option linter.all false
set_option maxRecDepth 100000
set_option maxHeartbeats 4000000
namespace Wp
open PySem L2 Evl StX
set_option autoImplicit false
/-! ### sorted, of pairs of ints that are not negative -/
abbrev prT (p : Int × Int) : D := .tup [.int p.1, .int p.2]
abbrev srtB : Int := 2 ^ 200
def rSortB (K : PySem.W.Frag) : List V → Hp → VK → Prop := fun xs H Q => rSortA K xs H Q ∨ rSortU K 2 srtB xs H Q
theorem kr_sortB {X : Cx} {K : PySem.W.Frag} (h : X.K = K := by rfl) (hc : X.calm = true := by rfl) : CallR X (.builtin "sorted") (rSortB K) := by subst h; exact CallR.or (kr_sortA rfl hc) (cr_sortT (by decide))
section
variable {K : PySem.W.Frag} {G : Hp}
theorem rpa_perm : ∀ {ys vs : List V}, ys.Perm vs → ∀ {es : List D}, RpA K G vs es → ∃ fs, fs.Perm es ∧ RpA K G ys fs := by
  intro ys vs h
  induction h with
  | nil => intro es r; exact ⟨es, .refl _, r⟩
  | cons x _ ih =>
    intro es r
    cases r with
    | cons a b =>
      obtain ⟨fs, p, q⟩ := ih b
      exact ⟨_ :: fs, p.cons _, .cons a q⟩
  | swap x y l =>
    intro es r
    cases r with
    | cons a b =>
      cases b with
      | cons b c => exact ⟨_, List.Perm.swap _ _ _, .cons b (.cons a c)⟩
  | trans _ _ ih1 ih2 =>
    intro es r
    obtain ⟨f1, p1, q1⟩ := ih2 r
    obtain ⟨f2, p2, q2⟩ := ih1 q1
    exact ⟨f2, p2.trans p1, q2⟩
theorem perm_of_map {α β : Type} {f : α → β} : ∀ {l m : List β}, l.Perm m → ∀ {ps : List α}, l = ps.map f → ∃ qs : List α, qs.Perm ps ∧ m = qs.map f := by
  intro l m h
  induction h with
  | nil => intro ps e; exact ⟨ps, .refl _, e⟩
  | cons x _ ih =>
    intro ps e
    cases ps with
    | nil => cases e
    | cons p ps =>
      rw [List.map_cons] at e
      injection e with e1 e2
      obtain ⟨qs, h1, h2⟩ := ih e2
      exact ⟨p :: qs, h1.cons _, by rw [List.map_cons, ← h2, e1]⟩
  | swap x y l =>
    intro ps e
    match ps, e with
    | p :: q :: ps, e =>
      rw [List.map_cons, List.map_cons] at e
      injection e with e1 e2
      injection e2 with e2 e3
      exact ⟨q :: p :: ps, List.Perm.swap _ _ _, by rw [List.map_cons, List.map_cons, ← e1, ← e2, ← e3]⟩
    | [p], e => cases e
    | [], e => cases e
  | trans _ _ ih1 ih2 =>
    intro ps e
    obtain ⟨q1, p1, e1⟩ := ih1 e
    obtain ⟨q2, p2, e2⟩ := ih2 e1
    exact ⟨q2, p2.trans p1, e2⟩
theorem tupI_of {H : Hp} {v : V} {p : Int × Int} (e : Ex G H) (h : Rp K G v (prT p)) : TupI K H v [p.1, p.2] := by
  cases h with
  | @tup t vs _ s r =>
    have := rpa_ints (ns := [p.1, p.2]) r
    subst this
    exact ⟨t, rfl, ex_t e s⟩
theorem rpa_pw {H : Hp} (e : Ex G H) : ∀ {ys : List V} {qs : List (Int × Int)}, RpA K G ys (qs.map prT) → ys.Pairwise (fun x y => ∀ n m, TupI K H x n → TupI K H y m → TS.code srtB n ≤ TS.code srtB m) → qs.Pairwise fun p q => TS.code srtB [p.1, p.2] ≤ TS.code srtB [q.1, q.2]
  | ys, [], _, _ => .nil
  | ys, q :: qs, r, h => by
    cases r with
    | @cons v _ vs _ a b =>
      rw [List.pairwise_cons] at h ⊢
      refine ⟨fun q' hq' => ?_, rpa_pw e b h.2⟩
      obtain ⟨i, hi⟩ := List.mem_iff_getElem?.mp hq'
      obtain ⟨w, hw, rw'⟩ := b.get (i := i) (d := prT q') (by rw [List.getElem?_map, hi]; rfl)
      exact h.1 w (List.mem_of_getElem? hw) _ _ (tupI_of e a) (tupI_of e rw')
theorem code_fst {p q : Int × Int} (hp : 0 ≤ p.1 ∧ p.1 < srtB ∧ 0 ≤ p.2 ∧ p.2 < srtB) (hq : 0 ≤ q.1 ∧ q.1 < srtB ∧ 0 ≤ q.2 ∧ q.2 < srtB) (h : TS.code srtB [p.1, p.2] ≤ TS.code srtB [q.1, q.2]) : p.1 ≤ q.1 := by
  rcases Int.lt_or_le q.1 p.1 with z | z
  · have := TS.code_lt (B := srtB) (d := q.1) (e := p.1) (r := [q.2]) (q := [p.2]) rfl (fun m hm => by rw [List.mem_singleton.mp hm]; exact ⟨hq.2.2.1, hq.2.2.2⟩) (fun m hm => by rw [List.mem_singleton.mp hm]; exact ⟨hp.2.2.1, hp.2.2.2⟩) z
    omega
  · exact z
def PrB (p : Int × Int) : Prop := 0 ≤ p.1 ∧ p.1 < srtB ∧ 0 ≤ p.2 ∧ p.2 < srtB
variable {ρ : List E} {QN : List D → Prop} {te : TE}
theorem rpa_mem : ∀ {vs : List V} {ps : List (Int × Int)} {x : V}, RpA K G vs (ps.map prT) → x ∈ vs → ∃ p ∈ ps, Rp K G x (prT p)
  | [], _, _, _, h => by cases h
  | v :: vs, [], _, r, _ => by cases r
  | v :: vs, p :: ps, x, r, h => by
    cases r with
    | cons a b =>
      rcases List.mem_cons.mp h with rfl | h
      · exact ⟨p, List.mem_cons_self, a⟩
      · obtain ⟨q, hq, hr⟩ := rpa_mem b h
        exact ⟨q, List.mem_cons_of_mem _ hq, hr⟩
theorem dn_sortP (h : DE K te ρ fun x => ∃ ps : List (Int × Int), (x = .d (.lst (ps.map prT)) ∨ x = .own (ps.map prT)) ∧ ps.length < 64 ∧ (∀ p ∈ ps, PrB p) ∧ ∀ qs : List (Int × Int), qs.Perm ps → (qs.Pairwise fun p q => p.1 ≤ q.1) → QN (qs.map prT)) : DN K (tCB (rSortB K) (tCons te tNil)) ρ QN := fun U σ L G o H j QH q =>
  h U σ L G o H j _ fun v H1 G1 j1 ⟨e1, x, sx, ps, hx, hl, hb, k⟩ => by
    obtain ⟨a, vs, rfl, hs, rr⟩ : ∃ a vs, v = .ref a ∧ SqL K H1 a vs ∧ RpA K G1 vs (ps.map prT) := by
      rcases hx with rfl | rfl
      · cases (sx : Rp K G1 v (.lst (ps.map prT))) with | lst a b => exact ⟨_, _, rfl, sq_of (j1.up _ _ a), b⟩
      · obtain ⟨a, vs, rfl, hm, b⟩ := sx; exact ⟨a, vs, rfl, sq_of (j1.at hm), b⟩
    refine .inr ⟨a, vs, rfl, hs, by rw [rr.len, List.length_map]; exact hl, fun x hx => ?_, fun ys p hp hpw hn => ?_⟩
    · obtain ⟨p, hp, hr⟩ := rpa_mem rr hx
      obtain ⟨b1, b2, b3, b4⟩ := hb p hp
      exact ⟨[p.1, p.2], tupI_of j1.up hr, rfl, fun m hm => by
        simp at hm
        rcases hm with rfl | rfl
        · exact ⟨b1, b2⟩
        · exact ⟨b3, b4⟩⟩
    · obtain ⟨fs, hfs, rf⟩ := rpa_perm hp rr
      obtain ⟨qs, hq, rfl⟩ := perm_of_map hfs.symm rfl
      have pw := rpa_pw j1.up rf hpw
      exact q _ _ _ (j1.alloc hn) ⟨p, ys, _, G1, rfl, e1, j1.free hn, Ex.new (j1.free hn), upd_same, rf, k qs hq (pw.imp_of_mem fun h1 h2 h3 => code_fst (hb _ (hq.mem_iff.mp h1)) (hb _ (hq.mem_iff.mp h2)) h3)⟩
end
/-! ### a dict comprehension, a local name's value -/
theorem sw_trueD {kx vx : Expr} {gs : List Comprehension} {scope : Scope} {pos py : Pos} {y : Str} {l : Nat} {env : Env} (h1 : env.scope.kind = ScopeKind.function) (h2 : List.lookup y env.scope.names = some NameKind.local) (h3 : (py.line == pos.line) = true)
    (h4 : (scope.names.any fun x => match x with | (n, k) => n == y && (k == NameKind.local || k == NameKind.cell)) = false) : swapsWith (.DictComp kx vx gs scope pos) (some (Expr.Name y py)) l env = pure true :=
  (show swapsWith (.DictComp kx vx gs scope pos) (some (Expr.Name y py)) l env = swapsWith (.ListComp kx gs scope pos) (some (Expr.Name y py)) l env from rfl).trans (sw_true h1 h2 h3 h4)
theorem ps_setDc {X : Cx} {i : Nat} {y : Str} {py : Pos} {kx vx tg iter : Expr} {ifs : List Expr} {scope : Scope} {own : List (Str × Nat)} {pos spos : Pos} {wi : TI} {g : TG} {tt : TT} {tk tv : TE}
    (hc : X.calm = true) (hN : X.N.Nodup) (hy : X.N[i]? = some y) (hl : L2.Loc X.env.scope y) (hyl : X.env.scope.names.lookup y = some NameKind.local)
    (hsw : swapsWith (.DictComp kx vx [{ target := tg, iter := iter, ifs := ifs, is_async := 0 }] scope pos) (some (.Name y py)) spos.line X.env = pure true)
    (hi : PI X tg iter wi) (ok : BlkOk X.N X.env.scope scope own)
    (hg : ∀ (s : Shared) (H : Hp) (C : Addr) (cl : List (Str × Addr)) (fp : List Addr), PG (X.blk s H scope (compEnvC scope cl C X.env) fp) tg g)
    (ht : ∀ (s : Shared) (H : Hp) (C : Addr) (cl : List (Str × Addr)) (fp : List Addr), PTs (X.blk s H scope (compEnvC scope cl C X.env) fp) ifs tt)
    (hk : ∀ (s : Shared) (H : Hp) (C : Addr) (cl : List (Str × Addr)) (fp : List Addr), PE (X.blk s H scope (compEnvC scope cl C X.env) fp) kx tk)
    (hv : ∀ (s : Shared) (H : Hp) (C : Addr) (cl : List (Str × Addr)) (fp : List Addr), PE (X.blk s H scope (compEnvC scope cl C X.env) fp) vx tv)
    (hf : ∀ x : Value, foldedSetIterable iter X.env x = pure x := by intro x; rfl) :
    PS X (.Assign [.Name y py] (.DictComp kx vx [{ target := tg, iter := iter, ifs := ifs, is_async := 0 }] scope pos) spos) (tAsg (tDc wi g tt tk tv (own.map fun x => x.snd)) (gName i)) :=
  ⟨fun pins s σ H D inv h => by
    rw [exec_Assign_Name_used y py _ spos hsw]
    refine wpAny_bind (wpAny_standAt ?_)
    refine wpAny_bind ?_
    rw [arm_evalThenUse_DictComp]
    refine wpAny_bind ?_
    refine dc_core (Q := fun v H' => gName i v σ H' (fun σ' H' => D.nx σ' H')) hc hN inv hi ok hg ht hk hv hf h ?_
    intro D' C s' m H' inv' q hns fp
    show wpAny _ _ (assign (.Name y py) X.env (.ref D')) _ _ _
    refine wpAny_assign_Name ?_
    refine store_ok2 inv' hN hy hl (v := .ref D') ?_ (fun s2 inv2 ⟨a, same, ha⟩ => ?_) (.inr hyl)
    · exact rfl
    · have na : C ≠ a := by
        rcases ha with ha | ha
        · rw [ha]; exact fp.2.1
        · exact fun z => fp.2.2.2.2.1 y a ha z.symm
      obtain ⟨o, es, ep, h1, h2, h3, h4⟩ := hns
      refine ⟨m, ⟨o, es, ep, by rw [same.2 C na]; exact h1, h2, h3, h4⟩, fun h' sb => ?_⟩
      refine wpAny_pure (wpAny_pure ?_)
      refine ⟨_, H', inv2.turnedL (ch := [C]) (fun b o nb e => ?_) (fun b hb => ?_), q⟩
      · rw [sb.2 b (fun z => nb (by rw [z]; exact List.mem_singleton.mpr rfl))]; exact e
      · rw [List.mem_singleton.mp hb]; exact fp⟩
end Wp

set_option Elab.async false
set_option linter.all false
set_option maxRecDepth 100000
set_option maxHeartbeats 4000000
/-! == and != of instances with an __eq__ of their own, by the promise of that def. -/
namespace HNE
open PySem PySem.Spec PyProof.Rows PySem.SeqAt
section
variable {M : Model} {prog : Program} {w : World} {A : Around} {E : Value → Shared → Prop} {s : Shared} {K : PySem.W.Frag} {x C L f : Addr} {h₀ : Heap} {m : Str → Option Value} {ox : Obj} {od : Option Obj} {b tb : Value}
theorem ifBound_objNe {args : List Value} {Q : Option Value → Shared → Prop} (X : K.In s.heap) (I : PySem.W.InstAt s.heap x ox C od) (hs : PySem.W.findIn K (.ref C) "__ne__" = some (some (.builtin "object.__ne__")))
    (h : wpAny M A (call (.builtin "object.__ne__") (.ref x :: args)) (fun v => Q (some v)) E s) : wpAny M A (callSpecialIfBound? (.ref x) "__ne__" args) Q E s := by
  simp only [callSpecialIfBound?, bindSpecialIfBound?]
  refine wpAny_holding (wpAny_bind (wpAny_bind (wpAny_bind (I.type.here ((PySem.W.looks_findIn X hs).here ?_)))))
  refine wpAny_bind (wpAny_askSetting (wpAny_ite ?_))
  have fin : wpAny M A (call (.builtin "object.__ne__") ([.ref x] ++ args) >>= fun v => pure (some v)) Q E s := wpAny_bind (wpAny_mono h (fun v s' h' => wpAny_pure h') fun _ _ h' => h')
  split
  · exact wpAny_bind (wpAny_of_eq (PySem.F.cmp_object.ne.bind _) (wpAny_pure (by exact fin)))
  · exact wpAny_tryCatch (wpAny_bind (wpAny_of_eq (PySem.F.cmp_object.ne.bind _) (wpAny_pure (by exact fin))))
theorem entry_ne {Q : Fin → Shared → Prop} (hu : A.units < cLine) (X : K.In s.heap) (I : PySem.W.InstAt s.heap x ox C od) (hs : PySem.W.findIn K (.ref C) "__eq__" = some (some (.ref f))) (hf : PySem.W.isFn K (.ref f) = true)
    (h : wpAny (model prog w) A (call (.ref f) [.ref x, b]) (fun v s' => ∃ r, v = .bool r ∧ Q (.done (.ret (.bool (!r)))) s') E s) :
    wpAny (model prog w) A (Builtin.«object.__ne__» ⟨[.ref x, b], []⟩) Q E s := by
  unfold Builtin.«object.__ne__»
  repeat (first
    | with_reducible refine wpAny_cRoomFor hu ?_
    | (refine wpAny_bind (m := callSpecialIfBound? (.ref x) (Str.ofString "__eq__") [b])
        (PySem.W.ifBound_K X I hs hf (wpAny_mono h (fun r s' hr => by
          obtain ⟨b, rfl, hq⟩ := hr
          repeat (first | exact hq | exact wpAny_pure hq | exact wpAny_truthy_bool hq | (refine wpAny_bind (m := truthy (.bool _)) (wpAny_truthy_bool ?_)) | wp_step)) fun _ _ e => e)))
    | wp_step)
theorem ne_K {Q : Value → Shared → Prop} (hu : A.units + 1 < cLine) (F : Fr h₀ L s.heap m) (X₀ : K.In h₀) (I : PySem.W.InstAt s.heap x ox C od) (hb : PySem.W.Looks (model prog w) s.heap (typeOf b) tb) (hn : PySem.W.notFirst K C tb = true)
    (hne : PySem.W.findIn K (.ref C) "__ne__" = some (some (.builtin "object.__ne__"))) (ho : PySem.W.mroIn K C (.type "object") = some true)
    (hs : PySem.W.findIn K (.ref C) "__eq__" = some (some (.ref f))) (hf : PySem.W.isFn K (.ref f) = true)
    (h : wpAny (model prog w) A.in1 (call (.ref f) [.ref x, b]) (fun v s' => ∃ r, v = .bool r ∧ Q (.bool (!r)) s') E s) : wpAny (model prog w) A (richCompare .NotEq (.ref x) b) Q E s := by
  have X := X₀.keeps F.keep
  have one : wpAny (model prog w) A (tryCompare (.ref x) "__ne__" b) (fun r s' => ∃ v, r = some v ∧ Q v s') E s := by
    unfold tryCompare
    refine wpAny_bind (ifBound_objNe X I hne (wpAny_call (codeAny_call_builtin PySem.F.cmp_object.ne.plain PySem.F.cmpEntry_ne (PySem.W.check_slot PySem.F.cmpKind_ne PySem.F.cmpSplit_ne (I.type.andThen (PySem.W.looks_mroIn X ho)) (PySem.F.cmpArgs_ne _ _) (entry_ne (A := A.in1) hu X I hs hf (wpAny_mono h (fun v s' hv => ?_) fun _ _ e => e))))))
    obtain ⟨r, rfl, hq⟩ := hv
    first | exact ⟨r, rfl, wpAny_pure ⟨_, rfl, hq⟩⟩ | exact ⟨r, rfl, wpAny_pure (wpAny_pure ⟨_, rfl, hq⟩)⟩ | exact ⟨r, rfl, ⟨_, rfl, hq⟩⟩
  unfold richCompare
  simp only [oneThing_ref]
  refine wpAny_holding (wpAny_bind (wpAny_cRoomFor (Nat.lt_of_succ_lt hu) ?_))
  rw [cmpInfo_NotEq]
  dsimp only
  refine wpAny_bind (I.type.here (wpAny_bind (hb.here ?_)))
  split
  · rename_i q
    have e : PySem.W.subIn K tb (.ref C) = some false := by
      rcases Bool.or_eq_true_iff.mp hn with e | e
      · rw [beq_iff_eq.mp e] at q; simp at q
      · exact beq_iff_eq.mp e
    refine wpAny_bind ((PySem.W.looks_subIn X e).here ?_)
    simp only [Bool.false_eq_true, if_false]
    refine wpAny_bind (wpAny_mono one (fun r s' z => ?_) fun _ _ e => e)
    obtain ⟨z, rfl, hq⟩ := z
    exact wpAny_pure hq
  · refine wpAny_bind (wpAny_pure ?_)
    simp only [Bool.false_eq_true, if_false]
    refine wpAny_bind (wpAny_mono one (fun r s' z => ?_) fun _ _ e => e)
    obtain ⟨z, rfl, hq⟩ := z
    exact wpAny_pure hq
end
end HNE
namespace L2
open PySem PySem.Spec PyProof.Rows
/-- what the text's table tells of a class that has an __eq__ of its own -/
structure EqC (K : PySem.W.Frag) (C : Addr) : Prop where
  ne : PySem.W.findIn K (.ref C) "__ne__" = some (some (.builtin "object.__ne__"))
  cl : PySem.W.findIn K (.ref C) "__class__" = some (some (.builtin "object.__class__"))
  gn : PySem.W.specialIn K (.builtin "object.__class__") "__get__" = some (some (.builtin "getset_descriptor.__get__"))
  tk : PySem.W.takesIn K (.builtin "object.__class__") = some true
  ob : PySem.W.mroIn K C (.type "object") = some true
  so : (PySem.W.clsIn K C).isSome = true
  ty : PySem.W.typeIn K (.ref C) = some (.type "type")
def eqcB (K : PySem.W.Frag) (C : Addr) : Bool :=
  decide (PySem.W.findIn K (.ref C) "__ne__" = some (some (.builtin "object.__ne__"))) && (decide (PySem.W.findIn K (.ref C) "__class__" = some (some (.builtin "object.__class__"))) &&
  (decide (PySem.W.specialIn K (.builtin "object.__class__") "__get__" = some (some (.builtin "getset_descriptor.__get__"))) && (decide (PySem.W.takesIn K (.builtin "object.__class__") = some true) &&
  (decide (PySem.W.mroIn K C (.type "object") = some true) && ((PySem.W.clsIn K C).isSome && decide (PySem.W.typeIn K (.ref C) = some (.type "type")))))))
theorem eqcB_ok {K : PySem.W.Frag} {C : Addr} (h : eqcB K C = true) : EqC K C := by
  unfold eqcB at h
  simp only [Bool.and_eq_true, decide_eq_true_iff] at h
  obtain ⟨h1, h2, h3, h4, h5, h6, h7⟩ := h
  exact ⟨h1, h2, h3, h4, h5, h6, h7⟩
theorem EqC.kit {K : PySem.W.Frag} {C : Addr} (e : EqC K C) (n : String) (hm : ∃ l : List String, fastBuiltinMro n = some (l.map Value.type)) : PySem.W.kitOne K (.type n) (.ref C) = some false := by
  obtain ⟨l, hl⟩ := hm
  unfold PySem.W.kitOne
  rw [if_neg (by simp)]
  unfold PySem.W.kitCls
  dsimp only
  rw [if_pos (by rw [e.so, e.ty]; rfl)]
  show (fastBuiltinMro n).map (·.contains (.ref C)) = some false
  rw [hl]
  simp
theorem kit_same {K : PySem.W.Frag} {C : Addr} : PySem.W.kitOne K (.ref C) (.ref C) = some true := by
  unfold PySem.W.kitOne
  rw [if_pos (by simp)]
theorem sub_no {K : PySem.W.Frag} {C : Addr} (n : String) (hm : ∃ l : List String, fastBuiltinMro n = some (l.map Value.type)) : PySem.W.subIn K (.type n) (.ref C) = some false := by
  obtain ⟨l, hl⟩ := hm
  show (fastBuiltinMro n).map (·.contains (.ref C)) = some false
  rw [hl]
  simp
theorem mro_int : ∃ l : List String, fastBuiltinMro "int" = some (l.map Value.type) := ⟨["int", "object"], by decide +kernel⟩
theorem mro_tup : ∃ l : List String, fastBuiltinMro "tuple" = some (l.map Value.type) := ⟨["tuple", "object"], by decide +kernel⟩
/-- the other one of a comparison: of the class too, an int, a tuple -/
def TyF (K : PySem.W.Frag) (H : Hp) (C : Addr) (y : V) : Prop := (∃ b dx fs, y = .ref b ∧ H b = some (.ins C dx fs)) ∨ (∃ i, y = .int i) ∨ (∃ a xs, y = .ref a ∧ SqT K H a xs)
section
variable {X : Cx}
theorem tyf_looks {pins : List (Addr × Obj)} {σ : St} {H : Hp} {s : Shared} {C : Addr} {y : V} {u : Value} (I : Inv X pins σ H s) (ry : RelV y u) (t : TyF X.K H C y) : ∃ tb, PySem.W.Looks (model X.prog X.w) s.heap (typeOf u) tb ∧ PySem.W.notFirst X.K C tb = true := by
  rcases t with ⟨b, dx, fs, rfl, hb⟩ | ⟨i, rfl⟩ | ⟨a, xs, rfl, hs⟩
  · cases ry
    obtain ⟨mB, J', _⟩ := ins_get I.hok hb
    obtain ⟨od', J', _⟩ := J'.look
    exact ⟨_, J'.type, by simp [PySem.W.notFirst]⟩
  · obtain ⟨t, q⟩ := (show ∃ t, u = Value.int i t from ry)
    subst q
    refine ⟨.type "int", PySem.W.Looks.of_pure rfl, ?_⟩
    unfold PySem.W.notFirst
    rw [sub_no "int" mro_int]
    simp
  · cases ry
    obtain ⟨its, r, ⟨o, e, hc, _⟩, _⟩ := I.tuple hs
    refine ⟨.type "tuple", ?_, ?_⟩
    · have z : PySem.W.Looks (model X.prog X.w) s.heap (typeOf (.ref a)) o.cls := (PySem.W.Looks.ld e).andThen .now
      rw [hc] at z
      exact z
    · unfold PySem.W.notFirst
      rw [sub_no "tuple" mro_tup]
      simp
def rOE (K : PySem.W.Frag) (C : Addr) (sp : Sp) : R2 := fun x y H Q => ∃ a dx fs, x = .ref a ∧ H a = some (.ins C dx fs) ∧ TyF K H C y ∧ sp [x, y] H (fun v H' => ∃ b, v = .bl b ∧ Q (.bl b) H') fun _ _ _ => False
def rON (K : PySem.W.Frag) (C : Addr) (sp : Sp) : R2 := fun x y H Q => ∃ a dx fs, x = .ref a ∧ H a = some (.ins C dx fs) ∧ TyF K H C y ∧ sp [x, y] H (fun v H' => ∃ b, v = .bl b ∧ Q (.bl (!b)) H') fun _ _ _ => False
theorem run_oe {n : Nat} {f : Addr} {fd : FuncData} {ps : List Str} {sp : Sp} (F : FnOk X.prog X.w X.K X.mg X.base CX0 n f fd ps sp) (hb : Binds X.K fd ps []) {A : Around} (hA : A.frames = X.A.frames) (hr : Room n A)
    {pins : List (Addr × Obj)} {σ : St} {H : Hp} {s : Shared} {a : Addr} {y : V} {u : Value} {g : Bool → Bool} {Q : VK} (I : Inv X pins σ H s) (ry : RelV y u) (h : sp [.ref a, y] H (fun v H' => ∃ b, v = .bl b ∧ Q (.bl (g b)) H') fun _ _ _ => False) :
    wpAny (model X.prog X.w) A (call (.ref f) [.ref a, u]) (fun r s' => ∃ b, r = .bool b ∧ EP X pins σ Q (.bool (g b)) s') X.xe s := by
  have e0 : Env0 X.prog X.w X.K X.mg X.base A X.stack s H := by
    have e := I.env0
    exact ⟨by rw [hA]; exact e.frames, e.mod, e.bs, e.bsz, e.funs, e.frf, e.hok, e.bare⟩
  have hl := F.len _ _ _ _ h
  have r2 : Vals [V.ref a, y] [Value.ref a, u] := .cons rfl (.cons ry .nil)
  refine wpAny_call (codeAny_mono (F.run A X.stack s H ⟨[.ref a, u], []⟩ [.ref a, u] [.ref a, y] _ _ hr e0 (by
    have := hb s [.ref a, u] I.kIn (by simpa using hl)
    simpa using this) r2 h) fun r s' hq => ?_)
  cases r with
  | error e => exact (pass0 (X := X) pins σ H s e s' I hq)
  | ok fl =>
    cases fl with
    | ret w =>
      obtain ⟨z, H', I', rz, b, ez, q⟩ := I.after hq
      subst ez
      cases rz
      exact ⟨b, rfl, .bl (g b), H', I', rfl, q⟩
    | next => exact False.elim hq
    | brk => exact False.elim hq
    | cont => exact False.elim hq
theorem op_oe {K : PySem.W.Frag} {n : Nat} {C f : Addr} {fd : FuncData} {ps : List Str} {sp : Sp} (F : FnOk X.prog X.w X.K X.mg X.base CX0 n f fd ps sp) (m : Meth K C "__eq__" f) (hb : Binds X.K fd ps []) (hr : Room n X.A) (h : X.K = K := by rfl) : OpR X (compareOp .Eq) (rOE K C sp) := by
  subst h
  intro pins s σ H x y v u Q I rx ry ⟨a, dx, fs, hx, ha, ht, q⟩
  subst hx
  cases rx
  show wpAny (model X.prog X.w) X.A (richCompare .Eq (.ref a) u) (EP X pins σ Q) X.xe s
  obtain ⟨tb, l, nf⟩ := tyf_looks I ry ht
  obtain ⟨mA, J, _⟩ := ins_get I.hok ha
  obtain ⟨od, J, _⟩ := J.look
  obtain ⟨_, hF⟩ := I.fr
  refine PySem.W.cmp_K (op := .Eq) hr.units0 hF I.ok.mod.kin J l nf m.at_ m.fn ?_
  refine wpAny_mono (run_oe (g := id) F hb rfl hr I ry q) (fun r s' z => ?_) fun _ _ x => x
  obtain ⟨b, rfl, z⟩ := z
  exact z
theorem op_one {K : PySem.W.Frag} {n : Nat} {C f : Addr} {fd : FuncData} {ps : List Str} {sp : Sp} (F : FnOk X.prog X.w X.K X.mg X.base CX0 n f fd ps sp) (m : Meth K C "__eq__" f) (ec : EqC K C) (hb : Binds X.K fd ps []) (hr : Room (n + 1) X.A) (h : X.K = K := by rfl) : OpR X (compareOp .NotEq) (rON K C sp) := by
  subst h
  intro pins s σ H x y v u Q I rx ry ⟨a, dx, fs, hx, ha, ht, q⟩
  subst hx
  cases rx
  show wpAny (model X.prog X.w) X.A (richCompare .NotEq (.ref a) u) (EP X pins σ Q) X.xe s
  obtain ⟨tb, l, nf⟩ := tyf_looks I ry ht
  obtain ⟨mA, J, _⟩ := ins_get I.hok ha
  obtain ⟨od, J, _⟩ := J.look
  obtain ⟨_, hF⟩ := I.fr
  refine HNE.ne_K hr.in1.units0 hF I.ok.mod.kin J l nf ec.ne ec.ob m.at_ m.fn ?_
  refine wpAny_mono (run_oe (g := Bool.not) (A := X.A.in1) F hb rfl hr.in1 I ry q) (fun r s' z => ?_) fun _ _ x => x
  obtain ⟨b, rfl, z⟩ := z
  exact ⟨b, rfl, z⟩
end
end L2
namespace Wp
open PySem L2 Evl StX
section
variable {K : PySem.W.Frag} {x y : D} {Q : E → Prop} {C : Addr}
/-- data that an instance of the class at C may be compared with -/
def D.tyf (C : Addr) : D → Prop
  | .obj B _ _ => B = C
  | .int _ => True
  | .tup _ => True
  | _ => False
theorem tyf_of {G H : Hp} {v : V} (e : Ex G H) (h : Rp K G v y) (t : y.tyf C) : TyF K H C v := by
  cases h with
  | int i => exact .inr (.inl ⟨i, rfl⟩)
  | tup a b => exact .inr (.inr ⟨_, _, rfl, ex_t e a⟩)
  | @obj a B dx fvs ks ds g k r =>
    cases (show B = C from t)
    exact .inl ⟨_, _, _, rfl, e _ _ g⟩
  | _ => exact t.elim
theorem dr_oe {sp : Sp} {ks : List Str} {ds : List D} (hx : x = .obj C ks ds) (t : y.tyf C) (h : DC K sp [x, y] fun e => ∃ b, e = .d (.bl b) ∧ Q (.d (.bl b))) : DR K (rOE K C sp) (.d x) (.d y) Q := fun U L G v w lo sx sy H j QH q => by
  subst hx
  have sx' : Rp K G v (.obj C ks ds) := sx
  have sy' : Rp K G w y := sy
  cases id sx' with
  | @obj a _ dx fvs _ _ g k r =>
    refine ⟨a, dx, fvs, rfl, j.up _ _ g, tyf_of j.up sy' t, ?_⟩
    refine h U L G _ lo (.cons sx' (.cons sy' .nil)) H j _ (fun v' H' G' j' ⟨e, e2, se, b, ed, k2⟩ => ?_) _
    subst ed
    cases (show Rp K G' v' (.bl b) from se)
    exact ⟨b, rfl, q _ _ _ j' ⟨e, .d (.bl b), Rp.bl b, k2⟩⟩
theorem dr_one {sp : Sp} {ks : List Str} {ds : List D} (hx : x = .obj C ks ds) (t : y.tyf C) (h : DC K sp [x, y] fun e => ∃ b, e = .d (.bl b) ∧ Q (.d (.bl (!b)))) : DR K (rON K C sp) (.d x) (.d y) Q := fun U L G v w lo sx sy H j QH q => by
  subst hx
  have sx' : Rp K G v (.obj C ks ds) := sx
  have sy' : Rp K G w y := sy
  cases id sx' with
  | @obj a _ dx fvs _ _ g k r =>
    refine ⟨a, dx, fvs, rfl, j.up _ _ g, tyf_of j.up sy' t, ?_⟩
    refine h U L G _ lo (.cons sx' (.cons sy' .nil)) H j _ (fun v' H' G' j' ⟨e, e2, se, b, ed, k2⟩ => ?_) _
    subst ed
    cases (show Rp K G' v' (.bl b) from se)
    exact ⟨b, rfl, q _ _ _ j' ⟨e, .d (.bl (!b)), Rp.bl (!b), k2⟩⟩
def D.isO : D → Bool
  | .obj _ _ _ => true
  | _ => false
/-- isinstance(e, C) -/
theorem de_isOwn {ρ : List E} {te : TE} (ec : EqC K C) (cl : Cls K C) (h : DE K te ρ fun e => DD e fun d => d.tyf C ∧ Q (.d (.bl d.isO))) : DE K (tCB (rIsi K) (tCons te (tCons (tC (.ref C)) tNil))) ρ Q := fun U σ L G o =>
  em_cb (am_cons ((h U σ L G o).w fun v G1 ⟨e1, e, se, k⟩ => am_cons (em_c (am_nil (by
    obtain ⟨d, ed, t, k⟩ := k
    subst ed
    have sd : Rp K G1 v d := se
    cases sd with
    | int i => exact fun H j _ q => ⟨_, .ref C, .type "int", .ref C, false, rfl, .own C, .base (.int i), ec.kit "int" mro_int, q _ _ _ j ⟨e1, .d (.bl false), Rp.bl _, k⟩⟩
    | @tup a vs ds ta tb =>
      refine fun H j _ q => ⟨_, .ref C, .type "tuple", .ref C, false, rfl, .own C, ?_, ec.kit "tuple" mro_tup, q _ _ _ j ⟨e1, .d (.bl false), Rp.bl _, k⟩⟩
      rcases ex_t j.up ta with (ta | ⟨o, ta⟩) | ⟨o, its, n, hk, hc, _⟩
      · exact .base (.tup ta)
      · exact .fTuple ta
      · exact .kTuple hk hc
    | @obj a B dx fvs ks ds g kk r =>
      cases (show B = C from t)
      exact fun H j _ q => ⟨_, .ref C, .ref C, .ref C, true, rfl, .own C, .base (.ins (j.up _ _ g) cl ec.cl ec.gn ec.tk ec.ob), kit_same, q _ _ _ j ⟨e1, .d (.bl true), Rp.bl _, k⟩⟩
    | _ => exact t.elim)))))
end
end Wp
/-! ### the head's look at one thing more of the table -/
namespace Pf
open PySem
abbrev AlE : Type := He.AlD × Bool
def obsE (n : Nat) (fa : List He.Fa) (fn : List He.DefD) (ex : PySem.W.Frag → Bool) (g : Addr → Option Obj) : AlE := (He.obsDG n fa fn g, ex (He.frG g (He.asD g n)))
structure SaysE (fa : List He.Fa) (fn : List He.DefD) (ex : PySem.W.Frag → Bool) (K : PySem.W.Frag) : Prop where
  d : He.SaysD fa fn K
  x : ex K = true
def hookE (n : Nat) (fa : List He.Fa) (fn : List He.DefD) (ex : PySem.W.Frag → Bool) : PySem.W.Hook where
  α := AlE
  obs := fun s => obsE n fa fn ex s.heap.get?
  val := fun _ => (He.valD fn, true)
  says := fun _ h => ∃ K : PySem.W.Frag, K.In h ∧ SaysE fa fn ex K
  of := fun _ _ e => ⟨_, He.frG_in, congrArg (fun z : AlE => z.1) e, congrArg (fun z : AlE => z.2) e⟩
  keeps := fun _ _ _ ⟨K, hK, c⟩ k => ⟨K, PySem.W.Frag.In.keeps hK k, c⟩
theorem obsE_eq {n : Nat} {fa : List He.Fa} {fn : List He.DefD} {ex : PySem.W.Frag → Bool} {g : Addr → Option Obj} {s : Shared} (h : ∀ a, g a = s.heap.get? a) : obsE n fa fn ex g = (hookE n fa fn ex).obs s := by
  have e : g = s.heap.get? := funext h
  rw [e] <;> rfl
end Pf

set_option Elab.async false
set_option linter.all false
set_option maxRecDepth 100000
set_option maxHeartbeats 4000000
/-! sorted of a list of pairs (int, anything) whose ints differ. -/
namespace SrtO
open PySem PyProof.Rows Srt
def IsFst (h : Heap) (v : Value) (x : Int) : Prop := ∃ a o t u n, v = .ref a ∧ h.get? a = some o ∧ o.cls = .type "tuple" ∧ o.data = .seq #[.int x t, u] n
theorem IsFst.keeps {h h' : Heap} {v : Value} {x : Int} (p : IsFst h v x) (k : ∀ b o, h.get? b = some o → o.cls = .type "tuple" → h'.get? b = some o) : IsFst h' v x := by
  obtain ⟨a, o, t, u, n, e, ho, hc, hd⟩ := p
  exact ⟨a, o, t, u, n, e, k _ _ ho hc, hc, hd⟩
theorem fsts_of {h : Heap} : ∀ {vs : List Value}, (∀ v ∈ vs, ∃ x, IsFst h v x) → ∃ fs : List Value, PySem.W.KatTups h vs fs ∧ fs.length = vs.length ∧ ∀ f ∈ fs, ∃ x t, f = Value.int x t
  | [], _ => ⟨[], PySem.W.KatTups.nil, rfl, fun _ hm => by simp at hm⟩
  | v :: vs, hp => by
    obtain ⟨fs, h1, h2, h3⟩ := fsts_of (vs := vs) fun v' hm => hp v' (List.mem_cons_of_mem _ hm)
    obtain ⟨x, a, o, t, u, n, e, ho, hc, hd⟩ := hp v (List.mem_cons_self ..)
    subst e
    refine ⟨.int x t :: fs, PySem.W.KatTups.cons ho hc hd rfl h1, by rw [List.length_cons, List.length_cons, h2], fun f hm => ?_⟩
    rcases List.mem_cons.mp hm with rfl | hm
    · exact ⟨x, t, rfl⟩
    · exact h3 f hm
section
variable {prog : Program} {w : World} {A : Around} {E : Value → Shared → Prop} {s : Shared}
abbrev ltF (k : Value → Int) : Value → Value → Bool := fun v u => decide (k v < k u)
theorem swo_fst (k : Value → Int) : Swo (ltF k) := ⟨fun x y h => decide_eq_false (by have := of_decide_eq_true h; omega), fun x y z h1 h2 => decide_eq_false (by have a := of_decide_eq_false h1; have b := of_decide_eq_false h2; omega)⟩
theorem fst_cmp {vs : List Value} {k : Value → Int} (hp : ∀ v ∈ vs, IsFst s.heap v (k v)) (hi : ∀ v ∈ vs, ∀ u ∈ vs, k v = k u → v = u) : Cmp prog w A s (tuples' true) (fun p => p.1 ∈ vs) (lt2 (ltF k)) := by
  intro p q hm hm'
  have h1 := hp _ hm
  have h2 := hp _ hm'
  have h3 := hi _ hm _ hm'
  show wpAny (model prog w) A (keyLt' (tuples' true) p.1 q.1) (fun r s' => s' = s ∧ r = decide (k p.1 < k q.1)) (fun _ _ => False) s
  generalize k p.1 = x at h1 h3 ⊢
  generalize k q.1 = x' at h2 h3 ⊢
  by_cases e : x = x'
  · have e2 := h3 e
    subst e
    rw [← e2]
    obtain ⟨a, o, t, u, n, e, ho, hc, hd⟩ := h1
    rw [e]
    refine PySem.W.kat_lt ho hd ho hd ?_
    show PySem.W.KatLex prog w A true (decide (2 < 2)) _ [(.int x t, .int x t), (u, u)] 0 s
    exact PySem.W.kat_cons (SeqAt.EqAt.same _ prog w _ _ (PySem.W.kat_yes (PySem.W.kat_cons (SeqAt.EqAt.same u prog w _ _ (PySem.W.kat_yes (PySem.W.kat_nil ⟨rfl, (decide_eq_false (Int.lt_irrefl _)).symm⟩))))))
  · obtain ⟨a, o, t, u, n, e1, ho, hc, hd⟩ := h1
    obtain ⟨a', o', t', u', n', e', ho', hc', hd'⟩ := h2
    rw [e1, e']
    refine PySem.W.kat_lt ho hd ho' hd' ?_
    show PySem.W.KatLex prog w A true (decide (2 < 2)) _ [(.int x t, .int x' t'), (u, u')] 0 s
    refine PySem.W.kat_cons (SeqAt.EqAt.int_int x t x' t' prog w _ _ ?_)
    refine PySem.W.kat_go (fun e1 => ?_) (fun e1 => ?_)
    · exact absurd (show x = x' by simpa using e1) e
    · exact PySem.W.kat_no (oneLt_int ⟨rfl, rfl⟩)
theorem fst_sortableO {a : Addr} {vs : List Value} {k : Value → Int} (h0 : 0 < vs.length) (hp : ∀ v ∈ vs, IsFst s.heap v (k v)) (hi : ∀ v ∈ vs, ∀ u ∈ vs, k v = k u → v = u) (ha : ∀ o, s.heap.get? a = some o → o.cls ≠ .type "tuple") : SortableO prog w A s a vs (ltF k) := by
  intro h' keep
  have hp' : ∀ v ∈ vs, IsFst h' v (k v) := fun v hm => (hp v hm).keeps fun b o e c => keep b o (fun z => by subst z; exact ha o e c) e
  obtain ⟨fs, h1, h2, h3⟩ := fsts_of fun v hm => ⟨_, hp' v hm⟩
  refine ⟨tuples' true, fun Q E hq => ?_, fst_cmp hp' hi⟩
  refine PySem.W.kat_kind (T := .type "int") h1 (by omega) (fun f hm => ?_) (by rfl) ?_
  · obtain ⟨x, t, rfl⟩ := h3 f hm
    exact PySem.W.Looks.now
  · have e : (Value.type "int" != Value.type "tuple") = true := by first | decide +kernel | rfl | decide
    rw [e]
    exact hq
theorem sorted_fst {l : Addr} {vs : List Value} {k : Value → Int} {Q : Value → Shared → Prop} (hl : s.heap.IsList l vs.toArray) (hz : vs.length ≤ sizeLine) (hp : ∀ v ∈ vs, IsFst s.heap v (k v)) (hi : ∀ v ∈ vs, ∀ u ∈ vs, k v = k u → v = u)
    (h : ∀ (h' : Heap) (d : Addr) (out : List Value), Srtd (ltF k) out → Stb (ltF k) out vs → (∀ b o, s.heap.get? b = some o → h'.get? b = some o) → s.heap.objs.size ≤ d → (∃ n, h'.get? d = some (seqObj "list" out.toArray n)) → Q (.ref d) { s with heap := h' }) :
    wpAny (model prog w) A (call (.builtin "sorted") [.ref l]) Q E s := by
  refine sorted_ord (swo_fst k) hl hz (fun h2 h₁ a ha kk => ?_) fun out hs hb => ?_
  · refine fst_sortableO (s := { s with heap := h₁ }) (by omega) (fun v hm => (hp v hm).keeps fun b o e _ => (kk b o e).2) hi fun o e => ?_
    have e' : some o = some (seqObj "list" vs.toArray 0) := e.symm.trans ha
    cases e'
    intro c
    exact absurd (Value.type.inj c) (by decide)
  · exact h _ _ out hs hb (fun b o e => sortedAll_old e) (Nat.le_succ _) (sortedAll_at s.heap vs out.toArray)
end
end SrtO
namespace L2
open PySem PySem.Spec PyProof.Rows
def Fst (K : PySem.W.Frag) (H : Hp) (x : V) (n : Int) : Prop := ∃ t w, x = .ref t ∧ SqT K H t [.int n, w]
def rSortF (K : PySem.W.Frag) : List V → Hp → VK → Prop := fun vs H Q => ∃ (a : Addr) (xs : List V) (is : List Int), vs = [V.ref a] ∧ SqL K H a xs ∧ is.length = xs.length ∧ (∀ (i : Nat) (x : V) (n : Int), xs[i]? = some x → is[i]? = some n → Fst K H x n) ∧ is.Nodup ∧
  ∀ ys p, ys.Perm xs → ys.Pairwise (fun x y => ∀ n m, Fst K H x n → Fst K H y m → n ≤ m) → H p = none → Q (.ref p) (upd H p (.lst ys))
section
variable {X : Cx}
open Classical in
theorem cr_sortF {K : PySem.W.Frag} (h : X.K = K := by rfl) : CallR X (.builtin "sorted") (rSortF K) := by
  subst h
  intro pins s σ H vs us Q I r h
  obtain ⟨a, xs, is, rfl, hs, hlen, hx, hnd, q⟩ := h
  obtain ⟨its, rv, hl, hz⟩ := I.list hs
  obtain ⟨u, rfl, ru⟩ := vals1 r
  obtain rfl : u = Value.ref a := ru
  have fun1 : ∀ x n m, Fst X.K H x n → Fst X.K H x m → n = m := fun x n m ⟨t, w, e, h1⟩ ⟨t', w', e', h2⟩ => by
    subst e
    cases e'
    have := I.tuple_inj h1 h2
    injection this with z
    injection z
  have hx' : ∀ x ∈ xs, ∃ n, Fst X.K H x n := fun x m => by
    obtain ⟨i, hi, rfl⟩ := List.mem_iff_getElem.mp m
    exact ⟨_, hx i _ is[i] (List.getElem?_eq_getElem hi) (List.getElem?_eq_getElem (by omega))⟩
  obtain ⟨e1, e2⟩ := refs_back rv fun x m => by
    obtain ⟨n, t, w, e, _⟩ := hx' x m
    exact ⟨t, e⟩
  obtain ⟨k, hk⟩ : ∃ k : V → Int, ∀ x ∈ xs, Fst X.K H x (k x) := ⟨fun x => if h : ∃ n, Fst X.K H x n then h.choose else 0, fun x m => by
    have := hx' x m
    simp only [dif_pos this]
    exact this.choose_spec⟩
  have hinj : ∀ x ∈ xs, ∀ y ∈ xs, k x = k y → x = y := fun x mx y my e => by
    obtain ⟨i, hi, rfl⟩ := List.mem_iff_getElem.mp mx
    obtain ⟨j, hj, rfl⟩ := List.mem_iff_getElem.mp my
    have h1 := fun1 _ _ _ (hk _ mx) (hx i _ is[i] (List.getElem?_eq_getElem hi) (List.getElem?_eq_getElem (by omega)))
    have h2 := fun1 _ _ _ (hk _ my) (hx j _ is[j] (List.getElem?_eq_getElem hj) (List.getElem?_eq_getElem (by omega)))
    have : is[i]'(by omega) = is[j]'(by omega) := by rw [← h1, ← h2, e]
    have pw := List.pairwise_iff_getElem.mp hnd
    rcases Nat.lt_trichotomy i j with z | z | z
    · exact absurd this (pw i j (by omega) (by omega) z)
    · subst z; rfl
    · exact absurd this.symm (pw j i (by omega) (by omega) z)
  have mem_its : ∀ v ∈ its, backV v ∈ xs := fun v hv => by rw [e1]; exact List.mem_map.mpr ⟨_, hv, rfl⟩
  refine SrtO.sorted_fst (k := fun u => k (backV u)) hl.isList (by rw [← rv.length]; exact hz) (fun v hv => ?_) (fun v hv u hu e => ?_) fun h' d out h1 h2 kp hd hn => ?_
  · have hm := mem_its v hv
    obtain ⟨t, rfl⟩ := e2 v hv
    obtain ⟨t', w, e, ht⟩ := hk _ hm
    cases e
    obtain ⟨its2, r2, ⟨o, ho, hc, n, hd⟩, _⟩ := I.tuple ht
    obtain ⟨u1, u2, rfl, ri, rj⟩ := vals2 r2
    obtain ⟨t1, rfl⟩ := ri
    exact ⟨t, o, t1, u2, n, rfl, ho, hc, hd⟩
  · have e3 := hinj _ (mem_its v hv) _ (mem_its u hu) e
    obtain ⟨t, rfl⟩ := e2 v hv
    obtain ⟨t', rfl⟩ := e2 u hu
    cases e3
    rfl
  · have h3 : ∀ u ∈ out, ∃ a, u = Value.ref a := fun u hu => e2 u (h2.perm.mem_iff.mp hu)
    obtain ⟨n, hn⟩ := hn
    have hb : (out.map backV).Perm xs := by
      rw [e1]
      exact h2.perm.map backV
    refine ⟨.ref d, upd H d (.lst (out.map backV)), I.laid (t' := s.toks) kp hd ⟨?_, out, n, vals_back h3, hn⟩, rfl, q _ d hb ?_ (I.hok.fresh hd)⟩
    · rw [hb.length_eq]
      exact hz
    · rw [List.pairwise_map]
      refine List.Pairwise.imp_of_mem (fun {v u} mv mu h n m fv fu => ?_) h1
      have h1 := fun1 _ _ _ fv (hk _ (mem_its v (h2.perm.mem_iff.mp mv)))
      have h2 := fun1 _ _ _ fu (hk _ (mem_its u (h2.perm.mem_iff.mp mu)))
      rw [h1, h2]
      have : ¬ (k (backV u) < k (backV v)) := of_decide_eq_false h
      omega
end
end L2
namespace Wp
open PySem L2 Evl StX
set_option autoImplicit false
section
variable {K : PySem.W.Frag} {ρ : List E} {te : TE} {QN : List D → Prop} {G : Hp}
abbrev fsD (p : Int × D) : D := .tup [.int p.1, p.2]
theorem fst_at {H : Hp} {v : V} {p : Int × D} (e : Ex G H) (h : Rp K G v (fsD p)) : Fst K H v p.1 := by
  cases h with
  | @tup a vs ds t r =>
    cases r with
    | cons r1 r =>
      cases r1
      cases r with
      | cons r2 r =>
      cases r
      exact ⟨_, _, rfl, ex_t e t⟩
theorem rpa_pwF {H : Hp} (e : Ex G H) : ∀ {ys : List V} {qs : List (Int × D)}, RpA K G ys (qs.map fsD) → ys.Pairwise (fun x y => ∀ n m, Fst K H x n → Fst K H y m → n ≤ m) → qs.Pairwise fun p q => p.1 ≤ q.1
  | ys, [], _, _ => .nil
  | ys, q :: qs, r, h => by
    cases r with
    | @cons v _ vs _ a b =>
      rw [List.pairwise_cons] at h ⊢
      refine ⟨fun q' hq' => ?_, rpa_pwF e b h.2⟩
      obtain ⟨i, hi⟩ := List.getElem?_of_mem hq'
      obtain ⟨v', hv', rv'⟩ := b.get (i := i) (d := fsD q') (by rw [List.getElem?_map, hi]; rfl)
      exact h.1 v' (List.mem_of_getElem? hv') _ _ (fst_at e a) (fst_at e rv')
theorem dn_sortF (h : DE K te ρ fun x => ∃ ps : List (Int × D), (x = .d (.lst (ps.map fsD)) ∨ x = .own (ps.map fsD)) ∧ (ps.map (·.1)).Nodup ∧
    ∀ qs : List (Int × D), qs.Perm ps → (qs.Pairwise fun p q => p.1 ≤ q.1) → QN (qs.map fsD)) : DN K (tCB (rSortF K) (tCons te tNil)) ρ QN := fun U σ L G o H j QH q =>
  h U σ L G o H j _ fun v H1 G1 j1 ⟨e1, x, sx, ps, hx, hnd, k⟩ => by
    obtain ⟨a, vs, rfl, hs, rr⟩ : ∃ a vs, v = .ref a ∧ SqL K H1 a vs ∧ RpA K G1 vs (ps.map fsD) := by
      rcases hx with rfl | rfl
      · cases (sx : Rp K G1 v (.lst (ps.map fsD))) with | lst a b => exact ⟨_, _, rfl, sq_of (j1.up _ _ a), b⟩
      · obtain ⟨a, vs, rfl, hm, b⟩ := sx; exact ⟨a, vs, rfl, sq_of (j1.at hm), b⟩
    refine ⟨a, vs, ps.map (·.1), rfl, hs, by rw [rr.len, List.length_map, List.length_map], fun i x n hx hn => ?_, hnd, fun ys p hp hpw hn => ?_⟩
    · obtain ⟨d, hd, hr⟩ := rr.at hx
      rw [List.getElem?_map] at hn hd
      obtain ⟨p, hp, rfl⟩ := Option.map_eq_some_iff.mp hn
      rw [hp] at hd
      cases hd
      exact fst_at j1.up hr
    · obtain ⟨fs, hfs, rf⟩ := rpa_perm hp rr
      obtain ⟨qs, hq, rfl⟩ := perm_of_map hfs.symm rfl
      exact q _ _ _ (j1.alloc hn) ⟨p, ys, _, G1, rfl, e1, j1.free hn, Ex.new (j1.free hn), upd_same, rf, k qs hq (rpa_pwF j1.up rf hpw)⟩
end
end Wp

set_option Elab.async false
set_option linter.all false
set_option maxRecDepth 100000
set_option maxHeartbeats 4000000
/-! sorted of a tuple of ints. -/
namespace SrtO
open PySem PyProof.Rows Srt
section
variable {prog : Program} {w : World} {A : Around} {E : Value → Shared → Prop} {s : Shared}
theorem collect_tup {l : Addr} {vs : List Value} {o : Obj} {n : Nat} {Q : List Value → Shared → Prop} (ho : s.heap.get? l = some o) (hc : o.cls = .type "tuple") (hd : o.data = .seq vs.toArray n)
    (h : Q vs { s with heap := (s.heap.push (seqObj "list" #[] 0)).update s.heap.objs.size (Obj.mapSeq (· ++ vs.toArray)) }) (hsz : vs.length ≤ sizeLine) :
    wpAny (model prog w) A (collect (.ref l)) Q E s := by
  unfold collect
  refine wpAny_bind (wpAny_runValue (codeAny_builtin entry_proto_collect' ?_))
  show wpAny _ _ (do again (.builtin "list.__iadd__" ⟨[← newList [], .ref l], []⟩)) _ _ s
  refine wpAny_bind (wpAny_newList (wpAny_pure ⟨Code.quiet_builtin _ (by decide +kernel), codeAny_builtin entry_list_iadd' ?_⟩))
  show wpAny _ _ (Builtin.List.listExtendWith (.ref s.heap.objs.size) (.ref l) (.ref s.heap.objs.size)) _ _ { s with heap := s.heap.push (seqObj "list" #[] 0) }
  unfold Builtin.List.listExtendWith
  have ho' : (s.heap.push (seqObj "list" #[] 0)).get? l = some o := Heap.get?_push_of_some _ ho
  refine wpAny_bind (wpAny_typeOf (T := "tuple") ⟨o, ho', hc⟩ ?_)
  have ht : (Value.type "tuple" == Value.type "tuple") = true := by rfl
  rw [if_pos (by rw [ht]; simp)]
  refine wpAny_bind (listItems_at ho' hd ?_)
  refine wpAny_bind (listItems_at (xs := #[]) (n := 0) (Heap.get?_push_size _ rfl) rfl ?_)
  rw [if_neg (by simp)]
  refine wpAny_bind (listUpdate_at (xs := #[]) (n := 0) (Heap.get?_push_size _ rfl) rfl ?_ (Nat.zero_le _) (by show (#[] ++ vs.toArray).size ≤ sizeLine + 1; simp only [Array.size_append, List.size_toArray, List.length_nil]; omega))
  refine wpAny_pure ?_
  show wpAny (model prog w) A (do
      let o ← load s.heap.objs.size
      match o.data with
      | .seq xs _ => pure xs.toList
      | _ => unsupported "internal:collect") Q E { s with heap := (s.heap.push (seqObj "list" #[] 0)).update s.heap.objs.size (Obj.mapSeq (· ++ vs.toArray)) }
  refine wpAny_bind (wpAny_load (get?_update_seq (Heap.get?_push_size _ rfl) _) ?_)
  show wpAny _ _ (pure ((#[] : Array Value) ++ vs.toArray).toList) Q E _
  rw [show ((#[] : Array Value) ++ vs.toArray).toList = vs by simp]
  exact wpAny_pure h
theorem sorted_ordT {l : Addr} {vs : List Value} {o : Obj} {n : Nat} {ltv : Value → Value → Bool} {Q : Value → Shared → Prop} (O : Swo ltv) (ho : s.heap.get? l = some o) (hc : o.cls = .type "tuple") (hd : o.data = .seq vs.toArray n) (hz : vs.length ≤ sizeLine)
    (hS : 2 ≤ vs.length → ∀ (h₁ : Heap) (a : Addr), h₁.get? a = some (seqObj "list" vs.toArray 0) → (∀ b o, s.heap.get? b = some o → b ≠ a ∧ h₁.get? b = some o) → SortableO prog w A.in1.in1 { s with heap := h₁ } a vs ltv)
    (h : ∀ out : List Value, Srtd ltv out → Stb ltv out vs → Q (.ref (s.heap.objs.size + 1)) { s with heap := sortedAll s.heap vs out.toArray }) :
    wpAny (model prog w) A (call (.builtin "sorted") [.ref l]) Q E s := by
  refine Calls.call_function_entry kind_sorted plain_sorted entry_sorted (args_sorted1 _) ?_
  unfold Builtin.«sorted»
  refine wpAny_bind (m := checkCount "sorted" 1 1 _) (wpAny_pure ?_)
  refine wpAny_bind (collect_tup ho hc hd ?_ hz)
  refine wpAny_bind (wpAny_newList ?_ hz)
  have hsz : ((s.heap.push (seqObj "list" #[] 0)).update s.heap.objs.size (Obj.mapSeq (· ++ vs.toArray))).objs.size = s.heap.objs.size + 1 := by
    rw [Heap.size_update, size_push']
  have hoL : (((s.heap.push (seqObj "list" #[] 0)).update s.heap.objs.size (Obj.mapSeq (· ++ vs.toArray))).push (seqObj "list" vs.toArray 0)).get? (s.heap.objs.size + 1) = some (seqObj "list" vs.toArray 0) := by
    rw [← hsz]; exact Heap.get?_push_size _ rfl
  have keep : ∀ b o, s.heap.get? b = some o → b ≠ s.heap.objs.size + 1 ∧ (((s.heap.push (seqObj "list" #[] 0)).update s.heap.objs.size (Obj.mapSeq (· ++ vs.toArray))).push (seqObj "list" vs.toArray 0)).get? b = some o := fun b o q => by
    have hlt : b < s.heap.objs.size := Heap.lt_size q
    refine ⟨Nat.ne_of_lt (Nat.lt_succ_of_lt hlt), Heap.get?_push_of_some _ ?_⟩
    rw [Heap.get?_update_ne _ _ _ _ (Nat.ne_of_lt hlt)]
    exact Heap.get?_push_of_some _ q
  show wpAny _ _ _ _ _ { s with heap := ((s.heap.push (seqObj "list" #[] 0)).update s.heap.objs.size (Obj.mapSeq (· ++ vs.toArray))).push (seqObj "list" vs.toArray 0) }
  rw [hsz]
  refine wpAny_bind (wpAny_holding (wpAny_call_entry slot_list_sort ⟨_, hoL, rfl⟩ entry_list_sort (list_sort_ord O hoL hz (fun h2 => hS h2 _ _ hoL keep) fun out hs hb => ⟨_, rfl, ?_⟩) (args_list_sort _)))
  exact wpAny_pure ⟨_, rfl, h out hs hb⟩
end
end SrtO
namespace L2
open PySem PySem.Spec PyProof.Rows
def rSortTI (K : PySem.W.Frag) : List V → Hp → VK → Prop := fun vs H Q => ∃ (a : Addr) (ns : List Int), vs = [V.ref a] ∧ SqT K H a (ns.map V.int) ∧ ∀ (ns' : List Int) (p : Addr), ns'.Perm ns → ns'.Pairwise (· ≤ ·) → H p = none → Q (.ref p) (upd H p (.lst (ns'.map V.int)))
section
variable {X : Cx}
theorem cr_sortTI {K : PySem.W.Frag} (h : X.K = K := by rfl) : CallR X (.builtin "sorted") (rSortTI K) := by
  subst h
  intro pins s σ H vs us Q I r h
  obtain ⟨a, ns, rfl, hs, q⟩ := h
  obtain ⟨its, rv, ⟨o, ho, hc, n, hd⟩, hz⟩ := I.tuple hs
  obtain ⟨u, rfl, ru⟩ := vals1 r
  obtain rfl : u = Value.ref a := ru
  have hi := rv.ints
  refine SrtO.sorted_ordT SrtO.swo_int ho hc hd (by rw [← rv.length]; exact hz) (fun h2 h₁ a' _ _ => SrtO.ints_sortable hi h2) fun out h1 h2 => ?_
  obtain ⟨k1, k2, k3⟩ := SrtO.ints_out hi h1 h2
  obtain ⟨ep, he'⟩ := PyProof.Rows.sortedAll_at s.heap its out.toArray
  have hlen : ((out.map SrtO.iv).map V.int).length ≤ sizeLine := by
    rw [List.length_map, k2.length_eq]
    rw [List.length_map] at hz
    exact hz
  exact ⟨.ref _, upd H (s.heap.objs.size + 1) (.lst ((out.map SrtO.iv).map V.int)), I.laid (t' := s.toks) (fun _ _ => PyProof.Rows.sortedAll_old) (Nat.le_succ _) ⟨hlen, _, ep, vals_of_ints k1, he'⟩, rfl, q _ _ k2 k3 (I.hok.fresh (Nat.le_succ _))⟩
end
end L2
namespace Wp
open PySem L2 Evl StX
set_option autoImplicit false
section
variable {K : PySem.W.Frag} {ρ : List E} {te : TE} {QN : List D → Prop}
theorem dc_gE {α : Type} {args : α → List D} {pre : α → Prop} {res : α → D} {ds : List D} {Q : E → Prop} (x : α) (h : ds = args x) (p : pre x) {d : D} (hd : res x = d) (k : Q (.d d)) : DC K (spG K args pre res) ds Q := by subst hd; exact dc_g x h p k
theorem dn_sortTI (h : DE K te ρ fun x => ∃ ns : List Int, x = .d (.tup (ns.map D.int)) ∧ ∀ qs : List Int, qs.Perm ns → (qs.Pairwise fun p q => p ≤ q) → QN (qs.map D.int)) : DN K (tCB (rSortTI K) (tCons te tNil)) ρ QN := fun U σ L G o H j QH q =>
  h U σ L G o H j _ fun v H1 G1 j1 ⟨e1, x, sx, ns, hx, k⟩ => by
    subst hx
    cases (sx : Rp K G1 v (.tup (ns.map D.int))) with
    | @tup a vs ds t r =>
      have : vs = ns.map V.int := by
        have aux : ∀ (ns : List Int) (vs : List V), RpA K G1 vs (ns.map D.int) → vs = ns.map V.int := fun ns => by
          induction ns with
          | nil => intro vs r; cases r; rfl
          | cons n ns ih =>
            intro vs r
            cases r with
            | cons a b => cases a; rw [ih _ b]; rfl
        exact aux _ _ r
      subst this
      refine ⟨a, ns, rfl, ex_t j1.up t, fun ys p hp hpw hn => ?_⟩
      have rr : RpA K G1 (ys.map V.int) (ys.map D.int) := by
        clear hp hpw
        induction ys with
        | nil => exact .nil
        | cons y ys ih => exact .cons (.int y) ih
      exact q _ _ _ (j1.alloc hn) ⟨p, _, _, G1, rfl, e1, j1.free hn, Ex.new (j1.free hn), upd_same, rr, k ys hp hpw⟩
end
end Wp


set_option Elab.async false
set_option linter.all false
set_option maxRecDepth 100000
set_option maxHeartbeats 4000000
set_option pp.maxSteps 250
namespace Pf
open PySem PySem.Spec PyProof.Rows L2 Evl Wp StX
set_option autoImplicit false




def top (i : Nat) : Stmt := PySem.Challenge.pw_offing_k39_double_signers.main.body.getD i (.Pass ⟨0, 0, 0, 0⟩)
abbrev s_Hasher___init__ : Stmt := inClass (top 11) 0
theorem sc_Hasher___init__ : FnScope ["self", "width"] ["self", "width"] (defScope s_Hasher___init__) := ⟨rfl, rfl, rfl, by decide +kernel, rfl, by decide +kernel, by decide +kernel⟩
abbrev s_Hasher_digest : Stmt := inClass (top 11) 1
theorem sc_Hasher_digest : FnScope ["self", "tag", "numbers", "mix"] ["self", "tag", "numbers"] (defScope s_Hasher_digest) := ⟨rfl, rfl, rfl, by decide +kernel, rfl, by decide +kernel, by decide +kernel⟩
abbrev s_Hasher_is_digest : Stmt := inClass (top 11) 2
theorem sc_Hasher_is_digest : FnScope ["self", "number"] ["self", "number"] (defScope s_Hasher_is_digest) := ⟨rfl, rfl, rfl, by decide +kernel, rfl, by decide +kernel, by decide +kernel⟩
abbrev s_are_digests : Stmt := top 12
theorem sc_are_digests : FnScope ["hasher", "numbers", "number"] ["hasher", "numbers"] (defScope s_are_digests) := ⟨rfl, rfl, rfl, by decide +kernel, rfl, by decide +kernel, by decide +kernel⟩
abbrev s_limbs_of : Stmt := top 13
theorem sc_limbs_of : FnScope ["numbers", "limbs", "number", "many", "place"] ["numbers"] (defScope s_limbs_of) := ⟨rfl, rfl, rfl, by decide +kernel, rfl, by decide +kernel, by decide +kernel⟩
abbrev s_mixed : Stmt := top 14
theorem sc_mixed : FnScope ["limbs", "first", "second", "limb"] ["limbs"] (defScope s_mixed) := ⟨rfl, rfl, rfl, by decide +kernel, rfl, by decide +kernel, by decide +kernel⟩
abbrev s_digits_of : Stmt := top 24
theorem sc_digits_of : FnScope ["width", "message", "digits", "check", "digit"] ["width", "message"] (defScope s_digits_of) := ⟨rfl, rfl, rfl, by decide +kernel, rfl, by decide +kernel, by decide +kernel⟩
abbrev s_base_digits : Stmt := top 25
theorem sc_base_digits : FnScope ["number", "many", "place"] ["number", "many"] (defScope s_base_digits) := ⟨rfl, rfl, rfl, by decide +kernel, rfl, by decide +kernel, by decide +kernel⟩
abbrev s_message_digits : Stmt := top 26
theorem sc_message_digits : FnScope ["width"] ["width"] (defScope s_message_digits) := ⟨rfl, rfl, rfl, by decide +kernel, rfl, by decide +kernel, by decide +kernel⟩
abbrev s_check_digits : Stmt := top 27
theorem sc_check_digits : FnScope ["width", "greatest"] ["width"] (defScope s_check_digits) := ⟨rfl, rfl, rfl, by decide +kernel, rfl, by decide +kernel, by decide +kernel⟩
abbrev s_chain_count : Stmt := top 28
theorem sc_chain_count : FnScope ["width"] ["width"] (defScope s_chain_count) := ⟨rfl, rfl, rfl, by decide +kernel, rfl, by decide +kernel, by decide +kernel⟩
abbrev s_next_word : Stmt := top 29
theorem sc_next_word : FnScope ["hasher", "index", "chain", "step", "word"] ["hasher", "index", "chain", "step", "word"] (defScope s_next_word) := ⟨rfl, rfl, rfl, by decide +kernel, rfl, by decide +kernel, by decide +kernel⟩
abbrev s_followed : Stmt := top 30
theorem sc_followed : FnScope ["hasher", "index", "chain", "step", "word", "last", "at"] ["hasher", "index", "chain", "step", "word", "last"] (defScope s_followed) := ⟨rfl, rfl, rfl, by decide +kernel, rfl, by decide +kernel, by decide +kernel⟩
abbrev s_Signer___init__ : Stmt := inClass (top 31) 0
theorem sc_Signer___init__ : FnScope ["self", "hasher", "secret", "levels"] ["self", "hasher", "secret", "levels"] (defScope s_Signer___init__) := ⟨rfl, rfl, rfl, by decide +kernel, rfl, by decide +kernel, by decide +kernel⟩
abbrev s_Signer_sign : Stmt := inClass (top 31) 1
theorem sc_Signer_sign : FnScope ["self", "index", "message", "digits", "words", "beside", "chain", "digit", "level"] ["self", "index", "message"] (defScope s_Signer_sign) := ⟨rfl, rfl, rfl, by decide +kernel, rfl, by decide +kernel, by decide +kernel⟩
abbrev s_Signer_word : Stmt := inClass (top 31) 2
theorem sc_Signer_word : FnScope ["self", "index", "chain", "step", "start"] ["self", "index", "chain", "step"] (defScope s_Signer_word) := ⟨rfl, rfl, rfl, by decide +kernel, rfl, by decide +kernel, by decide +kernel⟩
abbrev s_Signer__node : Stmt := inClass (top 31) 3
theorem sc_Signer__node : FnScope ["self", "level", "place", "at"] ["self", "level", "place"] (defScope s_Signer__node) := ⟨rfl, rfl, rfl, by decide +kernel, rfl, by decide +kernel, by decide +kernel⟩
abbrev s_Signer__made_node : Stmt := inClass (top 31) 4
theorem sc_Signer__made_node : FnScope ["self", "level", "place", "chains", "ends", "left", "right", "chain"] ["self", "level", "place"] (defScope s_Signer__made_node) := ⟨rfl, rfl, rfl, by decide +kernel, rfl, by decide +kernel, by decide +kernel⟩
abbrev s_verify : Stmt := top 32
theorem sc_verify : FnScope ["hasher", "public", "message", "signature", "tag", "numbers"] ["hasher", "public", "message", "signature"] (defScope s_verify) := ⟨rfl, rfl, rfl, by decide +kernel, rfl, by decide +kernel, by decide +kernel⟩
abbrev s_has_shape : Stmt := top 33
theorem sc_has_shape : FnScope ["hasher", "signature", "levels"] ["hasher", "signature"] (defScope s_has_shape) := ⟨rfl, rfl, rfl, by decide +kernel, rfl, by decide +kernel, by decide +kernel⟩
abbrev s_told_inputs : Stmt := top 34
theorem sc_told_inputs : FnScope ["hasher", "message", "signature", "index", "digits", "words", "ends", "inputs", "beside", "below", "level", "other", "is_right", "numbers", "chain", "word"] ["hasher", "message", "signature"] (defScope s_told_inputs) := ⟨rfl, rfl, rfl, by decide +kernel, rfl, by decide +kernel, by decide +kernel⟩
abbrev s_members_fault : Stmt := top 39
theorem sc_members_fault : FnScope ["members", "before", "public", "weight"] ["members"] (defScope s_members_fault) := ⟨rfl, rfl, rfl, by decide +kernel, rfl, by decide +kernel, by decide +kernel⟩
abbrev s_members_numbers : Stmt := top 40
theorem sc_members_numbers : FnScope ["members", "numbers", "public", "weight"] ["members"] (defScope s_members_numbers) := ⟨rfl, rfl, rfl, by decide +kernel, rfl, by decide +kernel, by decide +kernel⟩
abbrev s_members_root : Stmt := top 41
theorem sc_members_root : FnScope ["hasher", "members"] ["hasher", "members"] (defScope s_members_root) := ⟨rfl, rfl, rfl, by decide +kernel, rfl, by decide +kernel, by decide +kernel⟩
abbrev s_total : Stmt := top 42
theorem sc_total : FnScope ["members", "public", "weight"] ["members"] (defScope s_total) := ⟨rfl, rfl, rfl, by decide +kernel, rfl, by decide +kernel, by decide +kernel⟩
abbrev s_weight_of : Stmt := top 43
theorem sc_weight_of : FnScope ["members", "publics", "public", "weight"] ["members", "publics"] (defScope s_weight_of) := ⟨rfl, rfl, rfl, by decide +kernel, rfl, by decide +kernel, by decide +kernel⟩
abbrev s_more_than : Stmt := top 44
theorem sc_more_than : FnScope ["members", "publics", "parts", "whole"] ["members", "publics", "parts", "whole"] (defScope s_more_than) := ⟨rfl, rfl, rfl, by decide +kernel, rfl, by decide +kernel, by decide +kernel⟩
abbrev s_signers : Stmt := top 45
theorem sc_signers : FnScope ["hasher", "message", "members", "votes", "is_member", "has_signed", "public", "signature", "weight"] ["hasher", "message", "members", "votes"] (defScope s_signers) := ⟨rfl, rfl, rfl, by decide +kernel, rfl, by decide +kernel, by decide +kernel⟩
abbrev s_Header___init__ : Stmt := inClass (top 49) 0
theorem sc_Header___init__ : FnScope ["self", "chain", "height", "time", "previous", "state", "members", "following"] ["self", "chain", "height", "time", "previous", "state", "members", "following"] (defScope s_Header___init__) := ⟨rfl, rfl, rfl, by decide +kernel, rfl, by decide +kernel, by decide +kernel⟩
abbrev s_Header___eq__ : Stmt := inClass (top 49) 1
theorem sc_Header___eq__ : FnScope ["self", "other"] ["self", "other"] (defScope s_Header___eq__) := ⟨rfl, rfl, rfl, by decide +kernel, rfl, by decide +kernel, by decide +kernel⟩
abbrev s_Header_fields : Stmt := inClass (top 49) 2
theorem sc_Header_fields : FnScope ["self"] ["self"] (defScope s_Header_fields) := ⟨rfl, rfl, rfl, by decide +kernel, rfl, by decide +kernel, by decide +kernel⟩
abbrev s_Block___init__ : Stmt := inClass (top 50) 0
theorem sc_Block___init__ : FnScope ["self", "header", "members", "following", "votes"] ["self", "header", "members", "following", "votes"] (defScope s_Block___init__) := ⟨rfl, rfl, rfl, by decide +kernel, rfl, by decide +kernel, by decide +kernel⟩
abbrev s_Block___eq__ : Stmt := inClass (top 50) 1
theorem sc_Block___eq__ : FnScope ["self", "other"] ["self", "other"] (defScope s_Block___eq__) := ⟨rfl, rfl, rfl, by decide +kernel, rfl, by decide +kernel, by decide +kernel⟩
abbrev s_header_digest : Stmt := top 51
theorem sc_header_digest : FnScope ["hasher", "header"] ["hasher", "header"] (defScope s_header_digest) := ⟨rfl, rfl, rfl, by decide +kernel, rfl, by decide +kernel, by decide +kernel⟩
abbrev s_vote_message : Stmt := top 52
theorem sc_vote_message : FnScope ["hasher", "header"] ["hasher", "header"] (defScope s_vote_message) := ⟨rfl, rfl, rfl, by decide +kernel, rfl, by decide +kernel, by decide +kernel⟩
abbrev s_block_signers : Stmt := top 53
theorem sc_block_signers : FnScope ["hasher", "block"] ["hasher", "block"] (defScope s_block_signers) := ⟨rfl, rfl, rfl, by decide +kernel, rfl, by decide +kernel, by decide +kernel⟩
abbrev s_is_root_of : Stmt := top 54
theorem sc_is_root_of : FnScope ["hasher", "root", "members"] ["hasher", "root", "members"] (defScope s_is_root_of) := ⟨rfl, rfl, rfl, by decide +kernel, rfl, by decide +kernel, by decide +kernel⟩
abbrev s_lists_fault : Stmt := top 55
theorem sc_lists_fault : FnScope ["hasher", "block"] ["hasher", "block"] (defScope s_lists_fault) := ⟨rfl, rfl, rfl, by decide +kernel, rfl, by decide +kernel, by decide +kernel⟩
abbrev s_has_negative : Stmt := top 56
theorem sc_has_negative : FnScope ["header", "number"] ["header"] (defScope s_has_negative) := ⟨rfl, rfl, rfl, by decide +kernel, rfl, by decide +kernel, by decide +kernel⟩
abbrev s_block_fault : Stmt := top 57
theorem sc_block_fault : FnScope ["hasher", "chain", "block", "fault"] ["hasher", "chain", "block"] (defScope s_block_fault) := ⟨rfl, rfl, rfl, by decide +kernel, rfl, by decide +kernel, by decide +kernel⟩
abbrev s_double_signers : Stmt := top 59
theorem sc_double_signers : FnScope ["hasher", "first", "second", "others", "public"] ["hasher", "first", "second"] (defScope s_double_signers) := ⟨rfl, rfl, rfl, by decide +kernel, rfl, by decide +kernel, by decide +kernel⟩
abbrev s__law_number : Stmt := top 61
theorem sc__law_number : FnScope ["cell", "k", "mixed_v"] ["cell", "k"] (defScope s__law_number) := ⟨rfl, rfl, rfl, by decide +kernel, rfl, by decide +kernel, by decide +kernel⟩
abbrev s__law_cells : Stmt := top 62
theorem sc__law_cells : FnScope ["script", "count", "cells", "cell"] ["script", "count"] (defScope s__law_cells) := ⟨rfl, rfl, rfl, by decide +kernel, rfl, by decide +kernel, by decide +kernel⟩
abbrev s__law_block : Stmt := top 63
theorem sc__law_block : FnScope ["hasher", "keys", "weights", "y", "members", "root", "header", "message", "rest", "votes", "signer", "k"] ["hasher", "keys", "weights", "y"] (defScope s__law_block) := ⟨rfl, rfl, rfl, by decide +kernel, rfl, by decide +kernel, by decide +kernel⟩
abbrev s_law : Stmt := top 64
theorem sc_law : FnScope ["script", "cells", "x", "hasher", "keys", "k", "signer", "weights", "first", "second", "told", "due", "sound", "weight", "one", "public"] ["script"] (defScope s_law) := ⟨rfl, rfl, rfl, by decide +kernel, rfl, by decide +kernel, by decide +kernel⟩
structure Txt (K : PySem.W.Frag) (mg : Str → Option Value) where
  fd_Hasher___init__ : FuncData
  Hasher___init__ : MDef K mg "__init__" "Hasher.__init__" s_Hasher___init__ ["self", "width"] (He.fAd K ("Hasher", some "__init__")) fd_Hasher___init__
  fd_Hasher_digest : FuncData
  Hasher_digest : MDef K mg "digest" "Hasher.digest" s_Hasher_digest ["self", "tag", "numbers"] (He.fAd K ("Hasher", some "digest")) fd_Hasher_digest
  fd_Hasher_is_digest : FuncData
  Hasher_is_digest : MDef K mg "is_digest" "Hasher.is_digest" s_Hasher_is_digest ["self", "number"] (He.fAd K ("Hasher", some "is_digest")) fd_Hasher_is_digest
  fd_are_digests : FuncData
  are_digests : Def K mg "are_digests" "are_digests" s_are_digests ["hasher", "numbers"] (He.fAd K ("are_digests", none)) fd_are_digests
  fd_limbs_of : FuncData
  limbs_of : Def K mg "limbs_of" "limbs_of" s_limbs_of ["numbers"] (He.fAd K ("limbs_of", none)) fd_limbs_of
  fd_mixed : FuncData
  mixed : Def K mg "mixed" "mixed" s_mixed ["limbs"] (He.fAd K ("mixed", none)) fd_mixed
  fd_digits_of : FuncData
  digits_of : Def K mg "digits_of" "digits_of" s_digits_of ["width", "message"] (He.fAd K ("digits_of", none)) fd_digits_of
  fd_base_digits : FuncData
  base_digits : Def K mg "base_digits" "base_digits" s_base_digits ["number", "many"] (He.fAd K ("base_digits", none)) fd_base_digits
  fd_message_digits : FuncData
  message_digits : Def K mg "message_digits" "message_digits" s_message_digits ["width"] (He.fAd K ("message_digits", none)) fd_message_digits
  fd_check_digits : FuncData
  check_digits : Def K mg "check_digits" "check_digits" s_check_digits ["width"] (He.fAd K ("check_digits", none)) fd_check_digits
  fd_chain_count : FuncData
  chain_count : Def K mg "chain_count" "chain_count" s_chain_count ["width"] (He.fAd K ("chain_count", none)) fd_chain_count
  fd_next_word : FuncData
  next_word : Def K mg "next_word" "next_word" s_next_word ["hasher", "index", "chain", "step", "word"] (He.fAd K ("next_word", none)) fd_next_word
  fd_followed : FuncData
  followed : Def K mg "followed" "followed" s_followed ["hasher", "index", "chain", "step", "word", "last"] (He.fAd K ("followed", none)) fd_followed
  fd_Signer___init__ : FuncData
  Signer___init__ : MDef K mg "__init__" "Signer.__init__" s_Signer___init__ ["self", "hasher", "secret", "levels"] (He.fAd K ("Signer", some "__init__")) fd_Signer___init__
  fd_Signer_sign : FuncData
  Signer_sign : MDef K mg "sign" "Signer.sign" s_Signer_sign ["self", "index", "message"] (He.fAd K ("Signer", some "sign")) fd_Signer_sign
  fd_Signer_word : FuncData
  Signer_word : MDef K mg "word" "Signer.word" s_Signer_word ["self", "index", "chain", "step"] (He.fAd K ("Signer", some "word")) fd_Signer_word
  fd_Signer__node : FuncData
  Signer__node : MDef K mg "_node" "Signer._node" s_Signer__node ["self", "level", "place"] (He.fAd K ("Signer", some "_node")) fd_Signer__node
  fd_Signer__made_node : FuncData
  Signer__made_node : MDef K mg "_made_node" "Signer._made_node" s_Signer__made_node ["self", "level", "place"] (He.fAd K ("Signer", some "_made_node")) fd_Signer__made_node
  fd_verify : FuncData
  verify : Def K mg "verify" "verify" s_verify ["hasher", "public", "message", "signature"] (He.fAd K ("verify", none)) fd_verify
  fd_has_shape : FuncData
  has_shape : Def K mg "has_shape" "has_shape" s_has_shape ["hasher", "signature"] (He.fAd K ("has_shape", none)) fd_has_shape
  fd_told_inputs : FuncData
  told_inputs : Def K mg "told_inputs" "told_inputs" s_told_inputs ["hasher", "message", "signature"] (He.fAd K ("told_inputs", none)) fd_told_inputs
  fd_members_fault : FuncData
  members_fault : Def K mg "members_fault" "members_fault" s_members_fault ["members"] (He.fAd K ("members_fault", none)) fd_members_fault
  fd_members_numbers : FuncData
  members_numbers : Def K mg "members_numbers" "members_numbers" s_members_numbers ["members"] (He.fAd K ("members_numbers", none)) fd_members_numbers
  fd_members_root : FuncData
  members_root : Def K mg "members_root" "members_root" s_members_root ["hasher", "members"] (He.fAd K ("members_root", none)) fd_members_root
  fd_total : FuncData
  total : Def K mg "total" "total" s_total ["members"] (He.fAd K ("total", none)) fd_total
  fd_weight_of : FuncData
  weight_of : Def K mg "weight_of" "weight_of" s_weight_of ["members", "publics"] (He.fAd K ("weight_of", none)) fd_weight_of
  fd_more_than : FuncData
  more_than : Def K mg "more_than" "more_than" s_more_than ["members", "publics", "parts", "whole"] (He.fAd K ("more_than", none)) fd_more_than
  fd_signers : FuncData
  signers : Def K mg "signers" "signers" s_signers ["hasher", "message", "members", "votes"] (He.fAd K ("signers", none)) fd_signers
  fd_Header___init__ : FuncData
  Header___init__ : MDef K mg "__init__" "Header.__init__" s_Header___init__ ["self", "chain", "height", "time", "previous", "state", "members", "following"] (He.fAd K ("Header", some "__init__")) fd_Header___init__
  fd_Header___eq__ : FuncData
  Header___eq__ : MDef K mg "__eq__" "Header.__eq__" s_Header___eq__ ["self", "other"] (He.fAd K ("Header", some "__eq__")) fd_Header___eq__
  fd_Header_fields : FuncData
  Header_fields : MDef K mg "fields" "Header.fields" s_Header_fields ["self"] (He.fAd K ("Header", some "fields")) fd_Header_fields
  fd_Block___init__ : FuncData
  Block___init__ : MDef K mg "__init__" "Block.__init__" s_Block___init__ ["self", "header", "members", "following", "votes"] (He.fAd K ("Block", some "__init__")) fd_Block___init__
  fd_Block___eq__ : FuncData
  Block___eq__ : MDef K mg "__eq__" "Block.__eq__" s_Block___eq__ ["self", "other"] (He.fAd K ("Block", some "__eq__")) fd_Block___eq__
  fd_header_digest : FuncData
  header_digest : Def K mg "header_digest" "header_digest" s_header_digest ["hasher", "header"] (He.fAd K ("header_digest", none)) fd_header_digest
  fd_vote_message : FuncData
  vote_message : Def K mg "vote_message" "vote_message" s_vote_message ["hasher", "header"] (He.fAd K ("vote_message", none)) fd_vote_message
  fd_block_signers : FuncData
  block_signers : Def K mg "block_signers" "block_signers" s_block_signers ["hasher", "block"] (He.fAd K ("block_signers", none)) fd_block_signers
  fd_is_root_of : FuncData
  is_root_of : Def K mg "is_root_of" "is_root_of" s_is_root_of ["hasher", "root", "members"] (He.fAd K ("is_root_of", none)) fd_is_root_of
  fd_lists_fault : FuncData
  lists_fault : Def K mg "lists_fault" "lists_fault" s_lists_fault ["hasher", "block"] (He.fAd K ("lists_fault", none)) fd_lists_fault
  fd_has_negative : FuncData
  has_negative : Def K mg "has_negative" "has_negative" s_has_negative ["header"] (He.fAd K ("has_negative", none)) fd_has_negative
  fd_block_fault : FuncData
  block_fault : Def K mg "block_fault" "block_fault" s_block_fault ["hasher", "chain", "block"] (He.fAd K ("block_fault", none)) fd_block_fault
  fd_double_signers : FuncData
  double_signers : Def K mg "double_signers" "double_signers" s_double_signers ["hasher", "first", "second"] (He.fAd K ("double_signers", none)) fd_double_signers
  fd__law_number : FuncData
  _law_number : Def K mg "_law_number" "_law_number" s__law_number ["cell", "k"] (He.fAd K ("_law_number", none)) fd__law_number
  fd__law_cells : FuncData
  _law_cells : Def K mg "_law_cells" "_law_cells" s__law_cells ["script", "count"] (He.fAd K ("_law_cells", none)) fd__law_cells
  fd__law_block : FuncData
  _law_block : Def K mg "_law_block" "_law_block" s__law_block ["hasher", "keys", "weights", "y"] (He.fAd K ("_law_block", none)) fd__law_block
  fd_law : FuncData
  law : Def K mg "law" "law" s_law ["script"] (He.fAd K ("law", none)) fd_law
  cl_Block : Cls K (He.ga K "Block")
  g_Block : mg "Block" = some (.ref (He.ga K "Block"))
  cl_Hasher : Cls K (He.ga K "Hasher")
  g_Hasher : mg "Hasher" = some (.ref (He.ga K "Hasher"))
  cl_Header : Cls K (He.ga K "Header")
  g_Header : mg "Header" = some (.ref (He.ga K "Header"))
  cl_Signer : Cls K (He.ga K "Signer")
  g_Signer : mg "Signer" = some (.ref (He.ga K "Signer"))
  eq_Block : EqC K (He.ga K "Block")
  eq_Header : EqC K (He.ga K "Header")
  z_all : mg "all" = none
  z_any : mg "any" = none
  z_enumerate : mg "enumerate" = none
  z_int : mg "int" = none
  z_isinstance : mg "isinstance" = none
  z_len : mg "len" = none
  z_list : mg "list" = none
  z_max : mg "max" = none
  z_min : mg "min" = none
  z_range : mg "range" = none
  z_sorted : mg "sorted" = none
  z_sum : mg "sum" = none
  z_tuple : mg "tuple" = none
  c_DIGIT_BITS : ∃ t, mg "DIGIT_BITS" = some (.int 4 t)
  c_FIRST_FACTOR : ∃ t, mg "FIRST_FACTOR" = some (.int 15241578750190521011 t)
  c_FIRST_SHIFT : ∃ t, mg "FIRST_SHIFT" = some (.int 31 t)
  c_FIRST_START : ∃ t, mg "FIRST_START" = some (.int 7263541890216354987 t)
  c_GREATEST_DIGIT : ∃ t, mg "GREATEST_DIGIT" = some (.int 15 t)
  c_GREATEST_LEVELS : ∃ t, mg "GREATEST_LEVELS" = some (.int 6 t)
  c_GREATEST_WEIGHT : ∃ t, mg "GREATEST_WEIGHT" = some (.int 1000000 t)
  c_HEADER_TAG : ∃ t, mg "HEADER_TAG" = some (.int 8 t)
  c_KEY_TAG : ∃ t, mg "KEY_TAG" = some (.int 5 t)
  c_LAST_STEP : ∃ t, mg "LAST_STEP" = some (.int 15 t)
  c_LIMB_BITS : ∃ t, mg "LIMB_BITS" = some (.int 32 t)
  c_LIMB_MASK : ∃ t, mg "LIMB_MASK" = some (.int 4294967295 t)
  c_MEMBERS_TAG : ∃ t, mg "MEMBERS_TAG" = some (.int 9 t)
  c_MIX_BITS : ∃ t, mg "MIX_BITS" = some (.int 128 t)
  c_MOST_MEMBERS : ∃ t, mg "MOST_MEMBERS" = some (.int 64 t)
  c_NODE_TAG : ∃ t, mg "NODE_TAG" = some (.int 6 t)
  c_SECOND_FACTOR : ∃ t, mg "SECOND_FACTOR" = some (.int 9764318250173649287 t)
  c_SECOND_SHIFT : ∃ t, mg "SECOND_SHIFT" = some (.int 29 t)
  c_SECOND_START : ∃ t, mg "SECOND_START" = some (.int 12985647301928374651 t)
  c_SECRET_TAG : ∃ t, mg "SECRET_TAG" = some (.int 7 t)
  c_STEP_TAG : ∃ t, mg "STEP_TAG" = some (.int 4 t)
  c_VOTE_TAG : ∃ t, mg "VOTE_TAG" = some (.int 10 t)
  c_WORD_MASK : ∃ t, mg "WORD_MASK" = some (.int 18446744073709551615 t)
  me_Hasher_digest : Meth K (He.ga K "Hasher") "digest" (He.fAd K ("Hasher", some "digest"))
  me_Hasher_is_digest : Meth K (He.ga K "Hasher") "is_digest" (He.fAd K ("Hasher", some "is_digest"))
  me_Header___eq__ : Meth K (He.ga K "Header") "__eq__" (He.fAd K ("Header", some "__eq__"))
  me_Header_fields : Meth K (He.ga K "Header") "fields" (He.fAd K ("Header", some "fields"))
  me_Signer__made_node : Meth K (He.ga K "Signer") "_made_node" (He.fAd K ("Signer", some "_made_node"))
  me_Signer__node : Meth K (He.ga K "Signer") "_node" (He.fAd K ("Signer", some "_node"))
  me_Signer_sign : Meth K (He.ga K "Signer") "sign" (He.fAd K ("Signer", some "sign"))
  me_Signer_word : Meth K (He.ga K "Signer") "word" (He.fAd K ("Signer", some "word"))
  mk_Block : Mk K (He.ga K "Block") (He.fAd K ("Block", some "__init__"))
  mk_Hasher : Mk K (He.ga K "Hasher") (He.fAd K ("Hasher", some "__init__"))
  mk_Header : Mk K (He.ga K "Header") (He.fAd K ("Header", some "__init__"))
  mk_Signer : Mk K (He.ga K "Signer") (He.fAd K ("Signer", some "__init__"))
  n_Block_following : NoAttr K (He.ga K "Block") "following"
  n_Block_header : NoAttr K (He.ga K "Block") "header"
  n_Block_members : NoAttr K (He.ga K "Block") "members"
  n_Block_votes : NoAttr K (He.ga K "Block") "votes"
  n_Hasher_width : NoAttr K (He.ga K "Hasher") "width"
  n_Header_chain : NoAttr K (He.ga K "Header") "chain"
  n_Header_following : NoAttr K (He.ga K "Header") "following"
  n_Header_height : NoAttr K (He.ga K "Header") "height"
  n_Header_members : NoAttr K (He.ga K "Header") "members"
  n_Header_previous : NoAttr K (He.ga K "Header") "previous"
  n_Header_state : NoAttr K (He.ga K "Header") "state"
  n_Header_time : NoAttr K (He.ga K "Header") "time"
  n_Signer__nodes : NoAttr K (He.ga K "Signer") "_nodes"
  n_Signer_hasher : NoAttr K (He.ga K "Signer") "hasher"
  n_Signer_levels : NoAttr K (He.ga K "Signer") "levels"
  n_Signer_public : NoAttr K (He.ga K "Signer") "public"
  n_Signer_secret : NoAttr K (He.ga K "Signer") "secret"
def dd_Hasher___init__ : He.DefD := ⟨("Hasher", some "__init__"), "__init__", "Hasher.__init__", defArgs s_Hasher___init__, defBody s_Hasher___init__, defScope s_Hasher___init__, [], []⟩
def dd_Hasher_digest : He.DefD := ⟨("Hasher", some "digest"), "digest", "Hasher.digest", defArgs s_Hasher_digest, defBody s_Hasher_digest, defScope s_Hasher_digest, [], []⟩
def dd_Hasher_is_digest : He.DefD := ⟨("Hasher", some "is_digest"), "is_digest", "Hasher.is_digest", defArgs s_Hasher_is_digest, defBody s_Hasher_is_digest, defScope s_Hasher_is_digest, [], []⟩
def dd_are_digests : He.DefD := ⟨("are_digests", none), "are_digests", "are_digests", defArgs s_are_digests, defBody s_are_digests, defScope s_are_digests, [], []⟩
def dd_limbs_of : He.DefD := ⟨("limbs_of", none), "limbs_of", "limbs_of", defArgs s_limbs_of, defBody s_limbs_of, defScope s_limbs_of, [], []⟩
def dd_mixed : He.DefD := ⟨("mixed", none), "mixed", "mixed", defArgs s_mixed, defBody s_mixed, defScope s_mixed, [], []⟩
def dd_digits_of : He.DefD := ⟨("digits_of", none), "digits_of", "digits_of", defArgs s_digits_of, defBody s_digits_of, defScope s_digits_of, [], []⟩
def dd_base_digits : He.DefD := ⟨("base_digits", none), "base_digits", "base_digits", defArgs s_base_digits, defBody s_base_digits, defScope s_base_digits, [], []⟩
def dd_message_digits : He.DefD := ⟨("message_digits", none), "message_digits", "message_digits", defArgs s_message_digits, defBody s_message_digits, defScope s_message_digits, [], []⟩
def dd_check_digits : He.DefD := ⟨("check_digits", none), "check_digits", "check_digits", defArgs s_check_digits, defBody s_check_digits, defScope s_check_digits, [], []⟩
def dd_chain_count : He.DefD := ⟨("chain_count", none), "chain_count", "chain_count", defArgs s_chain_count, defBody s_chain_count, defScope s_chain_count, [], []⟩
def dd_next_word : He.DefD := ⟨("next_word", none), "next_word", "next_word", defArgs s_next_word, defBody s_next_word, defScope s_next_word, [], []⟩
def dd_followed : He.DefD := ⟨("followed", none), "followed", "followed", defArgs s_followed, defBody s_followed, defScope s_followed, [], []⟩
def dd_Signer___init__ : He.DefD := ⟨("Signer", some "__init__"), "__init__", "Signer.__init__", defArgs s_Signer___init__, defBody s_Signer___init__, defScope s_Signer___init__, [], []⟩
def dd_Signer_sign : He.DefD := ⟨("Signer", some "sign"), "sign", "Signer.sign", defArgs s_Signer_sign, defBody s_Signer_sign, defScope s_Signer_sign, [], []⟩
def dd_Signer_word : He.DefD := ⟨("Signer", some "word"), "word", "Signer.word", defArgs s_Signer_word, defBody s_Signer_word, defScope s_Signer_word, [], []⟩
def dd_Signer__node : He.DefD := ⟨("Signer", some "_node"), "_node", "Signer._node", defArgs s_Signer__node, defBody s_Signer__node, defScope s_Signer__node, [], []⟩
def dd_Signer__made_node : He.DefD := ⟨("Signer", some "_made_node"), "_made_node", "Signer._made_node", defArgs s_Signer__made_node, defBody s_Signer__made_node, defScope s_Signer__made_node, [], []⟩
def dd_verify : He.DefD := ⟨("verify", none), "verify", "verify", defArgs s_verify, defBody s_verify, defScope s_verify, [], []⟩
def dd_has_shape : He.DefD := ⟨("has_shape", none), "has_shape", "has_shape", defArgs s_has_shape, defBody s_has_shape, defScope s_has_shape, [], []⟩
def dd_told_inputs : He.DefD := ⟨("told_inputs", none), "told_inputs", "told_inputs", defArgs s_told_inputs, defBody s_told_inputs, defScope s_told_inputs, [], []⟩
def dd_members_fault : He.DefD := ⟨("members_fault", none), "members_fault", "members_fault", defArgs s_members_fault, defBody s_members_fault, defScope s_members_fault, [], []⟩
def dd_members_numbers : He.DefD := ⟨("members_numbers", none), "members_numbers", "members_numbers", defArgs s_members_numbers, defBody s_members_numbers, defScope s_members_numbers, [], []⟩
def dd_members_root : He.DefD := ⟨("members_root", none), "members_root", "members_root", defArgs s_members_root, defBody s_members_root, defScope s_members_root, [], []⟩
def dd_total : He.DefD := ⟨("total", none), "total", "total", defArgs s_total, defBody s_total, defScope s_total, [], []⟩
def dd_weight_of : He.DefD := ⟨("weight_of", none), "weight_of", "weight_of", defArgs s_weight_of, defBody s_weight_of, defScope s_weight_of, [], []⟩
def dd_more_than : He.DefD := ⟨("more_than", none), "more_than", "more_than", defArgs s_more_than, defBody s_more_than, defScope s_more_than, [], []⟩
def dd_signers : He.DefD := ⟨("signers", none), "signers", "signers", defArgs s_signers, defBody s_signers, defScope s_signers, [], []⟩
def dd_Header___init__ : He.DefD := ⟨("Header", some "__init__"), "__init__", "Header.__init__", defArgs s_Header___init__, defBody s_Header___init__, defScope s_Header___init__, [], []⟩
def dd_Header___eq__ : He.DefD := ⟨("Header", some "__eq__"), "__eq__", "Header.__eq__", defArgs s_Header___eq__, defBody s_Header___eq__, defScope s_Header___eq__, [], []⟩
def dd_Header_fields : He.DefD := ⟨("Header", some "fields"), "fields", "Header.fields", defArgs s_Header_fields, defBody s_Header_fields, defScope s_Header_fields, [], []⟩
def dd_Block___init__ : He.DefD := ⟨("Block", some "__init__"), "__init__", "Block.__init__", defArgs s_Block___init__, defBody s_Block___init__, defScope s_Block___init__, [], []⟩
def dd_Block___eq__ : He.DefD := ⟨("Block", some "__eq__"), "__eq__", "Block.__eq__", defArgs s_Block___eq__, defBody s_Block___eq__, defScope s_Block___eq__, [], []⟩
def dd_header_digest : He.DefD := ⟨("header_digest", none), "header_digest", "header_digest", defArgs s_header_digest, defBody s_header_digest, defScope s_header_digest, [], []⟩
def dd_vote_message : He.DefD := ⟨("vote_message", none), "vote_message", "vote_message", defArgs s_vote_message, defBody s_vote_message, defScope s_vote_message, [], []⟩
def dd_block_signers : He.DefD := ⟨("block_signers", none), "block_signers", "block_signers", defArgs s_block_signers, defBody s_block_signers, defScope s_block_signers, [], []⟩
def dd_is_root_of : He.DefD := ⟨("is_root_of", none), "is_root_of", "is_root_of", defArgs s_is_root_of, defBody s_is_root_of, defScope s_is_root_of, [], []⟩
def dd_lists_fault : He.DefD := ⟨("lists_fault", none), "lists_fault", "lists_fault", defArgs s_lists_fault, defBody s_lists_fault, defScope s_lists_fault, [], []⟩
def dd_has_negative : He.DefD := ⟨("has_negative", none), "has_negative", "has_negative", defArgs s_has_negative, defBody s_has_negative, defScope s_has_negative, [], []⟩
def dd_block_fault : He.DefD := ⟨("block_fault", none), "block_fault", "block_fault", defArgs s_block_fault, defBody s_block_fault, defScope s_block_fault, [], []⟩
def dd_double_signers : He.DefD := ⟨("double_signers", none), "double_signers", "double_signers", defArgs s_double_signers, defBody s_double_signers, defScope s_double_signers, [], []⟩
def dd__law_number : He.DefD := ⟨("_law_number", none), "_law_number", "_law_number", defArgs s__law_number, defBody s__law_number, defScope s__law_number, [], []⟩
def dd__law_cells : He.DefD := ⟨("_law_cells", none), "_law_cells", "_law_cells", defArgs s__law_cells, defBody s__law_cells, defScope s__law_cells, [], []⟩
def dd__law_block : He.DefD := ⟨("_law_block", none), "_law_block", "_law_block", defArgs s__law_block, defBody s__law_block, defScope s__law_block, [], []⟩
def dd_law : He.DefD := ⟨("law", none), "law", "law", defArgs s_law, defBody s_law, defScope s_law, [], []⟩
def fn : List He.DefD := [dd_Hasher___init__, dd_Hasher_digest, dd_Hasher_is_digest, dd_are_digests, dd_limbs_of, dd_mixed, dd_digits_of, dd_base_digits, dd_message_digits, dd_check_digits, dd_chain_count, dd_next_word, dd_followed, dd_Signer___init__, dd_Signer_sign, dd_Signer_word, dd_Signer__node, dd_Signer__made_node, dd_verify, dd_has_shape, dd_told_inputs, dd_members_fault, dd_members_numbers, dd_members_root, dd_total, dd_weight_of, dd_more_than, dd_signers, dd_Header___init__, dd_Header___eq__, dd_Header_fields, dd_Block___init__, dd_Block___eq__, dd_header_digest, dd_vote_message, dd_block_signers, dd_is_root_of, dd_lists_fault, dd_has_negative, dd_block_fault, dd_double_signers, dd__law_number, dd__law_cells, dd__law_block, dd_law]
def fa : List He.Fa := [.glo "are_digests", .glo "limbs_of", .glo "mixed", .glo "digits_of", .glo "base_digits", .glo "message_digits", .glo "check_digits", .glo "chain_count", .glo "next_word", .glo "followed", .glo "verify", .glo "has_shape", .glo "told_inputs", .glo "members_fault", .glo "members_numbers", .glo "members_root", .glo "total", .glo "weight_of", .glo "more_than", .glo "signers", .glo "header_digest", .glo "vote_message", .glo "block_signers", .glo "is_root_of", .glo "lists_fault", .glo "has_negative", .glo "block_fault", .glo "double_signers", .glo "_law_number", .glo "_law_cells", .glo "_law_block", .glo "law", .cls "Block", .glo "Block", .cls "Hasher", .glo "Hasher", .cls "Header", .glo "Header", .cls "Signer", .glo "Signer", .free "all", .free "any", .free "enumerate", .free "int", .free "isinstance", .free "len", .free "list", .free "max", .free "min", .free "range", .free "sorted", .free "sum", .free "tuple", .int "DIGIT_BITS" 4, .int "FIRST_FACTOR" 15241578750190521011, .int "FIRST_SHIFT" 31, .int "FIRST_START" 7263541890216354987, .int "GREATEST_DIGIT" 15, .int "GREATEST_LEVELS" 6, .int "GREATEST_WEIGHT" 1000000, .int "HEADER_TAG" 8, .int "KEY_TAG" 5, .int "LAST_STEP" 15, .int "LIMB_BITS" 32, .int "LIMB_MASK" 4294967295, .int "MEMBERS_TAG" 9, .int "MIX_BITS" 128, .int "MOST_MEMBERS" 64, .int "NODE_TAG" 6, .int "SECOND_FACTOR" 9764318250173649287, .int "SECOND_SHIFT" 29, .int "SECOND_START" 12985647301928374651, .int "SECRET_TAG" 7, .int "STEP_TAG" 4, .int "VOTE_TAG" 10, .int "WORD_MASK" 18446744073709551615, .meth "Hasher" "digest", .meth "Hasher" "is_digest", .meth "Header" "__eq__", .meth "Header" "fields", .meth "Signer" "_made_node", .meth "Signer" "_node", .meth "Signer" "sign", .meth "Signer" "word", .mkr "Block", .mkr "Hasher", .mkr "Header", .mkr "Signer", .noat "Block" "following", .noat "Block" "header", .noat "Block" "members", .noat "Block" "votes", .noat "Hasher" "width", .noat "Header" "chain", .noat "Header" "following", .noat "Header" "height", .noat "Header" "members", .noat "Header" "previous", .noat "Header" "state", .noat "Header" "time", .noat "Signer" "_nodes", .noat "Signer" "hasher", .noat "Signer" "levels", .noat "Signer" "public", .noat "Signer" "secret"]
abbrev R : PySem.W.OpenRow := PySem.W.OpenLaw.row PySem.Challenge.rw_offing_k39_double_signers
def exK (K : PySem.W.Frag) : Bool := L2.eqcB K (He.ga K "Block") && (L2.eqcB K (He.ga K "Header"))
abbrev hk : PySem.W.Hook := hookE 5 fa fn exK
def ob (s : PySem.W.SharedT) : AlE := obsE 5 fa fn exK (HandSHeadRun.getT s)
theorem ob_eq (s : PySem.W.SharedT) : ob s = hk.obs s.abs := obsE_eq (HandSHeadRun.getT_eq s)
theorem run (w : World) : HandSHeadRun.RunEq R (PySem.W.view R.prog [64]) hk ob 4000 ("LIMB_BITS" :: "LIMB_MASK" :: "WORD_MASK" :: "MIX_BITS" :: "FIRST_START" :: "SECOND_START" :: "FIRST_FACTOR" :: "SECOND_FACTOR" :: "FIRST_SHIFT" :: "SECOND_SHIFT" :: "Hasher" :: "are_digests" :: "limbs_of" :: "mixed" :: "STEP_TAG" :: "KEY_TAG" :: "NODE_TAG" :: "SECRET_TAG" :: "DIGIT_BITS" :: "GREATEST_DIGIT" :: "LAST_STEP" :: "GREATEST_LEVELS" :: "digits_of" :: "base_digits" :: "message_digits" :: "check_digits" :: "chain_count" :: "next_word" :: "followed" :: "Signer" :: "verify" :: "has_shape" :: "told_inputs" :: "MEMBERS_TAG" :: "MOST_MEMBERS" :: "GREATEST_WEIGHT" :: "members_fault" :: "members_numbers" :: "members_root" :: "total" :: "weight_of" :: "more_than" :: "signers" :: "HEADER_TAG" :: "VOTE_TAG" :: "Header" :: "Block" :: "header_digest" :: "vote_message" :: "block_signers" :: "is_root_of" :: "lists_fault" :: "has_negative" :: "block_fault" :: "double_signers" :: "_law_number" :: "_law_cells" :: "_law_block" :: []) w := by
  intro os
  kernel_rfl
def StartsT (spl : PySem.W.Frag → Sp) : Prop := ∀ (K : PySem.W.Frag) (H : Hp) (a : Addr) (ns : List Int), ns.length ≤ 63 → SqL K H a (ns.map V.int) → spl K [.ref a] H (fun v _ => v = .bl true) fun _ _ _ => False
def FactsT (spl : PySem.W.Frag → Sp) : Prop := ∀ (P : Program) (w : World) (K : PySem.W.Frag) (h : Heap) (mg : Str → Option Value) (f : Addr), K.In h → h.Ns mainGlobals mg → mg ("law" : Str) = some (.ref f) → SaysE fa fn exK K → ∃ fd : FuncData, (∀ (s : Shared) (v : Value), BindsTo s fd ⟨[v], []⟩ [("script", v)]) ∧ ∀ base : Heap, K.In base → base.Ns mainGlobals mg → FnOk P w K mg base CX0 22 f fd ["script"] (spl K)
end Pf
section
open PySem PySem.W PySem.Calls PyProof.Rows
set_option maxRecDepth 100000 in
set_option maxHeartbeats 0 in
theorem Pf.early (spl : PySem.W.Frag → L2.Sp) (hst : Pf.StartsT spl) (hft : Pf.FactsT spl) : PySem.Challenge.rw_offing_k39_double_signers.Holds := by
  w_on; o_law
  refine HandSHeadRun.head_any (r := OpenLaw.row PySem.Challenge.rw_offing_k39_double_signers) (q := view (OpenLaw.row PySem.Challenge.rw_offing_k39_double_signers).prog [64]) (H := Pf.hk) (ob := Pf.ob) (M := 4000) (loose := ("LIMB_BITS" :: "LIMB_MASK" :: "WORD_MASK" :: "MIX_BITS" :: "FIRST_START" :: "SECOND_START" :: "FIRST_FACTOR" :: "SECOND_FACTOR" :: "FIRST_SHIFT" :: "SECOND_SHIFT" :: "Hasher" :: "are_digests" :: "limbs_of" :: "mixed" :: "STEP_TAG" :: "KEY_TAG" :: "NODE_TAG" :: "SECRET_TAG" :: "DIGIT_BITS" :: "GREATEST_DIGIT" :: "LAST_STEP" :: "GREATEST_LEVELS" :: "digits_of" :: "base_digits" :: "message_digits" :: "check_digits" :: "chain_count" :: "next_word" :: "followed" :: "Signer" :: "verify" :: "has_shape" :: "told_inputs" :: "MEMBERS_TAG" :: "MOST_MEMBERS" :: "GREATEST_WEIGHT" :: "members_fault" :: "members_numbers" :: "members_root" :: "total" :: "weight_of" :: "more_than" :: "signers" :: "HEADER_TAG" :: "VOTE_TAG" :: "Header" :: "Block" :: "header_digest" :: "vote_message" :: "block_signers" :: "is_root_of" :: "lists_fault" :: "has_negative" :: "block_fault" :: "double_signers" :: "_law_number" :: "_law_cells" :: "_law_block" :: [])) (d := HandSHeadRun.topDef (OpenLaw.row PySem.Challenge.rw_offing_k39_double_signers).prog 64) (kwd := []) Pf.ob_eq
    (by kernel_rfl) (fun s => by kernel_rfl) Pf.run (by kernel_rfl) (by kernel_rfl) (by kernel_rfl) (by rfl) (by first | assumption | decide +kernel) (by decide +kernel) ⟨rfl, rfl, rfl, rfl, rfl, by decide +kernel⟩ ?hw ?hc
  case hw => w_witness2
  case hc =>
    refine L2.walk_ofE (l := PySem.Challenge.rw_offing_k39_double_signers) (n := 63) (k := 22) (x := "script") (CX := L2.CX0) rfl (by decide) (by kernel_rfl) ⟨rfl, by decide, by decide⟩ ?F (fun _ _ _ _ z => z)
    intro w mg fa h Y G hmg0
    obtain ⟨K, KX, c⟩ := Y
    have hmg : mg ("law" : PySem.Str) = some (.ref fa) := by
      have e : (HandSHeadRun.topDef (OpenLaw.row PySem.Challenge.rw_offing_k39_double_signers).prog 64).name = ("law" : PySem.Str) := by kernel_rfl
      rw [← e]
      exact hmg0
    obtain ⟨fd, hb, hF⟩ := hft (PySem.Challenge.rw_offing_k39_double_signers).prog w K h mg fa KX G hmg c
    exact ⟨K, fd, spl K, KX, hb, fun H a ns hl _ hS => hst K H a ns hl hS, hF⟩
end
namespace Pf
open PySem PySem.Spec PyProof.Rows L2 Evl Wp StX
set_option autoImplicit false
local macro_rules | `(tactic| walk_at "c") => `(tactic| first | assumption | exact ⟨by assumption, by assumption⟩ | omega | decide | exact .inr ⟨by omega, by omega⟩ | exact .inl ⟨by omega, by omega⟩ | exact ⟨by omega, by omega⟩ | exact ⟨by decide, by decide⟩ | exact ⟨by omega, by decide, by decide⟩)
local macro_rules | `(tactic| walk_at "sq") => `(tactic| first | assumption | exact sq_of (by assumption) | (refine' ex_l ?exh ?sqh; (case exh => assumption); (case sqh => walk_at "sq")))
local macro_rules | `(tactic| walk_at "st") => `(tactic| first | assumption | exact st_of (by assumption) | (refine' ex_t ?exh ?sqh; (case exh => assumption); (case sqh => walk_at "st")))
local macro_rules | `(tactic| walk_at "go1") => `(tactic| first
  | with_reducible refine iteT ?_
  | with_reducible refine iteF ?_
  | with_reducible refine ifNT ?_
  | with_reducible refine ifNF ?_
  | with_reducible refine sm_seq ?_
  | with_reducible refine sm_asg ?_
  | with_reducible refine gm_name ?_
  | with_reducible refine km_next ?_
  | with_reducible refine kv_rt ?_
  | with_reducible refine sm_if ?_
  | with_reducible refine sm_ret ?_
  | with_reducible refine sm_drop ?_
  | with_reducible refine sm_fld ?_
  | with_reducible refine tm_test ?_
  | with_reducible refine tm_B ?_
  | with_reducible refine tm_and ?_
  | with_reducible refine tm_or ?_
  | with_reducible refine tm_not ?_
  | with_reducible refine tm_yes ?_
  | ((with_reducible refine em_here ?_); refine ⟨_, rfl, ?_⟩)
  | with_reducible refine em_c ?_
  | with_reducible refine em_op ?_
  | with_reducible refine em_un ?_
  | with_reducible refine em_chain ?_
  | with_reducible refine rm_I0 ?_
  | ((with_reducible refine rm_I ?cch ?_); (case cch => walk_at "c"))
  | with_reducible refine rm_U ?_
  | with_reducible refine rm_eqI ?_
  | with_reducible refine rm_neI ?_
  | with_reducible refine bv ?_
  | with_reducible refine iv ?_
  | with_reducible refine am_nil ?_
  | with_reducible refine am_cons ?_
  | with_reducible refine em_cb ?_
  | with_reducible refine em_call ?_
  | with_reducible refine em_fld ?_
  | with_reducible refine em_meth ?_
  | with_reducible refine em_andV ?_
  | with_reducible refine em_orV ?_
  | with_reducible refine em_notV ?_
  | with_reducible refine em_if ?_
  | ((with_reducible refine em_bits ?_))
  | with_reducible refine rm_int ?_
  | with_reducible refine rm_max ?_
  | with_reducible refine rm_min ?_
  | ((with_reducible refine' rm_lenL ?sqh ?_); (case sqh => walk_at "sq"))
  | with_reducible refine gm_subL ?_
  | with_reducible refine gs_cons ?_
  | with_reducible refine gs_nil ?_
  | with_reducible refine rm_isN_ref ?_
  | with_reducible refine rm_isN_non ?_
  | with_reducible refine rm_isN_int ?_
  | with_reducible refine rm_notN_ref ?_
  | with_reducible refine rm_notN_non ?_
  | with_reducible refine rm_notN_int ?_
  | with_reducible refine rm_eqS ?_
  | with_reducible refine rm_neS ?_
  | with_reducible refine rm_eqB ?_
  | with_reducible refine rm_neB ?_
  | with_reducible refine em_sl ?_
  | with_reducible refine om_none ?_
  | with_reducible refine om_some ?_
  | with_reducible refine rm_isB ?_
  | with_reducible refine rm_notB ?_)
local macro_rules | `(tactic| walk_at "go") => `(tactic| repeat walk_at "go1")

section
variable {P : Program} {w : World} {K : PySem.W.Frag} {mg : Str → Option Value} {base : Heap}
/-! ### digests -/
def M64 : Int := 2 ^ 64 - 1
def stp (s : Int × Int) (l : Int) : Int × Int :=
  let f1 := Builtin.bitAnd (Builtin.bitXor s.1 l * 15241578750190521011) 18446744073709551615
  let f2 := Builtin.bitXor f1 (f1 / 2 ^ (31 : Int).toNat)
  let s1 := Builtin.bitAnd ((f2 + s.2) * 9764318250173649287) 18446744073709551615
  let s2 := Builtin.bitXor s1 (s1 / 2 ^ (29 : Int).toNat)
  (Builtin.bitAnd (f2 + s2) 18446744073709551615, s2)
def st0 : Int × Int := (7263541890216354987, 12985647301928374651)
def mixN (ls : List Int) : Int × Int := ls.foldl stp st0
def many (n : Int) : Nat := (Builtin.Int.intBits n + 31) / 32
def limb (n : Int) (p : Nat) : Int := Builtin.bitAnd (n / 2 ^ (p * 32)) 4294967295
def limbs1 (n : Int) : List Int := (many n : Int) :: (List.range (many n)).map (limb n)
def limbsN (ns : List Int) : List Int := ns.flatMap limbs1
def limbs (ns : List Int) : List Int := (ns.length : Int) :: limbsN ns
def dgst (w tag : Int) (ns : List Int) : Int := let m := mixN (tag :: limbs ns ++ [w, w]); (m.1 * 2 ^ 64 + m.2) / 2 ^ (128 - w).toNat
def U64 (x : Int) : Prop := 0 ≤ x ∧ x < 18446744073709551616
theorem and64 (x : Int) : Builtin.bitAnd x 18446744073709551615 = x % 18446744073709551616 := PySem.W.kbt_mask x 64
theorem and64_U (x : Int) : U64 (Builtin.bitAnd x 18446744073709551615) := by
  rw [and64]
  exact ⟨Int.emod_nonneg _ (by decide), Int.emod_lt_of_pos _ (by decide)⟩
theorem xorshr_U {x : Int} (h : U64 x) (k : Nat) : U64 (Builtin.bitXor x (x / 2 ^ k)) := by
  obtain ⟨a, rfl⟩ := Int.eq_ofNat_of_zero_le h.1
  have e : (a : Int) / 2 ^ k = ((a / 2 ^ k : Nat) : Int) := by rw [Int.natCast_ediv, PySem.W.kbt_cast]
  rw [e, Bits.bitXor_pp (Int.natCast_nonneg _) (Int.natCast_nonneg _), Int.toNat_natCast, Int.toNat_natCast]
  have ha : a < 2 ^ 64 := by have := h.2; omega
  have hb : a / 2 ^ k < 2 ^ 64 := Nat.lt_of_le_of_lt (Nat.div_le_self _ _) ha
  have := Nat.xor_lt_two_pow ha hb
  exact ⟨Int.natCast_nonneg _, by omega⟩
theorem stp_U (s : Int × Int) (l : Int) : U64 (stp s l).1 ∧ U64 (stp s l).2 := ⟨and64_U _, xorshr_U (and64_U _) _⟩
theorem fold_U : ∀ (ls : List Int) (s : Int × Int), U64 s.1 → U64 s.2 → U64 (ls.foldl stp s).1 ∧ U64 (ls.foldl stp s).2
  | [], s, h1, h2 => ⟨h1, h2⟩
  | l :: ls, s, _, _ => fold_U ls (stp s l) (stp_U s l).1 (stp_U s l).2
theorem st0_U : U64 st0.1 ∧ U64 st0.2 := ⟨⟨by decide, by decide⟩, ⟨by decide, by decide⟩⟩
theorem mix_U (ls : List Int) : U64 (mixN ls).1 ∧ U64 (mixN ls).2 := fold_U ls st0 st0_U.1 st0_U.2
theorem natAbs_U {x : Int} (h : U64 x) : x.natAbs < 2 ^ 64 := by obtain ⟨h1, h2⟩ := h; omega
theorem dgst_rng {w : Int} (h4 : 4 ≤ w) (h : w ≤ 128) (tag : Int) (ns : List Int) : 0 ≤ dgst w tag ns ∧ dgst w tag ns < 2 ^ w.toNat := by
  unfold dgst
  obtain ⟨⟨a0, a1⟩, ⟨b0, b1⟩⟩ := mix_U (tag :: limbs ns ++ [w, w])
  generalize mixN (tag :: limbs ns ++ [w, w]) = m at a0 a1 b0 b1 ⊢
  show 0 ≤ (m.1 * 2 ^ 64 + m.2) / 2 ^ (128 - w).toNat ∧ (m.1 * 2 ^ 64 + m.2) / 2 ^ (128 - w).toNat < 2 ^ w.toNat
  have hp : (0 : Int) < 2 ^ (128 - w).toNat := PySem.W.kbt_pos _
  refine ⟨Int.ediv_nonneg (by omega) (Int.le_of_lt hp), Int.ediv_lt_of_lt_mul hp ?_⟩
  rw [← Int.pow_add, show w.toNat + (128 - w).toNat = 128 by omega]
  omega
theorem limbs_snoc (ns : List Int) (n : Int) : limbsN (ns ++ [n]) = limbsN ns ++ limbs1 n := by
  unfold limbsN
  rw [List.flatMap_append]
  simp
def HsAt (C : Addr) (G : Hp) (h : Addr) (w : Int) : Prop := ∃ dx, G h = some (.ins C dx [("width", V.int w)])
theorem ex_h {C : Addr} {G G' : Hp} {h : Addr} {w : Int} (e : Ex G G') : HsAt C G h w → HsAt C G' h w := fun ⟨dx, g⟩ => ⟨dx, e _ _ g⟩
theorem limbs1_len (n : Int) : (limbs1 n).length = many n + 1 := by unfold limbs1; simp
theorem limbsN_le {ns : List Int} {b : Nat} (h : ∀ n ∈ ns, many n ≤ b) : (limbsN ns).length ≤ ns.length * (b + 1) := by
  induction ns with
  | nil => simp [limbsN]
  | cons n ns ih =>
    have h1 := h n (by simp)
    have h2 := ih fun m hm => h m (by simp [hm])
    have e : (limbsN (n :: ns)).length = (limbs1 n).length + (limbsN ns).length := by
      unfold limbsN
      rw [List.flatMap_cons, List.length_append]
    rw [e, limbs1_len, List.length_cons, Nat.add_mul]
    omega
theorem sz6 {n : Nat} (h : n ≤ 1000000) : n ≤ sizeLine := Nat.le_trans h (by decide)
theorem sz6' {n : Nat} (h : n < 1000000) : n < sizeLine := Nat.lt_of_lt_of_le h (by decide)
theorem sub_len {ns : List Int} {i : Nat} : (limbsN (ns.take i)).length ≤ (limbsN ns).length := by
  conv => rhs; rw [← List.take_append_drop i ns]
  unfold limbsN
  rw [List.flatMap_append, List.length_append]
  omega
theorem take_snoc {ns : List Int} {i : Nat} {n : Int} (h : ns[i]? = some n) : ns.take (i + 1) = ns.take i ++ [n] := by rw [List.take_add_one, h]; rfl
theorem int_at {ns : List Int} {i : Nat} {x : V} (h : (ns.map V.int)[i]? = some x) : ∃ n, x = .int n ∧ ns[i]? = some n := by
  rw [List.getElem?_map] at h
  obtain ⟨n, e, rfl⟩ := Option.map_eq_some_iff.mp h
  exact ⟨n, rfl, e⟩
def sp_limbs_of (K : PySem.W.Frag) : Sp := spA (fun (x : Addr × List Int) vs G => vs = [.ref x.1] ∧ SqS K G x.1 (x.2.map V.int) ∧ (limbs x.2).length ≤ 100000) fun x v G' => ∃ p, v = .ref p ∧ G' p = some (.lst ((limbs x.2).map V.int))
theorem ok_limbs_of (T : Txt K mg) : FnOk P w K mg base CX0 1 (He.fAd K ("limbs_of", none)) T.fd_limbs_of ["numbers"] (sp_limbs_of K) := by
  refine T.limbs_of.F.ok sc_limbs_of (fun vs H Q E h => ?_) (fun cdv A outer s H vs Q E hr h => ?_)
  · obtain ⟨_, _, _, ⟨rfl, _⟩, _⟩ := h
    rfl
  · obtain ⟨⟨a, ns⟩, G, e0, ⟨rfl, hS, hz⟩, q⟩ := h
    replace hz : (limbs ns).length ≤ 100000 := hz
    have hz' : (limbsN ns).length < 100000 := by unfold limbs at hz; rw [List.length_cons] at hz; omega
    replace hS : SqS K G a (ns.map V.int) := hS
    refine ⟨_, PSs.nox (pss_cons (ps_set (i := 1) sc_limbs_of.nd rfl (Or.inl rfl) (pe_lst (pa_cons (pe_callB (kq_len (K := K)) (by rfl) T.z_len (by decide +kernel) (pa_cons (pv 0) pa_nil)) pa_nil)))
  (pss_cons (ps_for PassesOwn.never rfl (ki_seq (K := K) (pv 0)) (pg_name (i := 2) sc_limbs_of.nd rfl (Or.inl rfl)) (pss_cons (ps_set (i := 3) sc_limbs_of.nd rfl (Or.inl rfl) (pe_op op_fdivW (pe_op op_sub (pe_op op_add (pe_bits (pv 2)) (pe_glob (v := .int 32) rfl T.c_LIMB_BITS.choose_spec ⟨_, rfl⟩)) pe_int) (pe_glob (v := .int 32) rfl T.c_LIMB_BITS.choose_spec ⟨_, rfl⟩)))
  (pss_cons (ps_expr (pe_bm PySem.F.plainAttrs_list PySem.F.slot_list_append PySem.F.type_list_append mt_append (pv 1) (pa_cons (pv 3) pa_nil)))
  (pss_one (ps_for PassesOwn.never rfl (pi_range1 rfl T.z_range (pa_cons (pv 3) pa_nil)) (pg_name (i := 4) sc_limbs_of.nd rfl (Or.inl rfl)) (pss_one (ps_expr (pe_bm PySem.F.plainAttrs_list PySem.F.slot_list_append PySem.F.type_list_append mt_append (pv 1) (pa_cons (pe_op op_and (pe_op op_shr (pv 2) (pe_op op_mul (pv 4) (pe_glob (v := .int 32) rfl T.c_LIMB_BITS.choose_spec ⟨_, rfl⟩))) (pe_glob (v := .int 4294967295) rfl T.c_LIMB_MASK.choose_spec ⟨_, rfl⟩)) pa_nil)))))))))
  (pss_one (ps_ret (pv 1))))), ?_⟩
    refine (show SM (V0 H G) _ _ _ G from ?_) H (J.start e0)
    walk_at "go"
    refine em_lst ?_
    walk_at "go"
    refine rm_lenS hS ?_
    walk_at "go"
    refine ⟨by show 1 ≤ sizeLine; decide, fun l G1 gl e1 gl1 => ?_⟩
    walk_at "go"
    have hge : (V0 H G).Ge l = none := gl
    refine sm_forS (fun i σ G' => ∃ v2 v3 v4, σ = [some (.ref a), some (.ref l), v2, v3, v4] ∧ Ex G G' ∧ G' l = some (.lst (((ns.length : Int) :: limbsN (ns.take i)).map V.int))) hS e1 ?_ ?_ (fun i σ' G' ⟨_, _, _, _, e, _⟩ => e) ?_ ?_
    · walk_at "go"
      exact ⟨rfl, rfl⟩
    · exact ⟨none, none, none, rfl, e1, by rw [gl1, List.length_map]; rfl⟩
    · rintro i x σ' G' hx ⟨v2, v3, v4, rfl, e2, g2⟩
      obtain ⟨n, rfl, hn⟩ := int_at hx
      have hle : (limbsN (ns.take (i + 1))).length ≤ (limbsN ns).length := sub_len
      rw [take_snoc hn, limbs_snoc, List.length_append, limbs1_len] at hle
      walk_at "go"
      have hm : ((Builtin.Int.intBits n : Nat) + 32 - 1 : Int) / 32 = (many n : Nat) := by unfold many; omega
      rw [hm]
      refine em_append (l := l) (xs := ((ns.length : Int) :: limbsN (ns.take i)).map V.int) ?_
      walk_at "go"
      refine ⟨rfl, g2, ?_⟩
      walk_at "go"
      refine ⟨g2, hge, ?_, ?_⟩
      · rw [List.length_map, List.length_cons]; exact sz6' (by omega)
      walk_at "go"
      refine sm_forR1 ?_
      walk_at "go"
      refine ⟨many n, rfl, by omega, by omega, fun p σ G'' => ∃ v4, σ = [some (.ref a), some (.ref l), some (.int n), some (.int (many n : Nat)), v4] ∧ Ex G G'' ∧ G'' l = some (.lst (((ns.length : Int) :: (limbsN (ns.take i) ++ ((many n : Int) :: (List.range p).map (limb n)))).map V.int)), ?_, ?_, ?_⟩
      · refine ⟨_, rfl, Ex.mut e2 gl, ?_⟩
        rw [upd_same]
        simp
      · rintro p σ' G'' hp ⟨v4, rfl, e3, g3⟩
        walk_at "go"
        refine em_append (l := l) (xs := ((ns.length : Int) :: (limbsN (ns.take i) ++ ((many n : Int) :: (List.range p).map (limb n)))).map V.int) ?_
        walk_at "go"
        refine ⟨rfl, g3, ?_⟩
        walk_at "go"
        refine ⟨g3, hge, ?_, ?_⟩
        · rw [List.length_map, List.length_cons, List.length_append, List.length_cons, List.length_map, List.length_range]; exact sz6' (by omega)
        · refine km_kj ⟨_, rfl, Ex.mut e3 gl, ?_⟩
          rw [upd_same, List.range_succ, List.map_append]
          have e : (((p : Nat) : Int) * 32).toNat = p * 32 := by omega
          rw [e]
          simp [limb]
      · rintro σ' G'' ⟨v4, rfl, e3, g3⟩
        refine km_kj ⟨_, _, _, rfl, e3, ?_⟩
        rw [g3, take_snoc hn, limbs_snoc, Int.toNat_natCast]
        rfl
    · rintro σ' G' ⟨v2, v3, v4, rfl, e2, g2⟩
      walk_at "go"
      refine kv_ret q e2 ⟨l, rfl, ?_⟩
      rw [g2, List.length_map, List.take_length]
      rfl
def sp_mixed (K : PySem.W.Frag) : Sp := spA (fun (x : Addr × List Int) vs G => vs = [.ref x.1] ∧ SqL K G x.1 (x.2.map V.int)) fun x v _ => v = .int ((mixN x.2).1 * 2 ^ 64 + (mixN x.2).2)
theorem ok_mixed (T : Txt K mg) : FnOk P w K mg base CX0 1 (He.fAd K ("mixed", none)) T.fd_mixed ["limbs"] (sp_mixed K) := by
  refine T.mixed.F.ok sc_mixed (fun vs H Q E h => ?_) (fun cdv A outer s H vs Q E hr h => ?_)
  · obtain ⟨_, _, _, ⟨rfl, _⟩, _⟩ := h
    rfl
  · obtain ⟨⟨a, ls⟩, G, e0, ⟨rfl, hS⟩, q⟩ := h
    replace hS : SqL K G a (ls.map V.int) := hS
    refine ⟨_, PSs.nox (pss_cons (ps_set (i := 1) sc_mixed.nd rfl (Or.inl rfl) (pe_glob (v := .int 7263541890216354987) rfl T.c_FIRST_START.choose_spec ⟨_, rfl⟩))
  (pss_cons (ps_set (i := 2) sc_mixed.nd rfl (Or.inl rfl) (pe_glob (v := .int 12985647301928374651) rfl T.c_SECOND_START.choose_spec ⟨_, rfl⟩))
  (pss_cons (ps_for PassesOwn.never rfl (ki_list (K := K) (pv 0)) (pg_name (i := 3) sc_mixed.nd rfl (Or.inl rfl)) (pss_cons (ps_set (i := 1) sc_mixed.nd rfl (Or.inl rfl) (pe_op op_and (pe_op op_mul (pe_op op_xor (pv 1) (pv 3)) (pe_glob (v := .int 15241578750190521011) rfl T.c_FIRST_FACTOR.choose_spec ⟨_, rfl⟩)) (pe_glob (v := .int 18446744073709551615) rfl T.c_WORD_MASK.choose_spec ⟨_, rfl⟩)))
  (pss_cons (ps_set (i := 1) sc_mixed.nd rfl (Or.inl rfl) (pe_op op_xor (pv 1) (pe_op op_shr (pv 1) (pe_glob (v := .int 31) rfl T.c_FIRST_SHIFT.choose_spec ⟨_, rfl⟩))))
  (pss_cons (ps_set (i := 2) sc_mixed.nd rfl (Or.inl rfl) (pe_op op_and (pe_op op_mul (pe_op op_add (pv 1) (pv 2)) (pe_glob (v := .int 9764318250173649287) rfl T.c_SECOND_FACTOR.choose_spec ⟨_, rfl⟩)) (pe_glob (v := .int 18446744073709551615) rfl T.c_WORD_MASK.choose_spec ⟨_, rfl⟩)))
  (pss_cons (ps_set (i := 2) sc_mixed.nd rfl (Or.inl rfl) (pe_op op_xor (pv 2) (pe_op op_shr (pv 2) (pe_glob (v := .int 29) rfl T.c_SECOND_SHIFT.choose_spec ⟨_, rfl⟩))))
  (pss_one (ps_set (i := 1) sc_mixed.nd rfl (Or.inl rfl) (pe_op op_and (pe_op op_add (pv 1) (pv 2)) (pe_glob (v := .int 18446744073709551615) rfl T.c_WORD_MASK.choose_spec ⟨_, rfl⟩)))))))))
  (pss_one (ps_ret (pe_op op_or (pe_op op_shl (pv 1) pe_int) (pv 2))))))), ?_⟩
    refine (show SM (V0 H G) _ _ _ G from ?_) H (J.start e0)
    walk_at "go"
    refine sm_forL ?_
    walk_at "go"
    refine ⟨a, _, rfl, hS, fun i σ G' => ∃ v3, σ = [some (.ref a), some (.int (mixN (ls.take i)).1), some (.int (mixN (ls.take i)).2), v3] ∧ G' = G, ⟨none, rfl, rfl⟩, fun i σ' G' _ ⟨_, _, e⟩ => by rw [e]; exact hS, ?_, ?_⟩
    · rintro i x σ' G' hx ⟨v3, rfl, rfl⟩
      obtain ⟨n, rfl, hn⟩ := int_at hx
      walk_at "go"
      refine km_kj ⟨some (.int n), ?_, rfl⟩
      have e : mixN (ls.take (i + 1)) = stp (mixN (ls.take i)) n := by
        unfold mixN
        rw [take_snoc hn, List.foldl_append]
        rfl
      rw [e]
      rfl
    · rintro σ' G' ⟨v3, rfl, rfl⟩
      rw [List.length_map, List.take_length]
      obtain ⟨u1, u2⟩ := mix_U ls
      walk_at "go"
      refine rm_I ⟨by decide, by decide, natAbs_U u1⟩ ?_
      walk_at "go"
      refine kv_ret q (Ex.refl _) ?_
      show V.int (Builtin.bitOr ((mixN ls).1 * 2 ^ 64) (mixN ls).2) = _
      rw [or_low (k := 64) u1.1 u2.1 (by have := u2.2; omega)]
def sp_Hasher___init__ (K : PySem.W.Frag) : Sp := fun vs H Q _ => ∃ (x dx C : Addr) (w : Int), vs = [.ref x, .int w] ∧ C = He.ga K "Hasher" ∧ H x = some (.ins C dx []) ∧ ∀ H', (∀ b o, b ≠ x → H b = some o → H' b = some o) → H' x = some (.ins C dx [("width", V.int w)]) → Q .non H'
theorem ok_Hasher___init__ (T : Txt K mg) : FnOk P w K mg base CX0 1 (He.fAd K ("Hasher", some "__init__")) T.fd_Hasher___init__ ["self", "width"] (sp_Hasher___init__ K) := by
  refine T.Hasher___init__.F.ok sc_Hasher___init__ (fun vs H Q E h => ?_) (fun cdv A outer s H vs Q E hr h => ?_)
  · obtain ⟨x, dx, C, w, rfl, _⟩ := h
    rfl
  · obtain ⟨x, dx, C, w, rfl, rfl, hx, q⟩ := h
    refine ⟨_, PSs.nox (pss_one (ps_fld (pv 0) (pv 1) rfl)), ?_⟩
    refine ⟨_, rfl, _, rfl, x, _, dx, [], rfl, hx, T.cl_Hasher, T.n_Hasher_width, (by show 0 < 1000; decide), ?_⟩
    exact q _ (fun b o nb e => by rw [upd_ne nb]; exact e) upd_same
def sp_Hasher_is_digest (K : PySem.W.Frag) : Sp := spA (fun (x : Addr × Int × Int) vs G => vs = [.ref x.1, .int x.2.2] ∧ HsAt (He.ga K "Hasher") G x.1 x.2.1 ∧ 0 ≤ x.2.1 ∧ x.2.1 ≤ 100000) fun x v _ => v = .bl (decide (0 ≤ x.2.2 ∧ x.2.2 < 2 ^ x.2.1.toNat))
theorem ok_Hasher_is_digest (T : Txt K mg) : FnOk P w K mg base CX0 1 (He.fAd K ("Hasher", some "is_digest")) T.fd_Hasher_is_digest ["self", "number"] (sp_Hasher_is_digest K) := by
  refine T.Hasher_is_digest.F.ok sc_Hasher_is_digest (fun vs H Q E h => ?_) (fun cdv A outer s H vs Q E hr h => ?_)
  · obtain ⟨_, _, _, ⟨rfl, _⟩, _⟩ := h
    rfl
  · obtain ⟨⟨a, w, n⟩, G, e0, ⟨rfl, ⟨dx, hh⟩, hw0, hw1⟩, q⟩ := h
    replace hh : G a = some (.ins (He.ga K "Hasher") dx [("width", V.int w)]) := hh
    replace hw0 : 0 ≤ w := hw0
    replace hw1 : w ≤ 100000 := hw1
    refine ⟨_, PSs.nox (pss_one (ps_ret (pe_chain (op_le) (op_lt) pe_int (pv 1) (pe_op op_shl pe_int (ke_fld (K := K) (pv 0)))))), ?_⟩
    refine (show SM (V0 H G) _ _ _ G from ?_) H (J.start e0)
    walk_at "go"
    refine ifd (fun h0 => ?_) (fun h0 => ?_)
    · walk_at "go"
      refine fm hh T.cl_Hasher T.n_Hasher_width rfl ?_
      refine rm_I ⟨hw0, by omega, by decide⟩ ?_
      walk_at "go"
      refine kv_ret q (Ex.refl _) ?_
      show V.bl (decide (n < 1 * 2 ^ w.toNat)) = V.bl (decide (0 ≤ n ∧ n < 2 ^ w.toNat))
      rw [Int.one_mul]
      congr 1
      exact decide_eq_decide.mpr ⟨fun z => ⟨h0, z⟩, fun z => z.2⟩
    · walk_at "go"
      refine kv_ret q (Ex.refl _) ?_
      show V.bl false = V.bl (decide (0 ≤ n ∧ n < 2 ^ w.toNat))
      rw [decide_eq_false (fun z => h0 z.1)]
def sp_Hasher_digest (K : PySem.W.Frag) : Sp := spA (fun (x : Addr × Int × Int × Addr × List Int) vs G => vs = [.ref x.1, .int x.2.2.1, .ref x.2.2.2.1] ∧ HsAt (He.ga K "Hasher") G x.1 x.2.1 ∧ 0 ≤ x.2.1 ∧ x.2.1 ≤ 128 ∧ SqS K G x.2.2.2.1 (x.2.2.2.2.map V.int) ∧ (limbs x.2.2.2.2).length ≤ 99000) fun x v _ => v = .int (dgst x.2.1 x.2.2.1 x.2.2.2.2)
theorem ok_Hasher_digest (T : Txt K mg) : FnOk P w K mg base CX0 2 (He.fAd K ("Hasher", some "digest")) T.fd_Hasher_digest ["self", "tag", "numbers"] (sp_Hasher_digest K) := by
  refine T.Hasher_digest.F.ok sc_Hasher_digest (fun vs H Q E h => ?_) (fun cdv A outer s H vs Q E hr h => ?_)
  · obtain ⟨_, _, _, ⟨rfl, _⟩, _⟩ := h
    rfl
  · obtain ⟨⟨a, w, t, b, ns⟩, G, e0, ⟨rfl, ⟨dx, hh⟩, hw0, hw1, hS, hz⟩, q⟩ := h
    replace hh : G a = some (.ins (He.ga K "Hasher") dx [("width", V.int w)]) := hh
    replace hw0 : 0 ≤ w := hw0
    replace hw1 : w ≤ 128 := hw1
    replace hS : SqS K G b (ns.map V.int) := hS
    replace hz : (limbs ns).length ≤ 99000 := hz
    refine ⟨_, PSs.nox (pss_cons (ps_set (i := 3) sc_Hasher_digest.nd rfl (Or.inl rfl) (pe_call (ok_mixed T) (hr.mono (by omega)) (by rfl) T.mixed.g T.mixed.F.kp T.mixed.b .nil pass0 (pa_cons (pe_lst (pa_cons (pv 1) (ka_star (K := K) (pe_call (ok_limbs_of T) (hr.mono (by omega)) (by rfl) T.limbs_of.g T.limbs_of.F.kp T.limbs_of.b .nil pass0 (pa_cons (pv 2) pa_nil)) (pa_cons (ke_fld (K := K) (pv 0)) (pa_cons (ke_fld (K := K) (pv 0)) pa_nil))))) pa_nil)))
  (pss_one (ps_ret (pe_op op_shr (pv 3) (pe_callB cq_max (by rfl) T.z_max (by decide +kernel) (pa_cons pe_int (pa_cons (pe_op op_sub (pe_glob (v := .int 128) rfl T.c_MIX_BITS.choose_spec ⟨_, rfl⟩) (ke_fld (K := K) (pv 0))) pa_nil))))))), ?_⟩
    refine (show SM (V0 H G) _ _ _ G from ?_) H (J.start e0)
    walk_at "go"
    refine em_lst ?_
    walk_at "go"
    refine am_star ?_
    walk_at "go"
    refine cm_a (b, ns) ⟨rfl, hS, by show (limbs ns).length ≤ 100000; omega⟩ fun v G1 e1 hv => ?_
    obtain ⟨p, rfl, gp⟩ := hv
    refine ⟨p, _, rfl, .inr (sq_of gp), ?_⟩
    walk_at "go"
    refine fm (e1 _ _ hh) T.cl_Hasher T.n_Hasher_width rfl ?_
    walk_at "go"
    refine fm (e1 _ _ hh) T.cl_Hasher T.n_Hasher_width rfl ?_
    walk_at "go"
    refine ⟨?_, fun l G2 gl e2 gl2 => ?_⟩
    · show (V.int t :: ((limbs ns).map V.int ++ [V.int w, V.int w])).length ≤ sizeLine
      rw [List.length_cons, List.length_append, List.length_map]
      exact sz6 (by show (limbs ns).length + 2 + 1 ≤ _; omega)
    have el : (V.int t :: ((limbs ns).map V.int ++ [V.int w, V.int w])) = (t :: limbs ns ++ [w, w]).map V.int := by simp
    walk_at "go"
    refine cm_a (l, t :: limbs ns ++ [w, w]) ⟨rfl, sq_of (by rw [gl2]; exact congrArg (fun z => some (HO.lst z)) el)⟩ fun v G3 e3 hv => ?_
    cases hv
    walk_at "go"
    refine fm (e3 _ _ (e2 _ _ (e1 _ _ hh))) T.cl_Hasher T.n_Hasher_width rfl ?_
    walk_at "go"
    refine kv_ret q (e1.trans (e2.trans e3)) ?_
    show V.int (_ / 2 ^ (if 128 - w > 0 then 128 - w else 0).toNat) = V.int (_ / 2 ^ (128 - w).toNat)
    rw [show (if 128 - w > 0 then 128 - w else 0).toNat = (128 - w).toNat by split <;> omega]

def dig (n : Int) (k : Nat) : Int := Builtin.bitAnd (n / 2 ^ (4 * (k : Int)).toNat) 15
def digs (n : Int) (m : Nat) : List Int := (List.range m).map (dig n)
def md (w : Int) : Int := (w + 4 - 1) / 4
def cd (w : Int) : Int := if ((Builtin.Int.intBits (15 * md w) : Nat) + 4 - 1 : Int) / 4 > 1 then ((Builtin.Int.intBits (15 * md w) : Nat) + 4 - 1 : Int) / 4 else 1
def inv15 (ds : List Int) : List Int := ds.map fun d => 15 - d
def digitsOf (w m : Int) : List Int := digs m (md w).toNat ++ digs (inv15 (digs m (md w).toNat)).sum (cd w).toNat
theorem digs_len (n : Int) (m : Nat) : (digs n m).length = m := by unfold digs; rw [List.length_map, List.length_range]
theorem md_nn {w : Int} (h : 0 ≤ w) : 0 ≤ md w := by unfold md; omega
theorem md_le {w : Int} (h : w ≤ 400) : md w ≤ 101 := by unfold md; omega
theorem cd_pos (w : Int) : 0 ≤ cd w := by unfold cd; split <;> omega
theorem cd_le {w : Int} (h0 : 0 ≤ w) (h : w ≤ 400) : cd w ≤ 4 := by
  have a := md_nn h0
  have b := md_le h
  have c : Builtin.Int.intBits (15 * md w) ≤ 11 := PyProof.Rows.intBits_le (show (15 * md w).natAbs < 2048 by omega)
  unfold cd; split <;> omega
def sp_base_digits (K : PySem.W.Frag) : Sp := spP (fun vs _ => ∃ n m : Int, vs = [.int n, .int m] ∧ 0 ≤ m ∧ m ≤ 1000) fun vs _ v G' => ∀ n m : Int, vs = [.int n, .int m] → ∃ p, v = .ref p ∧ G' p = some (.lst ((digs n m.toNat).map V.int))
theorem ok_base_digits (T : Txt K mg) : FnOk P w K mg base CX0 1 (He.fAd K ("base_digits", none)) T.fd_base_digits ["number", "many"] (sp_base_digits K) := by
  refine T.base_digits.F.ok sc_base_digits (fun vs H Q E h => ?_) (fun cdv A outer s H vs Q E hr h => ?_)
  · obtain ⟨_, _, ⟨n, m, rfl, _⟩, _⟩ := h
    rfl
  · obtain ⟨G, e0, ⟨n, m, rfl, hm, hm'⟩, q⟩ := h
    refine ⟨_, PSs.nox (pss_one (ps_ret (pe_lc (own := [("place", 2)]) rfl sc_base_digits.nd (pi_range1 rfl T.z_range (pa_cons (pv 1) pa_nil)) (blkOk_by (own := [("place", 2)]) (N := ["number", "many", "place"]) (sc := defScope s_base_digits) (by decide +kernel)) (fun _ _ _ _ _ => pg_name (i := 2) sc_base_digits.nd rfl (Or.inl rfl)) (fun _ _ _ _ _ => pts_nil) (fun _ _ _ _ _ => (pe_op op_and (pe_op op_shr (pv 0) (pe_op op_mul (pe_glob (v := .int 4) rfl T.c_DIGIT_BITS.choose_spec ⟨_, rfl⟩) (pv 2))) (pe_glob (v := .int 15) rfl T.c_GREATEST_DIGIT.choose_spec ⟨_, rfl⟩)))))), ?_⟩
    refine (show SM (V0 H G) _ _ _ G from ?_) H (J.start e0)
    walk_at "go"
    refine em_mapR1 (fun k => V.int (dig n k)) ?_
    walk_at "go"
    refine ⟨m, rfl, hm, by omega, fun x => rfl, fun i G' U' e hi => ?_, fun D G1 e1 g1 g2 => ?_⟩
    · walk_at "go"
      exact ⟨rfl, Ex.refl _⟩
    · walk_at "go"
      refine kv_ret q e1 fun n' m' e => ?_
      cases e
      exact ⟨D, rfl, by rw [g2, digs, List.map_map]; rfl⟩
def sp_message_digits (K : PySem.W.Frag) : Sp := spP (fun vs _ => ∃ w : Int, vs = [.int w]) fun vs _ v G' => ∀ w : Int, vs = [.int w] → v = .int (md w)
theorem ok_message_digits (T : Txt K mg) : FnOk P w K mg base CX0 1 (He.fAd K ("message_digits", none)) T.fd_message_digits ["width"] (sp_message_digits K) := by
  refine T.message_digits.F.ok sc_message_digits (fun vs H Q E h => ?_) (fun cdv A outer s H vs Q E hr h => ?_)
  · obtain ⟨_, _, ⟨n, rfl⟩, _⟩ := h
    rfl
  · obtain ⟨G, e0, ⟨w, rfl⟩, q⟩ := h
    refine ⟨_, PSs.nox (pss_one (ps_ret (pe_op op_fdivW (pe_op op_sub (pe_op op_add (pv 0) (pe_glob (v := .int 4) rfl T.c_DIGIT_BITS.choose_spec ⟨_, rfl⟩)) pe_int) (pe_glob (v := .int 4) rfl T.c_DIGIT_BITS.choose_spec ⟨_, rfl⟩)))), ?_⟩
    refine (show SM (V0 H G) _ _ _ G from ?_) H (J.start e0)
    walk_at "go"
    refine kv_ret q (Ex.refl _) fun w' e => ?_
    cases e
    rfl
def sp_check_digits (K : PySem.W.Frag) : Sp := spP (fun vs _ => ∃ w : Int, vs = [.int w]) fun vs _ v G' => ∀ w : Int, vs = [.int w] → v = .int (cd w)
theorem ok_check_digits (T : Txt K mg) : FnOk P w K mg base CX0 2 (He.fAd K ("check_digits", none)) T.fd_check_digits ["width"] (sp_check_digits K) := by
  refine T.check_digits.F.ok sc_check_digits (fun vs H Q E h => ?_) (fun cdv A outer s H vs Q E hr h => ?_)
  · obtain ⟨_, _, ⟨n, rfl⟩, _⟩ := h
    rfl
  · obtain ⟨G, e0, ⟨w, rfl⟩, q⟩ := h
    refine ⟨_, PSs.nox (pss_cons (ps_set (i := 1) sc_check_digits.nd rfl (Or.inl rfl) (pe_op op_mul (pe_glob (v := .int 15) rfl T.c_GREATEST_DIGIT.choose_spec ⟨_, rfl⟩) (pe_call (ok_message_digits T) (hr.mono (by omega)) (by rfl) T.message_digits.g T.message_digits.F.kp T.message_digits.b .nil pass0 (pa_cons (pv 0) pa_nil))))
  (pss_one (ps_ret (pe_callB cq_max (by rfl) T.z_max (by decide +kernel) (pa_cons pe_int (pa_cons (pe_op op_fdivW (pe_op op_sub (pe_op op_add (pe_bits (pv 1)) (pe_glob (v := .int 4) rfl T.c_DIGIT_BITS.choose_spec ⟨_, rfl⟩)) pe_int) (pe_glob (v := .int 4) rfl T.c_DIGIT_BITS.choose_spec ⟨_, rfl⟩)) pa_nil)))))), ?_⟩
    refine (show SM (V0 H G) _ _ _ G from ?_) H (J.start e0)
    walk_at "go"
    refine cm_p ⟨w, rfl⟩ fun v G1 e1 hv => ?_
    cases hv w rfl
    walk_at "go"
    refine kv_ret q e1 fun w' e => ?_
    cases e
    rfl
def sp_digits_of (K : PySem.W.Frag) : Sp := spP (fun vs _ => ∃ w m : Int, vs = [.int w, .int m] ∧ 0 ≤ w ∧ w ≤ 400) fun vs _ v G' => ∀ w m : Int, vs = [.int w, .int m] → ∃ p, v = .ref p ∧ G' p = some (.lst ((digitsOf w m).map V.int))
theorem ok_digits_of (T : Txt K mg) : FnOk P w K mg base CX0 3 (He.fAd K ("digits_of", none)) T.fd_digits_of ["width", "message"] (sp_digits_of K) := by
  refine T.digits_of.F.ok sc_digits_of (fun vs H Q E h => ?_) (fun cdv A outer s H vs Q E hr h => ?_)
  · obtain ⟨_, _, ⟨n, m, rfl, _⟩, _⟩ := h
    rfl
  · obtain ⟨G, e0, ⟨w, m, rfl, hw, hw'⟩, q⟩ := h
    have h1 := md_nn hw
    have h2 := md_le hw'
    have h3 := cd_pos w
    have h4 := cd_le hw hw'
    refine ⟨_, PSs.nox (pss_cons (ps_set (i := 2) sc_digits_of.nd rfl (Or.inl rfl) (pe_call (ok_base_digits T) (hr.mono (by omega)) (by rfl) T.base_digits.g T.base_digits.F.kp T.base_digits.b .nil pass0 (pa_cons (pv 1) (pa_cons (pe_call (ok_message_digits T) (hr.mono (by omega)) (by rfl) T.message_digits.g T.message_digits.F.kp T.message_digits.b .nil pass0 (pa_cons (pv 0) pa_nil)) pa_nil))))
  (pss_cons (ps_set (i := 3) sc_digits_of.nd rfl (Or.inl rfl) (pe_callB (kr_sum (K := K)) (by rfl) T.z_sum (by decide +kernel) (pa_cons (pe_lc (own := [("digit", 4)]) rfl sc_digits_of.nd (ki_list (K := K) (pv 2)) (blkOk_by (own := [("digit", 4)]) (N := ["width", "message", "digits", "check", "digit"]) (sc := defScope s_digits_of) (by decide +kernel)) (fun _ _ _ _ _ => pg_name (i := 4) sc_digits_of.nd rfl (Or.inl rfl)) (fun _ _ _ _ _ => pts_nil) (fun _ _ _ _ _ => (pe_op op_sub (pe_glob (v := .int 15) rfl T.c_GREATEST_DIGIT.choose_spec ⟨_, rfl⟩) (pv 4)))) pa_nil)))
  (pss_one (ps_ret (pe_op op_cat (pv 2) (pe_call (ok_base_digits T) (hr.mono (by omega)) (by rfl) T.base_digits.g T.base_digits.F.kp T.base_digits.b .nil pass0 (pa_cons (pv 3) (pa_cons (pe_call (ok_check_digits T) (hr.mono (by omega)) (by rfl) T.check_digits.g T.check_digits.F.kp T.check_digits.b .nil pass0 (pa_cons (pv 0) pa_nil)) pa_nil)))))))), ?_⟩
    refine (show SM (V0 H G) _ _ _ G from ?_) H (J.start e0)
    walk_at "go"
    refine cm_p ⟨w, rfl⟩ fun v G1 e1 hv => ?_
    cases hv w rfl
    walk_at "go"
    refine cm_p ⟨m, md w, rfl, h1, by omega⟩ fun v G2 e2 hv => ?_
    obtain ⟨p, rfl, gp⟩ := hv m (md w) rfl
    walk_at "go"
    refine em_mapL (fun x => match x with | .int d => .int (15 - d) | x => x) ?_
    walk_at "go"
    refine ⟨p, _, rfl, sq_of gp, by rw [List.length_map, digs_len]; omega, fun i x G' U' e hx => ?_, fun D G3 e3 g1 g2 => ?_⟩
    · rw [List.getElem?_map] at hx
      obtain ⟨d, _, rfl⟩ := Option.map_eq_some_iff.mp hx
      walk_at "go"
      refine ⟨rfl, Ex.refl _, ?_⟩
      walk_at "go"
      exact ⟨rfl, Ex.refl _⟩
    · walk_at "go"
      rw [List.map_map] at g2
      refine rm_sum (ns := inv15 (digs m (md w).toNat)) (sq_of (by rw [g2, inv15, List.map_map]; rfl)) ?_
      walk_at "go"
      refine cm_p ⟨w, rfl⟩ fun v G4 e4 hv => ?_
      cases hv w rfl
      walk_at "go"
      refine cm_p ⟨_, cd w, rfl, h3, by omega⟩ fun v G5 e5 hv => ?_
      obtain ⟨p', rfl, gp'⟩ := hv _ (cd w) rfl
      walk_at "go"
      refine rm_cat (e5 _ _ (e4 _ _ (e3 _ _ gp))) gp' ?_ fun r G6 g6 e6 gr => ?_
      · rw [List.length_map, List.length_map, digs_len, digs_len]
        exact Nat.le_trans (show _ ≤ 1000 by omega) (by decide)
      · walk_at "go"
        refine kv_ret q (e1.trans (e2.trans (e3.trans (e4.trans (e5.trans e6))))) fun w' m' e => ?_
        cases e
        exact ⟨r, rfl, by rw [gr, digitsOf, List.map_append]⟩

/-! ### numbers of bounded size -/
def Bd (n : Int) : Prop := many n ≤ 700
theorem limbs_bd {ns : List Int} (hl : ns.length ≤ 120) (h : ∀ n ∈ ns, Bd n) : (limbs ns).length ≤ 99000 := by
  have := limbsN_le h
  have h2 : ns.length * 701 ≤ 120 * 701 := Nat.mul_le_mul_right _ hl
  unfold limbs
  rw [List.length_cons]
  omega
theorem bd_abs {n : Int} (h : n.natAbs < 2 ^ 200) : Bd n := by
  have := PyProof.Rows.intBits_le h
  unfold Bd many
  omega
theorem bd_small {n : Int} (h0 : -1000000 ≤ n) (h : n ≤ 1000000) : Bd n := by
  refine bd_abs (Nat.lt_of_lt_of_le (show n.natAbs < 2 ^ 20 by omega) (Nat.pow_le_pow_right (by decide) (by decide)))
theorem bd_rng {n : Int} {k : Nat} (h0 : 0 ≤ n) (h : n < 2 ^ k) (hk : k ≤ 200) : Bd n := by
  refine bd_abs ?_
  have : n.natAbs < 2 ^ k := by
    have e : ((n.natAbs : Nat) : Int) < ((2 ^ k : Nat) : Int) := by rw [PySem.W.kbt_cast]; omega
    exact Int.ofNat_lt.mp e
  exact Nat.lt_of_lt_of_le this (Nat.pow_le_pow_right (by decide) hk)
theorem bd_dgst {w : Int} (h4 : 4 ≤ w) (h : w ≤ 128) (t : Int) (ns : List Int) : Bd (dgst w t ns) := bd_rng (dgst_rng h4 h t ns).1 (dgst_rng h4 h t ns).2 (by omega)

/-! ### the digests by data -/
theorem rpa1 {F : Hp} {vs : List V} {a : D} (h : RpA K F vs [a]) : ∃ v, vs = [v] ∧ Rp K F v a := by
  cases h with | cons x n => cases n; exact ⟨_, rfl, x⟩
abbrev Hs (K : PySem.W.Frag) (wd : Int) : D := .obj (He.ga K "Hasher") ["width"] [.int wd]
abbrev lI (ns : List Int) : D := .lst (ns.map D.int)
abbrev tI (ns : List Int) : D := .tup (ns.map D.int)
theorem hs_at {G : Hp} {v : V} {C : Addr} {wd : Int} (h : Rp K G v (.obj C ["width"] [.int wd])) : ∃ a, v = .ref a ∧ HsAt C G a wd := by
  cases h with
  | @obj a _ dx fvs _ _ ha hk b =>
    obtain ⟨v, e, hv⟩ := rpa1 b
    cases hv
    match fvs, hk, e with
    | [(k, u)], hk, e => 
      simp at hk e
      subst hk e
      exact ⟨a, rfl, dx, ha⟩
theorem sqs_of {G : Hp} {v : V} {ns : List Int} {x : D} (hx : x = lI ns ∨ x = tI ns) (h : Rp K G v x) : ∃ a, v = .ref a ∧ SqS K G a (ns.map V.int) := by
  rcases hx with rfl | rfl
  · cases h with | lst a b => rw [rpa_ints b] at a; exact ⟨_, rfl, .inl (sq_of a)⟩
  · cases h with | tup a b => rw [rpa_ints b] at a; exact ⟨_, rfl, .inr a⟩
theorem dc_digest {Q : E → Prop} {wd t : Int} {x : D} (ns : List Int) (hx : x = lI ns ∨ x = tI ns) (h0 : 0 ≤ wd) (h1 : wd ≤ 128) (hl : (limbs ns).length ≤ 99000) (k : Q (.d (.int (dgst wd t ns)))) : DC K (sp_Hasher_digest K) [Hs K wd, .int t, x] Q := fun U L G vs lo s => by
  cases s with
  | cons a s =>
    cases s with
    | cons b s =>
      obtain ⟨v, rfl, c⟩ := rpa1 s
      cases b
      obtain ⟨p, rfl, hp⟩ := hs_at a
      obtain ⟨q, rfl, hq⟩ := sqs_of hx c
      exact cm_a (p, wd, t, q, ns) ⟨rfl, hp, h0, h1, hq, hl⟩ fun v G' e hv => ⟨e, .d (.int (dgst wd t ns)), by rw [show v = .int (dgst wd t ns) from hv]; exact Rp.int _, k⟩
def isD (wd n : Int) : Bool := decide (0 ≤ n ∧ n < 2 ^ wd.toNat)
theorem dc_isdig {Q : E → Prop} {wd n : Int} (h0 : 0 ≤ wd) (h1 : wd ≤ 100000) (k : Q (.d (.bl (isD wd n)))) : DC K (sp_Hasher_is_digest K) [Hs K wd, .int n] Q := fun U L G vs lo s => by
  cases s with
  | cons a s =>
    obtain ⟨v, rfl, c⟩ := rpa1 s
    cases c
    obtain ⟨p, rfl, hp⟩ := hs_at a
    exact cm_a (p, wd, n) ⟨rfl, hp, h0, h1⟩ fun v G' e hv => ⟨e, .d (.bl (isD wd n)), by rw [show v = .bl (isD wd n) from hv]; exact Rp.bl _, k⟩
theorem de_hasher {ρ : List E} {Q : E → Prop} {E' : XK} {tas : TA} (wd : Int) (h : DA K tas ρ fun ds => ds = [.int wd] ∧ Q (.d (Hs K wd))) : DE K (tMake (He.ga K "Hasher") (sp_Hasher___init__ K) [] E' tas) ρ Q := fun U σ L G o =>
  em_makeI (fs := [("width", V.int wd)]) ((h U σ L G o).w fun vs G1 ⟨e1, ds, sd, ed, k⟩ => by
    subst ed
    obtain ⟨v, rfl, c⟩ := rpa1 sd
    cases c
    exact ⟨fun x dx H QI EI hx q => ⟨x, dx, _, wd, rfl, rfl, hx, q⟩, fun x dx G2 n e2 g => ⟨e1.trans e2, .d (Hs K wd), .obj g rfl (.cons (.int _) .nil), k⟩⟩)
/-! ### lists of ints, cut -/
theorem cut_to {α : Type} {f : α → D} {xs : List α} {k : Nat} (h : k ≤ xs.length) : cutO (xs.map f) none (some (k : Int)) = (xs.take k).map f := by
  unfold cutO
  rw [HT.sIx_none, HT.sIx_nat, List.drop_zero, Nat.sub_zero, List.length_map, Nat.min_eq_left h, List.map_take]
theorem cut_from {α : Type} {f : α → D} {xs : List α} {k : Nat} (h : k ≤ xs.length) : cutO (xs.map f) (some (k : Int)) none = (xs.drop k).map f := by
  unfold cutO
  rw [HT.sIx_none, HT.sIx_nat, List.length_map, Nat.min_eq_left h, List.map_drop]
  exact List.take_of_length_le (by rw [List.length_drop, List.length_map]; exact Nat.le_refl _)
theorem atI_map {α : Type} {f : α → D} {xs : List α} {k : Nat} {x : α} (h : xs[k]? = some x) : atI (xs.map f) (k : Int) = some (f x) := atI_nat (by rw [List.getElem?_map, h]; rfl)
theorem ints_inj : ∀ {a b : List Int}, a.map D.int = b.map D.int → a = b
  | [], [], _ => rfl
  | [], _ :: _, h => by simp at h
  | _ :: _, [], h => by simp at h
  | x :: a, y :: b, h => by
    rw [List.map_cons, List.map_cons] at h
    injection h with h1 h2
    injection h1 with h1
    rw [h1, ints_inj h2]
theorem tI_ne {a b : List Int} : (tI a = tI b) ↔ a = b := by
  constructor
  · intro h; injection h with h; exact ints_inj h
  · intro h; rw [h]
theorem lI_ne {a b : List Int} : (lI a = lI b) ↔ a = b := by
  constructor
  · intro h; injection h with h; exact ints_inj h
  · intro h; rw [h]
theorem lI_plain (a : List Int) : (lI a).plain = true := plains_map (fun _ => rfl) a
theorem tI_plain (a : List Int) : (tI a).plain = true := plains_map (fun _ => rfl) a
theorem lI_dep (a : List Int) : (lI a).dep ≤ 60 := by show D.deps (a.map D.int) + 1 ≤ 60; have := deps_map (f := D.int) (n := 0) (fun _ => Nat.le_refl _) a; omega
theorem tI_dep (a : List Int) : (tI a).dep ≤ 60 := by show D.deps (a.map D.int) + 1 ≤ 60; have := deps_map (f := D.int) (n := 0) (fun _ => Nat.le_refl _) a; omega
theorem dr_eqLI {Q : E → Prop} {a b : List Int} (k : Q (.d (.bl (decide (a = b))))) : DR K (rEqD K) (.d (lI a)) (.d (lI b)) Q := dr_eqD (decide (a = b)) (by rw [decide_eq_true_iff]; exact lI_ne.symm) (lI_plain a) (lI_plain b) (lI_dep a) (lI_dep b) k
theorem dr_neLI {Q : E → Prop} {a b : List Int} (k : Q (.d (.bl (!decide (a = b))))) : DR K (rNeD K) (.d (lI a)) (.d (lI b)) Q := dr_neD (decide (a = b)) (by rw [decide_eq_true_iff]; exact lI_ne.symm) (lI_plain a) (lI_plain b) (lI_dep a) (lI_dep b) k
theorem dr_eqTI {Q : E → Prop} {a b : List Int} (k : Q (.d (.bl (decide (a = b))))) : DR K (rEqD K) (.d (tI a)) (.d (tI b)) Q := dr_eqD (decide (a = b)) (by rw [decide_eq_true_iff]; exact tI_ne.symm) (tI_plain a) (tI_plain b) (tI_dep a) (tI_dep b) k
theorem dr_neTI {Q : E → Prop} {a b : List Int} (k : Q (.d (.bl (!decide (a = b))))) : DR K (rNeD K) (.d (tI a)) (.d (tI b)) Q := dr_neD (decide (a = b)) (by rw [decide_eq_true_iff]; exact tI_ne.symm) (tI_plain a) (tI_plain b) (tI_dep a) (tI_dep b) k
def sqD (b : Bool) (ns : List Int) : D := match b with | true => tI ns | false => lI ns
theorem db_lenSq {Q : E → Prop} {b : Bool} {ns : List Int} (k : Q (.d (.int (ns.length : Nat)))) : DB K (rLenQ K) [sqD b ns] Q := by
  cases b
  · exact db_lenM k
  · exact db_lenMT k
/-- an item at an unknown place -/
theorem atI_some {ds : List D} {n : Int} {P : D → Prop} (h0 : 0 ≤ n) (h1 : n < ds.length) (k : ∀ d ∈ ds, P d) : ∃ d, atI ds n = some d ∧ P d := by
  obtain ⟨m, rfl⟩ := Int.eq_ofNat_of_zero_le h0
  have hm : m < ds.length := by omega
  exact ⟨ds[m], atI_nat (List.getElem?_eq_getElem hm), k _ (List.getElem_mem hm)⟩
/-- a choice of two, three, four ints -/
theorem atI_ints {a : List D} {n : Int} {P : D → Prop} (R : Int → Prop) (h0 : 0 ≤ n) (h1 : n < a.length) (h2 : ∀ d ∈ a, ∃ m, d = .int m ∧ R m) (k : ∀ m, R m → P (.int m)) : ∃ d, atI a n = some d ∧ P d :=
  atI_some h0 h1 fun d hd => by obtain ⟨m, rfl, r⟩ := h2 d hd; exact k m r
theorem dn_listSq {ρ : List E} {te : TE} {QN : List D → Prop} (h : DE K te ρ fun e => ∃ b ns, e = .d (sqD b ns) ∧ QN (ns.map D.int)) : DN K (tCB (rListQ K) (tCons te tNil)) ρ QN :=
  dn_listL fun U σ L G o => (h U σ L G o).w fun v G1 ⟨e1, e, se, b, ns, ed, q⟩ => ⟨e1, e, se, ns.map D.int, by subst ed; cases b; exact .inl rfl; exact .inr rfl, q⟩
theorem ixN_nat {n k : Nat} (h : k < n) : ixN n (k : Int) = some k := by
  unfold ixN
  rw [if_pos (by omega), if_pos (by omega), Int.toNat_natCast]
theorem bd_xor1 {p : Int} {k : Nat} (h0 : 0 ≤ p) (h : p < 2 ^ k) (h1 : 1 ≤ k) (hk : k ≤ 200) : Bd (Builtin.bitXor p 1) := by
  obtain ⟨a, rfl⟩ := Int.eq_ofNat_of_zero_le h0
  rw [Bits.bitXor_pp (Int.natCast_nonneg a) (by decide), Int.toNat_natCast]
  have ha : a < 2 ^ k := nat_lt_pow h
  have hb : (1 : Int).toNat < 2 ^ k := Nat.lt_of_lt_of_le (show 1 < 2 ^ 1 by decide) (Nat.pow_le_pow_right (by decide) h1)
  exact bd_rng (k := k) (by omega) (by rw [← PySem.W.kbt_cast]; exact Int.ofNat_lt.mpr (Nat.xor_lt_two_pow ha hb)) hk
theorem ty_tup {H : Hp} {a : Addr} {xs : List V} (h : SqT K H a xs) : TyX K H (.ref a) (.type "tuple") := by
  rcases h with (h | ⟨o, h⟩) | ⟨o, its, n, e, c, _⟩
  · exact .base (.tup h)
  · exact .fTuple h
  · exact .kTuple e c
theorem de_isTup {ρ : List E} {te : TE} {Q : E → Prop} (h : DE K te ρ fun e => ∃ ds, e = .d (.tup ds) ∧ Q (.d (.bl true))) : DE K (tCB (rIsi K) (tCons te (tCons (tC (.ty "tuple")) tNil))) ρ Q := fun U σ L G o =>
  em_cb (am_cons ((h U σ L G o).w fun v G1 ⟨e1, e, se, ds, ed, k⟩ => am_cons (em_c (am_nil (by
    subst ed
    cases (se : Rp K G1 v (.tup ds)) with
    | tup a b => exact fun H j _ q => ⟨_, .ty "tuple", .type "tuple", .type "tuple", true, rfl, .ty "tuple", ty_tup (ex_t j.up a), kit_ty (by decide +kernel), q _ _ _ j ⟨e1, .d (.bl true), Rp.bl _, k⟩⟩)))))
theorem ty_lst {H : Hp} {a : Addr} {xs : List V} (h : SqL K H a xs) : H a = some (.lst xs) → TyX K H (.ref a) (.type "list") := fun h => .base (.lst h)
theorem de_isLst {ρ : List E} {te : TE} {Q : E → Prop} (h : DE K te ρ fun e => ∃ ds, e = .d (.lst ds) ∧ Q (.d (.bl true))) : DE K (tCB (rIsi K) (tCons te (tCons (tC (.ty "list")) tNil))) ρ Q := fun U σ L G o =>
  em_cb (am_cons ((h U σ L G o).w fun v G1 ⟨e1, e, se, ds, ed, k⟩ => am_cons (em_c (am_nil (by
    subst ed
    cases (se : Rp K G1 v (.lst ds)) with
    | lst a b => exact fun H j _ q => ⟨_, .ty "list", .type "list", .type "list", true, rfl, .ty "list", .base (.lst (j.up _ _ a)), kit_ty (by decide +kernel), q _ _ _ j ⟨e1, .d (.bl true), Rp.bl _, k⟩⟩)))))
theorem and1 {n : Int} : Builtin.bitAnd n 1 = n % 2 := PySem.W.kbt_mask n 1
theorem sq_of_pick {ns : List Int} : ∀ d ∈ [lI ns, tI ns], ∃ b, d = sqD b ns := by
  intro d hd
  simp at hd
  rcases hd with rfl | rfl
  · exact ⟨false, rfl⟩
  · exact ⟨true, rfl⟩
theorem log_small {n : Int} (h0 : 0 ≤ n) (h : n ≤ 1000000) : n.natAbs.log2 < 9000 := by
  have : n.natAbs < 2 ^ 20 := by omega
  by_cases z : n = 0
  · subst z; decide
  · have := (Nat.log2_lt (by omega)).mpr this
    omega

section
local macro_rules | `(tactic| walk_at "dr") => `(tactic| first | exact fun _ => .int _ | exact fun _ => .bl _ | exact fun _ => .str _ | exact fun _ => .non)
local macro_rules | `(tactic| walk_at "sz") => `(tactic| first | exact Nat.le_of_ble_eq_true rfl | (simp only [List.length_append, List.length_map, List.length_range, List.length_cons, List.length_nil, List.length_reverse]; exact sz6 (by omega)))
local macro_rules | `(tactic| walk_at "le") => `(tactic| ((repeat first | exact EnvLe.nil | with_reducible refine EnvLe.any ?_ | with_reducible refine EnvLe.same ?_ | refine EnvLe.sameE ?_ ?_); all_goals first | done | rfl | (simp; done) | (simp [List.map_append]; done) | skip))
local macro_rules | `(tactic| walk_at "d1") => `(tactic| first
  | with_reducible refine iteT ?_
  | with_reducible refine iteF ?_
  | with_reducible refine ifNT ?_
  | with_reducible refine ifNF ?_
  | with_reducible refine ds_seq ?_
  | refine ds_store ?_
  | ((with_reducible refine ds_own (dn_lst ?_)))
  | ((with_reducible refine ds_asg ?_))
  | ((with_reducible refine' dg_name ?fcc ?rcc ?_); (case fcc => rfl); (case rcc => first | (dsimp only [List.set]; done) | (dsimp only [List.set]; exact rfl)))
  | ((with_reducible refine' dg_tup ?lcc ?_); (case lcc => rfl))
  | with_reducible refine dgs_cons ?_
  | with_reducible refine dgs_nil ?_
  | ((with_reducible refine' set_to ?rcc ?_); (case rcc => first | (dsimp only [List.set]; done) | (dsimp only [List.set]; exact rfl)))
  | ((with_reducible refine' sz_ ?scc ?_); (case scc => walk_at "sz"))
  | ((with_reducible refine ds_aug ?_); refine ⟨_, rfl, ?_⟩)
  | with_reducible refine ds_next ?_
  | with_reducible refine ds_brk ?_
  | with_reducible refine ds_cont ?_
  | ((refine ds_retO ?_); refine ⟨_, rfl, ?_⟩)
  | with_reducible refine ds_ret ?_
  | with_reducible refine ds_retN ?_
  | ((refine ds_append ?_); refine ⟨_, rfl, ?_⟩)
  | ((refine ds_extend ?_); refine ⟨_, rfl, ?_⟩)
  | with_reducible refine ds_drop ?_
  | with_reducible refine ds_if ?_
  | with_reducible refine dt_test ?_
  | with_reducible refine dt_B ?_
  | with_reducible refine dt_and ?_
  | with_reducible refine dt_or ?_
  | with_reducible refine dt_not ?_
  | with_reducible refine dt_yes ?_
  | ((with_reducible refine de_var ?_); refine ⟨_, rfl, rfl, ?_⟩)
  | with_reducible refine de_cI ?_
  | with_reducible refine de_cB ?_
  | with_reducible refine de_cS ?_
  | with_reducible refine de_cN ?_
  | with_reducible refine de_op ?_
  | with_reducible refine de_un ?_
  | with_reducible refine de_chain ?_
  | ((with_reducible refine' dr_I0 ?dcc ?_); (case dcc => walk_at "dr"))
  | ((with_reducible refine' dr_I ?ccc ?dcc ?_); (case dcc => walk_at "dr"); (case ccc => walk_at "c"))
  | ((with_reducible refine' du_U ?dcc ?_); (case dcc => walk_at "dr"))
  | with_reducible refine dr_eqI ?_
  | with_reducible refine dr_neI ?_
  | with_reducible refine dr_eqS ?_
  | with_reducible refine dr_neS ?_
  | with_reducible refine dr_eqB ?_
  | with_reducible refine dr_neB ?_
  | with_reducible refine dr_isB ?_
  | with_reducible refine dr_notB ?_
  | with_reducible refine dr_isN ?_
  | with_reducible refine dr_notN ?_
  | with_reducible refine be ?_
  | with_reducible refine ie ?_
  | with_reducible refine dd ?_
  | with_reducible refine da_nil ?_
  | with_reducible refine da_cons ?_
  | with_reducible refine da_star ?_
  | with_reducible refine se_tup ?_
  | with_reducible refine se_lst ?_
  | with_reducible refine se_own ?_
  | with_reducible refine de_meth ?_
  | ((with_reducible refine' me ?ncc ?_); (case ncc => decide +kernel))
  | with_reducible refine de_fld ?_
  | ((with_reducible refine' fe ?ccc ?ncc ?lcc ?_); (case ccc => assumption); (case ncc => assumption); (case lcc => rfl))
  | with_reducible refine de_lst ?_
  | with_reducible refine de_tup ?_
  | ((with_reducible refine de_lenO ?_); refine ⟨_, rfl, ?_⟩)
  | ((with_reducible refine de_isTup ?_))
  | ((with_reducible refine de_isLst ?_))
  | with_reducible refine de_cb ?_
  | with_reducible refine de_bits ?_
  | refine de_callS (by exact rfl) (by exact rfl) ?_
  | with_reducible refine de_call ?_
  | with_reducible refine de_andV ?_
  | with_reducible refine de_orV ?_
  | with_reducible refine de_notV ?_
  | with_reducible refine de_if ?_
  | with_reducible refine db_lenM ?_
  | with_reducible refine db_lenMT ?_
  | with_reducible refine db_lenL ?_
  | with_reducible refine db_lenT ?_
  | with_reducible refine db_int ?_
  | with_reducible refine db_intB ?_
  | with_reducible refine db_max ?_
  | with_reducible refine db_min ?_
  | with_reducible refine db_listL ?_
  | with_reducible refine db_listT ?_
  | with_reducible refine db_tupL ?_
  | with_reducible refine db_tupT ?_
  | with_reducible refine db_sum ?_
  | with_reducible refine db_all ?_
  | with_reducible refine db_any ?_
  | with_reducible refine de_sl ?_
  | with_reducible refine do_none ?_
  | with_reducible refine do_some ?_
  | with_reducible refine dsl_L ?_
  | with_reducible refine dsl_O ?_
  | with_reducible refine dsl_A ?_
  | with_reducible refine dsl_SL ?_
  | with_reducible refine dsl_ST ?_
  | with_reducible refine dr_ixL ?_
  | with_reducible refine dr_ixO ?_
  | with_reducible refine dr_ixT ?_
  | with_reducible refine dr_ixSL ?_
  | with_reducible refine dr_ixST ?_
  | with_reducible refine dr_eqLI ?_
  | with_reducible refine dr_neLI ?_
  | with_reducible refine dr_eqTI ?_
  | with_reducible refine dr_neTI ?_)
local macro_rules | `(tactic| walk_at "d") => `(tactic| repeat walk_at "d1")
local macro_rules | `(tactic| walk_at "D") => `(tactic| ((try dsimp only); walk_at "d"))

theorem rpa_of_ints {F : Hp} : ∀ ns : List Int, RpA K F (ns.map V.int) (ns.map D.int)
  | [] => .nil
  | n :: ns => .cons (.int n) (rpa_of_ints ns)

def sp_are_digests (K : PySem.W.Frag) : Sp := spG K (fun x : Int × Bool × List Int => [Hs K x.1, sqD x.2.1 x.2.2]) (fun x => 4 ≤ x.1 ∧ x.1 ≤ 128 ∧ x.2.2.length ≤ 10000) fun x => .bl (x.2.2.all (isD x.1))
theorem ok_are_digests (T : Txt K mg) : FnOk P w K mg base CX0 (2) (He.fAd K ("are_digests", none)) T.fd_are_digests ["hasher", "numbers"] (sp_are_digests K) := by
  refine T.are_digests.F.ok sc_are_digests (fun vs H Q E h => len_g h fun _ => rfl) (fun cdv A outer s H vs Q E hr h => ⟨_, PSs.nox (pss_one (ps_ret (pe_callB (kr_all (K := K)) (by rfl) T.z_all (by decide +kernel) (pa_cons (pe_lc (own := [("number", 2)]) rfl sc_are_digests.nd (ki_seq (K := K) (pv 1)) (blkOk_by (own := [("number", 2)]) (N := ["hasher", "numbers", "number"]) (sc := defScope s_are_digests) (by decide +kernel)) (fun _ _ _ _ _ => pg_name (i := 2) sc_are_digests.nd rfl (Or.inl rfl)) (fun _ _ _ _ _ => pts_nil) (fun _ _ _ _ _ => (pe_meth (pv 0) T.cl_Hasher T.me_Hasher_is_digest (ok_Hasher_is_digest T) (hr.mono (by omega)) T.Hasher_is_digest.b .nil pass0 (pa_cons (pv 2) pa_nil)))) pa_nil)))), fn_g h fun x p => ?_⟩)
  change DS K _ (Wp.E.d _ :: (Wp.E.d _ :: (Wp.E.any :: []))) _ _ _ _
  obtain ⟨wd, b, ns⟩ := x
  obtain ⟨w4, w128, hl⟩ := p
  dsimp only at w4 w128 hl ⊢
  have el : (ns.map (isD wd)).all id = ns.all (isD wd) := by rw [List.all_map]; rfl
  have em : ns.map (fun n => D.bl (isD wd n)) = (ns.map (isD wd)).map D.bl := by rw [List.map_map]; rfl
  cases b
  · dsimp only [sqD]
    walk_at "d"
    refine de_new (dn_lcS (.inl (dn_mapL ns D.int (fun n => D.bl (isD wd n)) ?_)))
    walk_at "d"
    refine ⟨rfl, by omega, fun i n hn => dgw_name rfl (by decide) rfl ?_, ?_⟩
    · walk_at "d"
      refine dc_isdig (by omega) (by omega) ?_
      rfl
    · walk_at "d"
      rw [em]
      walk_at "d"
      rw [el]
  · dsimp only [sqD]
    walk_at "d"
    refine de_new (dn_lcS (.inr (dn_mapT ns D.int (fun n => D.bl (isD wd n)) ?_)))
    walk_at "d"
    refine ⟨rfl, by omega, fun i n hn => dgw_name rfl (by decide) rfl ?_, ?_⟩
    · walk_at "d"
      refine dc_isdig (by omega) (by omega) ?_
      rfl
    · walk_at "d"
      rw [em]
      walk_at "d"
      rw [el]

/-! ### signing: chains and keys -/
def nextW (w i c s x : Int) : Int := dgst w 4 [i, c, s, x]
def fol (w i c x : Int) (s : Nat) : Nat → Int
  | 0 => x
  | n + 1 => nextW w i c ((s + n : Nat) : Int) (fol w i c x s n)
def word0 (w sec i c : Int) : Int := dgst w 7 [sec, i, c]
def wordW (w sec i c : Int) (s : Nat) : Int := fol w i c (word0 w sec i c) 0 s
def ccN (w : Int) : Nat := (md w + cd w).toNat
def keyD (w sec i : Int) : Int := dgst w 5 (i :: (List.range (ccN w)).map fun (c : Nat) => wordW w sec i (c : Int) 15)
def nodeW (w sec : Int) : Nat → Int → Int
  | 0, p => keyD w sec p
  | l + 1, p => dgst w 6 [(l : Int), nodeW w sec l (2 * p), nodeW w sec l (2 * p + 1)]
def pubW (w sec : Int) (lev : Nat) : Int := dgst w 6 [(lev : Int), nodeW w sec lev 0]
theorem bd_fol {w : Int} (h4 : 4 ≤ w) (h : w ≤ 128) {i c x : Int} {s : Nat} (hx : Bd x) : ∀ n, Bd (fol w i c x s n)
  | 0 => hx
  | n + 1 => bd_dgst h4 h _ _
theorem bd_node {w : Int} (h4 : 4 ≤ w) (h : w ≤ 128) (sec : Int) : ∀ l p, Bd (nodeW w sec l p)
  | 0, _ => bd_dgst h4 h _ _
  | _ + 1, _ => bd_dgst h4 h _ _
def sp_chain_count (K : PySem.W.Frag) : Sp := spA (fun (w : Int) vs _ => vs = [.int w]) fun w v _ => v = .int (md w + cd w)
theorem ok_chain_count (T : Txt K mg) : FnOk P w K mg base CX0 3 (He.fAd K ("chain_count", none)) T.fd_chain_count ["width"] (sp_chain_count K) := by
  refine T.chain_count.F.ok sc_chain_count (fun vs H Q E h => ?_) (fun cdv A outer s H vs Q E hr h => ?_)
  · obtain ⟨_, _, _, rfl, _⟩ := h
    rfl
  · obtain ⟨w, G, e0, rfl, q⟩ := h
    refine ⟨_, PSs.nox (pss_one (ps_ret (pe_op op_add (pe_call (ok_message_digits T) (hr.mono (by omega)) (by rfl) T.message_digits.g T.message_digits.F.kp T.message_digits.b .nil pass0 (pa_cons (pv 0) pa_nil)) (pe_call (ok_check_digits T) (hr.mono (by omega)) (by rfl) T.check_digits.g T.check_digits.F.kp T.check_digits.b .nil pass0 (pa_cons (pv 0) pa_nil))))), ?_⟩
    refine (show SM (V0 H G) _ _ _ G from ?_) H (J.start e0)
    walk_at "go"
    refine cm_p ⟨w, rfl⟩ fun v G1 e1 hv => ?_
    obtain rfl : v = .int (md w) := hv w rfl
    walk_at "go"
    refine cm_p ⟨w, rfl⟩ fun v G2 e2 hv => ?_
    obtain rfl : v = .int (cd w) := hv w rfl
    walk_at "go"
    exact kv_ret q (e1.trans e2) rfl
def sp_next_word (K : PySem.W.Frag) : Sp := spA (fun (x : Addr × Int × Int × Int × Int × Int) vs G => vs = [.ref x.1, .int x.2.2.1, .int x.2.2.2.1, .int x.2.2.2.2.1, .int x.2.2.2.2.2] ∧ HsAt (He.ga K "Hasher") G x.1 x.2.1 ∧ 4 ≤ x.2.1 ∧ x.2.1 ≤ 128 ∧ Bd x.2.2.1 ∧ Bd x.2.2.2.1 ∧ Bd x.2.2.2.2.1 ∧ Bd x.2.2.2.2.2) fun x v _ => v = .int (nextW x.2.1 x.2.2.1 x.2.2.2.1 x.2.2.2.2.1 x.2.2.2.2.2)
theorem lkD (w : Int) : ([("width", V.int w)] : List (Str × V)).lookup ("digest" : Str) = none := rfl
theorem lkI (w : Int) : ([("width", V.int w)] : List (Str × V)).lookup ("is_digest" : Str) = none := rfl
theorem ok_next_word (T : Txt K mg) : FnOk P w K mg base CX0 3 (He.fAd K ("next_word", none)) T.fd_next_word ["hasher", "index", "chain", "step", "word"] (sp_next_word K) := by
  refine T.next_word.F.ok sc_next_word (fun vs H Q E h => ?_) (fun cdv A outer s H vs Q E hr h => ?_)
  · obtain ⟨_, _, _, ⟨rfl, _⟩, _⟩ := h
    rfl
  · obtain ⟨⟨hh, w, i, c, s0, x⟩, G, e0, ⟨rfl, ⟨dx, gh⟩, hw0, hw1, b1, b2, b3, b4⟩, q⟩ := h
    replace gh : G hh = some (.ins (He.ga K "Hasher") dx [("width", V.int w)]) := gh
    replace hw0 : 4 ≤ w := hw0
    replace hw1 : w ≤ 128 := hw1
    refine ⟨_, PSs.nox (pss_one (ps_ret (pe_meth (pv 0) T.cl_Hasher T.me_Hasher_digest (ok_Hasher_digest T) (hr.mono (by omega)) T.Hasher_digest.b .nil pass0 (pa_cons (pe_glob (v := .int 4) rfl T.c_STEP_TAG.choose_spec ⟨_, rfl⟩) (pa_cons (pe_lst (pa_cons (pv 1) (pa_cons (pv 2) (pa_cons (pv 3) (pa_cons (pv 4) pa_nil))))) pa_nil))))), ?_⟩
    refine (show SM (V0 H G) _ _ _ G from ?_) H (J.start e0)
    walk_at "go"
    refine mm gh (lkD w) ?_
    walk_at "go"
    refine em_lst ?_
    walk_at "go"
    refine ⟨by show 4 ≤ sizeLine; decide, fun l G1 _ e1 gl => ?_⟩
    walk_at "go"
    refine cm_a (hh, w, 4, l, [i, c, s0, x]) ⟨rfl, ⟨dx, e1 _ _ gh⟩, by show 0 ≤ w; omega, hw1, .inl (sq_of gl), limbs_bd (by show 4 ≤ 120; decide) (by
      intro n hn
      simp only [List.mem_cons, List.not_mem_nil, or_false] at hn
      rcases hn with rfl | rfl | rfl | rfl <;> assumption)⟩ fun v G2 e2 hv => ?_
    obtain rfl : v = .int (nextW w i c s0 x) := hv
    walk_at "go"
    exact kv_ret q (e1.trans e2) rfl
def sp_followed (K : PySem.W.Frag) : Sp := spA (fun (x : Addr × Int × Int × Int × Nat × Int × Nat) vs G => vs = [.ref x.1, .int x.2.2.1, .int x.2.2.2.1, .int (x.2.2.2.2.1 : Nat), .int x.2.2.2.2.2.1, .int (x.2.2.2.2.2.2 : Nat)] ∧ HsAt (He.ga K "Hasher") G x.1 x.2.1 ∧ 4 ≤ x.2.1 ∧ x.2.1 ≤ 128 ∧ Bd x.2.2.1 ∧ Bd x.2.2.2.1 ∧ Bd x.2.2.2.2.2.1 ∧ x.2.2.2.2.1 ≤ 100 ∧ x.2.2.2.2.2.2 ≤ 100) fun x v _ => v = .int (fol x.2.1 x.2.2.1 x.2.2.2.1 x.2.2.2.2.2.1 x.2.2.2.2.1 (x.2.2.2.2.2.2 - x.2.2.2.2.1))
theorem ok_followed (T : Txt K mg) : FnOk P w K mg base CX0 4 (He.fAd K ("followed", none)) T.fd_followed ["hasher", "index", "chain", "step", "word", "last"] (sp_followed K) := by
  refine T.followed.F.ok sc_followed (fun vs H Q E h => ?_) (fun cdv A outer s H vs Q E hr h => ?_)
  · obtain ⟨_, _, _, ⟨rfl, _⟩, _⟩ := h
    rfl
  · obtain ⟨⟨hh, w, i, c, s0, x, s1⟩, G, e0, ⟨rfl, ⟨dx, gh⟩, hw0, hw1, b1, b2, b3, l1, l2⟩, q⟩ := h
    replace gh : G hh = some (.ins (He.ga K "Hasher") dx [("width", V.int w)]) := gh
    replace hw0 : 4 ≤ w := hw0
    replace hw1 : w ≤ 128 := hw1
    replace b3 : Bd x := b3
    replace l1 : s0 ≤ 100 := l1
    replace l2 : s1 ≤ 100 := l2
    refine ⟨_, PSs.nox (pss_cons (ps_for PassesOwn.never rfl (pi_range2 rfl T.z_range (pa_cons (pv 3) (pa_cons (pv 5) pa_nil))) (pg_name (i := 6) sc_followed.nd rfl (Or.inl rfl)) (pss_one (ps_set (i := 4) sc_followed.nd rfl (Or.inl rfl) (pe_call (ok_next_word T) (hr.mono (by omega)) (by rfl) T.next_word.g T.next_word.F.kp T.next_word.b .nil pass0 (pa_cons (pv 0) (pa_cons (pv 1) (pa_cons (pv 2) (pa_cons (pv 6) (pa_cons (pv 4) pa_nil)))))))))
  (pss_one (ps_ret (pv 4)))), ?_⟩
    refine (show SM (V0 H G) _ _ _ G from ?_) H (J.start e0)
    walk_at "go"
    refine sm_forR2 ?_
    walk_at "go"
    refine ⟨(s0 : Int), (s1 : Int), rfl, ⟨by omega, by omega, by omega, by omega⟩, fun n σ G' => ∃ v6, σ = [some (.ref hh), some (.int i), some (.int c), some (.int (s0 : Nat)), some (.int (fol w i c x s0 n)), some (.int (s1 : Nat)), v6] ∧ Ex G G', ⟨none, rfl, Ex.refl _⟩, ?_, ?_⟩
    · rintro n σ' G' hn ⟨v6, rfl, e⟩
      walk_at "go"
      refine cm_a (hh, w, i, c, (s0 : Int) + (n : Int), fol w i c x s0 n) ⟨rfl, ⟨dx, e _ _ gh⟩, hw0, hw1, b1, b2, bd_small (show -1000000 ≤ (s0 : Int) + (n : Int) by omega) (show (s0 : Int) + (n : Int) ≤ 1000000 by omega), bd_fol hw0 hw1 b3 n⟩ fun v G1 e1 hv => ?_
      obtain rfl : v = .int (fol w i c x s0 (n + 1)) := hv
      walk_at "go"
      exact km_kj ⟨_, rfl, e.trans e1⟩
    · rintro σ' G' ⟨v6, rfl, e⟩
      walk_at "go"
      refine kv_ret q e ?_
      show V.int (fol w i c x s0 ((s1 : Int) - (s0 : Int)).toNat) = V.int (fol w i c x s0 (s1 - s0))
      rw [show ((s1 : Int) - (s0 : Int)).toNat = s1 - s0 by omega]
/-! ### a signer -/
def sgF (h : Addr) (sec : Int) (lev : Nat) (d : Addr) (rest : List (Str × V)) : List (Str × V) := ("hasher", V.ref h) :: ("secret", V.int sec) :: ("levels", V.int (lev : Int)) :: ("_nodes", V.ref d) :: rest
def okRest (rest : List (Str × V)) : Prop := rest = [] ∨ ∃ x : Int, rest = [(("public" : Str), V.int x)]
theorem sg_no {m : Str} {h d : Addr} {sec : Int} {lev : Nat} {rest : List (Str × V)} (hr : okRest rest) (n1 : (m == "hasher") = false) (n2 : (m == "secret") = false) (n3 : (m == "levels") = false) (n4 : (m == "_nodes") = false) (n5 : (m == "public") = false) : (sgF h sec lev d rest).lookup m = none := by
  unfold sgF
  rw [List.lookup_cons, n1, List.lookup_cons, n2, List.lookup_cons, n3, List.lookup_cons, n4]
  rcases hr with rfl | ⟨x, rfl⟩
  · rfl
  · show List.lookup m [(("public" : Str), V.int x)] = none
    rw [List.lookup_cons, n5]
    rfl
def gkey (l p : Nat) : List Key := [Sum.inl (l : Int), Sum.inl (p : Int)]
def NodesOk (w sec : Int) (o : HO) : Prop := ∃ kvs : List (List Key × V), o = .dT kvs ∧ (kvs.map (·.1)).Nodup ∧ ∀ e ∈ kvs, ∃ l p : Nat, e.1 = gkey l p ∧ (p + 1) * 2 ^ l ≤ 64 ∧ e.2 = .int (nodeW w sec l (p : Int))
structure SgAt (K : PySem.W.Frag) (G : Hp) (s h d : Addr) (w sec : Int) (lev : Nat) (rest : List (Str × V)) : Prop where
  ob : ∃ dx, G s = some (.ins (He.ga K "Signer") dx (sgF h sec lev d rest))
  hs : HsAt (He.ga K "Hasher") G h w
  w4 : 4 ≤ w
  w128 : w ≤ 128
  bs : Bd sec
  lv : lev ≤ 6
  rs : okRest rest
theorem ex_sg {K : PySem.W.Frag} {G G' : Hp} {s h d : Addr} {w sec : Int} {lev : Nat} {rest : List (Str × V)} (e : Ex G G') (x : SgAt K G s h d w sec lev rest) : SgAt K G' s h d w sec lev rest := ⟨let ⟨dx, g⟩ := x.ob; ⟨dx, e _ _ g⟩, ex_h e x.hs, x.w4, x.w128, x.bs, x.lv, x.rs⟩
structure SgX where
  s : Addr
  h : Addr
  d : Addr
  w : Int
  sec : Int
  lev : Nat
  rest : List (Str × V)
def SgX.at_ (x : SgX) (K : PySem.W.Frag) (G : Hp) : Prop := SgAt K G x.s x.h x.d x.w x.sec x.lev x.rest
def sp_Signer_word (K : PySem.W.Frag) : Sp := spA (fun (x : SgX × Int × Int × Nat) vs G => vs = [.ref x.1.s, .int x.2.1, .int x.2.2.1, .int (x.2.2.2 : Nat)] ∧ x.1.at_ K G ∧ Bd x.2.1 ∧ Bd x.2.2.1 ∧ x.2.2.2 ≤ 100) fun x v _ => v = .int (wordW x.1.w x.1.sec x.2.1 x.2.2.1 x.2.2.2)
theorem ok_Signer_word (T : Txt K mg) : FnOk P w K mg base CX0 5 (He.fAd K ("Signer", some "word")) T.fd_Signer_word ["self", "index", "chain", "step"] (sp_Signer_word K) := by
  refine T.Signer_word.F.ok sc_Signer_word (fun vs H Q E h => ?_) (fun cdv A outer s H vs Q E hr h => ?_)
  · obtain ⟨_, _, _, ⟨rfl, _⟩, _⟩ := h
    rfl
  · obtain ⟨⟨⟨sg, hh, d, w, sec, lev, rest⟩, i, c, n⟩, G, e0, ⟨rfl, ⟨⟨dx, gs⟩, ⟨dh, gh⟩, w4, w128, bs, lv, rs⟩, b1, b2, b3⟩, q⟩ := h
    replace gs : G sg = some (.ins (He.ga K "Signer") dx (sgF hh sec lev d rest)) := gs
    replace gh : G hh = some (.ins (He.ga K "Hasher") dh [("width", V.int w)]) := gh
    replace w4 : 4 ≤ w := w4
    replace w128 : w ≤ 128 := w128
    replace bs : Bd sec := bs
    refine ⟨_, PSs.nox (pss_cons (ps_set (i := 4) sc_Signer_word.nd rfl (Or.inl rfl) (pe_meth (ke_fld (K := K) (pv 0)) T.cl_Hasher T.me_Hasher_digest (ok_Hasher_digest T) (hr.mono (by omega)) T.Hasher_digest.b .nil pass0 (pa_cons (pe_glob (v := .int 7) rfl T.c_SECRET_TAG.choose_spec ⟨_, rfl⟩) (pa_cons (pe_lst (pa_cons (ke_fld (K := K) (pv 0)) (pa_cons (pv 1) (pa_cons (pv 2) pa_nil)))) pa_nil))))
  (pss_one (ps_ret (pe_call (ok_followed T) (hr.mono (by omega)) (by rfl) T.followed.g T.followed.F.kp T.followed.b .nil pass0 (pa_cons (ke_fld (K := K) (pv 0)) (pa_cons (pv 1) (pa_cons (pv 2) (pa_cons pe_int (pa_cons (pv 4) (pa_cons (pv 3) pa_nil)))))))))), ?_⟩
    refine (show SM (V0 H G) _ _ _ G from ?_) H (J.start e0)
    walk_at "go"
    refine fm gs T.cl_Signer T.n_Signer_hasher rfl ?_
    walk_at "go"
    refine mm gh (lkD w) ?_
    walk_at "go"
    refine em_lst ?_
    walk_at "go"
    refine fm gs T.cl_Signer T.n_Signer_secret rfl ?_
    walk_at "go"
    refine ⟨by show 3 ≤ sizeLine; decide, fun l G1 _ e1 gl => ?_⟩
    walk_at "go"
    refine cm_a (hh, w, 7, l, [sec, i, c]) ⟨rfl, ⟨dh, e1 _ _ gh⟩, by show 0 ≤ w; omega, w128, .inl (sq_of gl), limbs_bd (by show 3 ≤ 120; decide) (by
      intro n hn
      simp only [List.mem_cons, List.not_mem_nil, or_false] at hn
      rcases hn with rfl | rfl | rfl <;> assumption)⟩ fun v G2 e2 hv => ?_
    obtain rfl : v = .int (word0 w sec i c) := hv
    walk_at "go"
    refine fm (e2 _ _ (e1 _ _ gs)) T.cl_Signer T.n_Signer_hasher rfl ?_
    walk_at "go"
    refine cm_a (hh, w, i, c, 0, word0 w sec i c, n) ⟨rfl, ⟨dh, e2 _ _ (e1 _ _ gh)⟩, w4, w128, b1, b2, bd_dgst w4 w128 _ _, by show 0 ≤ 100; decide, b3⟩ fun v G3 e3 hv => ?_
    obtain rfl : v = .int (wordW w sec i c n) := hv
    walk_at "go"
    exact kv_ret q (e1.trans (e2.trans e3)) rfl
def ndPre (K : PySem.W.Frag) (L : Nat) (x : SgX × Nat × Nat) (vs : List V) (G : Hp) : Prop := vs = [.ref x.1.s, .int (x.2.1 : Nat), .int (x.2.2 : Nat)] ∧ x.1.at_ K G ∧ x.2.1 ≤ L ∧ (x.2.2 + 1) * 2 ^ x.2.1 ≤ 64
def ndPost (x : SgX × Nat × Nat) (v : V) (_ : Hp) : Prop := v = .int (nodeW x.1.w x.1.sec x.2.1 (x.2.2 : Int))
def sp_nodes (K : PySem.W.Frag) (L : Nat) : Sp := spM (fun x : SgX × Nat × Nat => x.1.d) (fun x => NodesOk x.1.w x.1.sec) (ndPre K L) ndPost
def sp_nodesP (K : PySem.W.Frag) : Nat → Sp
  | 0 => fun _ _ _ _ => False
  | L + 1 => sp_nodes K L
theorem pl_bd {p l : Nat} (h : (p + 1) * 2 ^ l ≤ 64) : p < 64 ∧ l ≤ 6 := by
  have h1 : 1 ≤ 2 ^ l := Nat.one_le_two_pow
  have h2 : (p + 1) * 1 ≤ (p + 1) * 2 ^ l := Nat.mul_le_mul_left _ h1
  refine ⟨by omega, Nat.le_of_not_lt fun z => ?_⟩
  have h3 : 2 ^ 7 ≤ 2 ^ l := Nat.pow_le_pow_right (by decide) z
  have h4 : 1 * 2 ^ l ≤ (p + 1) * 2 ^ l := Nat.mul_le_mul_right _ (by omega)
  have : (2 : Nat) ^ 7 = 128 := by decide
  omega
theorem pl_step {p l : Nat} (h : (p + 1) * 2 ^ (l + 1) ≤ 64) : (2 * p + 1 + 1) * 2 ^ l ≤ 64 := by
  have e : (2 * p + 1 + 1) * 2 ^ l = (p + 1) * 2 ^ (l + 1) := by
    rw [show 2 * p + 1 + 1 = (p + 1) * 2 by omega, Nat.pow_succ, Nat.mul_assoc, Nat.mul_comm 2]
  rw [e]
  exact h
theorem ok_made (T : Txt K mg) (L : Nat) (HN : FnOk P w K mg base CX0 (5 + 2 * L) (He.fAd K ("Signer", some "_node")) T.fd_Signer__node ["self", "level", "place"] (sp_nodesP K L)) : FnOk P w K mg base CX0 (5 + 2 * L + 1) (He.fAd K ("Signer", some "_made_node")) T.fd_Signer__made_node ["self", "level", "place"] (sp_nodes K L) := by
  refine T.Signer__made_node.F.ok sc_Signer__made_node (fun vs H Q E h => ?_) (fun cdv A outer s H vs Q E hr h => ?_)
  · obtain ⟨_, _, _, _, _, _, _, ⟨rfl, _⟩, _⟩ := h
    rfl
  · obtain ⟨⟨⟨sg, hh, d, w, sec, lev, rest⟩, l, p⟩, G, o, ho, po, gd, e0, ⟨rfl, hsg, hl, hp⟩, q⟩ := h
    obtain ⟨⟨dx, gs⟩, ⟨dh, gh⟩, w4, w128, bs, lv, rs⟩ := id hsg
    replace gs : G sg = some (.ins (He.ga K "Signer") dx (sgF hh sec lev d rest)) := gs
    replace gh : G hh = some (.ins (He.ga K "Hasher") dh [("width", V.int w)]) := gh
    replace w4 : 4 ≤ w := w4
    replace w128 : w ≤ 128 := w128
    replace bs : Bd sec := bs
    replace rs : okRest rest := rs
    replace hl : l ≤ L := hl
    replace hp : (p + 1) * 2 ^ l ≤ 64 := hp
    obtain ⟨p64, l6⟩ := pl_bd hp
    refine ⟨_, PSs.nox (pss_cons (ps_if (pt_cmpR (op_lt) (pv 1) pe_int (nomark _)) (pss_cons (ps_set (i := 3) sc_Signer__made_node.nd rfl (Or.inl rfl) (pe_call (ok_chain_count T) (hr.mono (by omega)) (by rfl) T.chain_count.g T.chain_count.F.kp T.chain_count.b .nil pass0 (pa_cons (ke_fld (K := K) (ke_fld (K := K) (pv 0))) pa_nil)))
  (pss_cons (ps_setLc (i := 4) (own := [("chain", 7)]) rfl sc_Signer__made_node.nd rfl rfl (sw_true rfl rfl rfl (by decide +kernel)) (pi_range1 rfl T.z_range (pa_cons (pv 3) pa_nil)) (blkOk_by (own := [("chain", 7)]) (N := ["self", "level", "place", "chains", "ends", "left", "right", "chain"]) (sc := defScope s_Signer__made_node) (by decide +kernel)) (fun _ _ _ _ _ => pg_name (i := 7) sc_Signer__made_node.nd rfl (Or.inl rfl)) (fun _ _ _ _ _ => pts_nil) (fun _ _ _ _ _ => (pe_meth (pv 0) T.cl_Signer T.me_Signer_word (ok_Signer_word T) (hr.mono (by omega)) T.Signer_word.b .nil pass0 (pa_cons (pv 2) (pa_cons (pv 7) (pa_cons (pe_glob (v := .int 15) rfl T.c_LAST_STEP.choose_spec ⟨_, rfl⟩) pa_nil))))))
  (pss_one (ps_ret (pe_meth (ke_fld (K := K) (pv 0)) T.cl_Hasher T.me_Hasher_digest (ok_Hasher_digest T) (hr.mono (by omega)) T.Hasher_digest.b .nil pass0 (pa_cons (pe_glob (v := .int 5) rfl T.c_KEY_TAG.choose_spec ⟨_, rfl⟩) (pa_cons (pe_lst (pa_cons (pv 2) (ka_star (K := K) (pv 4) pa_nil))) pa_nil))))))) pss_nil)
  (pss_cons (ps_set (i := 5) sc_Signer__made_node.nd rfl (Or.inl rfl) (pe_meth (pv 0) T.cl_Signer T.me_Signer__node HN (hr.mono (by omega)) T.Signer__node.b .nil pass0 (pa_cons (pe_op op_sub (pv 1) pe_int) (pa_cons (pe_op op_mul pe_int (pv 2)) pa_nil))))
  (pss_cons (ps_set (i := 6) sc_Signer__made_node.nd rfl (Or.inl rfl) (pe_meth (pv 0) T.cl_Signer T.me_Signer__node HN (hr.mono (by omega)) T.Signer__node.b .nil pass0 (pa_cons (pe_op op_sub (pv 1) pe_int) (pa_cons (pe_op op_add (pe_op op_mul pe_int (pv 2)) pe_int) pa_nil))))
  (pss_one (ps_ret (pe_meth (ke_fld (K := K) (pv 0)) T.cl_Hasher T.me_Hasher_digest (ok_Hasher_digest T) (hr.mono (by omega)) T.Hasher_digest.b .nil pass0 (pa_cons (pe_glob (v := .int 6) rfl T.c_NODE_TAG.choose_spec ⟨_, rfl⟩) (pa_cons (pe_lst (pa_cons (pe_op op_sub (pv 1) pe_int) (pa_cons (pv 5) (pa_cons (pv 6) pa_nil)))) pa_nil)))))))), ?_⟩
    refine (show SM (VM d (NodesOk w sec) H G) _ _ _ G from ?_) H (VM.start ho po gd e0)
    have hk : HidOk (VM d (NodesOk w sec) H G) d (NodesOk w sec) := VM.ok
    have lw : (sgF hh sec lev d rest).lookup ("word" : Str) = none := sg_no rs (by decide +kernel) (by decide +kernel) (by decide +kernel) (by decide +kernel) (by decide +kernel)
    have ln : (sgF hh sec lev d rest).lookup ("_node" : Str) = none := sg_no rs (by decide +kernel) (by decide +kernel) (by decide +kernel) (by decide +kernel) (by decide +kernel)
    walk_at "go"
    refine ifd (fun z => ?_) (fun z => ?_)
    · replace z : (l : Int) < 1 := z
      have hl0 : l = 0 := by omega
      subst hl0
      walk_at "go"
      refine fm gs T.cl_Signer T.n_Signer_hasher rfl ?_
      walk_at "go"
      refine fm gh T.cl_Hasher T.n_Hasher_width rfl ?_
      walk_at "go"
      refine cm_a w rfl fun v G1 e1 hv => ?_
      obtain rfl : v = .int (md w + cd w) := hv
      walk_at "go"
      have cc0 : 0 ≤ md w + cd w := by have := md_nn (w := w) (by omega); have := cd_pos w; omega
      have cc1 : md w + cd w ≤ 105 := by have := md_le (w := w) (by omega); have := cd_le (w := w) (by omega) (by omega); omega
      refine em_mapR1 (fun c => V.int (wordW w sec (p : Int) (c : Int) 15)) ?_
      walk_at "go"
      refine ⟨_, rfl, cc0, by omega, fun _ => rfl, fun c G' U' e hc => ?_, fun D G2 e2 g1 g2 => ?_⟩
      · walk_at "go"
        refine mm (e _ _ (e1 _ _ gs)) lw ?_
        walk_at "go"
        refine cm_a (⟨sg, hh, d, w, sec, lev, rest⟩, (p : Int), (c : Int), 15) ⟨rfl, ex_sg (e1.trans e) hsg, bd_small (by show -1000000 ≤ (p : Int); omega) (by show (p : Int) ≤ 1000000; omega), bd_small (by show -1000000 ≤ (c : Int); omega) (by show (c : Int) ≤ 1000000; omega), by show 15 ≤ 100; decide⟩ fun v G3 e3 hv => ?_
        exact ⟨hv, e3⟩
      · walk_at "go"
        have e12 := e1.trans e2
        refine fm (e12 _ _ gs) T.cl_Signer T.n_Signer_hasher rfl ?_
        walk_at "go"
        refine mm (e12 _ _ gh) (lkD w) ?_
        walk_at "go"
        refine em_lst ?_
        walk_at "go"
        refine am_star ?_
        walk_at "go"
        refine ⟨D, _, rfl, .inr (sq_of g2), ?_⟩
        walk_at "go"
        have hcc : (md w + cd w).toNat = ccN w := rfl
        rw [hcc]
        have hccl : ccN w ≤ 105 := by unfold ccN; omega
        refine ⟨?_, fun l1 G3 _ e3 gl1 => ?_⟩
        · rw [List.length_cons, List.append_nil, List.length_map, List.length_range]
          exact sz6 (by omega)
        walk_at "go"
        have el : (V.int (p : Int) :: ((List.range (ccN w)).map (fun c : Nat => V.int (wordW w sec (p : Int) (c : Int) 15)) ++ [])) = ((p : Int) :: (List.range (ccN w)).map fun c : Nat => wordW w sec (p : Int) (c : Int) 15).map V.int := by simp
        rw [el] at gl1
        refine cm_a (hh, w, 5, l1, _) ⟨rfl, ⟨dh, e3 _ _ (e12 _ _ gh)⟩, by show 0 ≤ w; omega, w128, .inl (sq_of gl1), limbs_bd (by rw [List.length_cons, List.length_map, List.length_range]; omega) (by
          intro n hn
          rcases List.mem_cons.mp hn with rfl | hn
          · exact bd_small (by omega) (by omega)
          · obtain ⟨c, _, rfl⟩ := List.mem_map.mp hn
            exact bd_fol w4 w128 (bd_dgst w4 w128 _ _) _)⟩ fun v G4 e4 hv => ?_
        walk_at "go"
        exact kv_m q (e12.trans (e3.trans e4)) hv
    · refine sm_next ?_
      replace z : ¬ (l : Int) < 1 := z
      obtain ⟨L', rfl⟩ : ∃ L', L = L' + 1 := ⟨L - 1, by omega⟩
      obtain ⟨l', rfl⟩ : ∃ l', l = l' + 1 := ⟨l - 1, by omega⟩
      have hp2 : (2 * p + 1 + 1) * 2 ^ l' ≤ 64 := pl_step hp
      have hp1 : (2 * p + 1) * 2 ^ l' ≤ 64 := Nat.le_trans (Nat.mul_le_mul_right _ (by omega)) hp2
      have el' : ((l' + 1 : Nat) : Int) - 1 = (l' : Nat) := by omega
      walk_at "go"
      refine mm gs ln ?_
      walk_at "go"
      rw [el']
      refine cm_m (⟨sg, hh, d, w, sec, lev, rest⟩, l', 2 * p) hk ⟨rfl, hsg, by show l' ≤ L'; omega, hp1⟩ fun v G1 e1 hv => ?_
      obtain rfl : v = .int (nodeW w sec l' ((2 * p : Nat) : Int)) := hv
      walk_at "go"
      refine mm (e1 _ _ gs) ln ?_
      walk_at "go"
      rw [el']
      refine cm_m (⟨sg, hh, d, w, sec, lev, rest⟩, l', 2 * p + 1) hk ⟨rfl, ex_sg e1 hsg, by show l' ≤ L'; omega, hp2⟩ fun v G2 e2 hv => ?_
      obtain rfl : v = .int (nodeW w sec l' ((2 * p + 1 : Nat) : Int)) := hv
      walk_at "go"
      have e12 := e1.trans e2
      refine fm (e12 _ _ gs) T.cl_Signer T.n_Signer_hasher rfl ?_
      walk_at "go"
      refine mm (e12 _ _ gh) (lkD w) ?_
      walk_at "go"
      refine em_lst ?_
      walk_at "go"
      rw [el']
      refine ⟨by show 3 ≤ sizeLine; decide, fun l1 G3 _ e3 gl1 => ?_⟩
      walk_at "go"
      refine cm_a (hh, w, 6, l1, [(l' : Int), nodeW w sec l' ((2 * p : Nat) : Int), nodeW w sec l' ((2 * p + 1 : Nat) : Int)]) ⟨rfl, ⟨dh, e3 _ _ (e12 _ _ gh)⟩, by show 0 ≤ w; omega, w128, .inl (sq_of gl1), limbs_bd (by show 3 ≤ 120; decide) (by
        intro n hn
        simp only [List.mem_cons, List.not_mem_nil, or_false] at hn
        rcases hn with rfl | rfl | rfl
        · exact bd_small (by omega) (by omega)
        · exact bd_node w4 w128 _ _ _
        · exact bd_node w4 w128 _ _ _)⟩ fun v G4 e4 hv => ?_
      walk_at "go"
      exact kv_m q (e12.trans (e3.trans e4)) hv
theorem putK_mem {kvs : List (List Key × V)} {k : List Key} {v : V} {e : List Key × V} (h : e ∈ putK kvs k v) : e = (k, v) ∨ e ∈ kvs := by
  unfold putK at h
  split at h
  · obtain ⟨kv, hkv, rfl⟩ := List.mem_map.mp h
    split
    · rename_i z
      exact .inl (by rw [z])
    · exact .inr hkv
  · rcases List.mem_append.mp h with z | z
    · exact .inr z
    · exact .inl (List.mem_singleton.mp z)
theorem putK_nd {kvs : List (List Key × V)} {k : List Key} {v : V} (h : (kvs.map (·.1)).Nodup) : ((putK kvs k v).map (·.1)).Nodup := by
  unfold putK
  split
  · rw [List.map_map]
    have e : ((fun x : List Key × V => x.1) ∘ fun kv : List Key × V => if kv.1 = k then (kv.1, v) else kv) = fun x => x.1 := by
      funext x
      show (if x.1 = k then (x.1, v) else x).1 = x.1
      split <;> rfl
    rw [e]
    exact h
  · rename_i hn
    rw [List.map_append]
    refine List.nodup_append.mpr ⟨h, by simp, fun a ha b hb e => ?_⟩
    have hb' : b = k := by simpa using hb
    obtain ⟨kv, hkv, rfl⟩ := List.mem_map.mp ha
    exact hn (List.any_eq_true.mpr ⟨kv, hkv, decide_eq_true (e.trans hb')⟩)
theorem valV_mem {kvs : List (List Key × V)} {k : List Key} {v : V} (h : valV kvs k = some v) : (k, v) ∈ kvs := by
  unfold valV at h
  obtain ⟨kv, hf, rfl⟩ := Option.map_eq_some_iff.mp h
  have h1 := List.mem_of_find?_eq_some hf
  have h2 := List.find?_some hf
  have h3 : kv.1 = k := of_decide_eq_true h2
  rw [← h3]
  exact h1
theorem gkey_inj {l p l' p' : Nat} (h : gkey l p = gkey l' p') : l = l' ∧ p = p' := by
  unfold gkey at h
  injection h with h1 h2
  injection h2 with h3 _
  injection h1 with h4
  injection h3 with h5
  exact ⟨by omega, by omega⟩
def allKeys : List (List Key) := (List.range 7).flatMap fun l => (List.range 64).map (gkey l)
theorem allKeys_len : allKeys.length = 448 := by decide +kernel
theorem nodes_len {w sec : Int} {kvs : List (List Key × V)} (nd : (kvs.map (·.1)).Nodup) (h : ∀ e ∈ kvs, ∃ l p : Nat, e.1 = gkey l p ∧ (p + 1) * 2 ^ l ≤ 64 ∧ e.2 = .int (nodeW w sec l (p : Int))) : kvs.length ≤ 448 := by
  have := nodup_len (kvs.map (·.1)) allKeys nd fun k hk => by
    obtain ⟨e, he, rfl⟩ := List.mem_map.mp hk
    obtain ⟨l, p, e1, e2, _⟩ := h e he
    obtain ⟨p64, l6⟩ := pl_bd e2
    rw [e1]
    exact List.mem_flatMap.mpr ⟨l, List.mem_range.mpr (by omega), List.mem_map.mpr ⟨p, List.mem_range.mpr p64, rfl⟩⟩
  rw [List.length_map, allKeys_len] at this
  exact this
theorem ok_node (T : Txt K mg) (L : Nat) (HM : FnOk P w K mg base CX0 (5 + 2 * L + 1) (He.fAd K ("Signer", some "_made_node")) T.fd_Signer__made_node ["self", "level", "place"] (sp_nodes K L)) : FnOk P w K mg base CX0 (5 + 2 * L + 1 + 1) (He.fAd K ("Signer", some "_node")) T.fd_Signer__node ["self", "level", "place"] (sp_nodes K L) := by
  refine T.Signer__node.F.ok sc_Signer__node (fun vs H Q E h => ?_) (fun cdv A outer s H vs Q E hr h => ?_)
  · obtain ⟨_, _, _, _, _, _, _, ⟨rfl, _⟩, _⟩ := h
    rfl
  · obtain ⟨⟨⟨sg, hh, d, w, sec, lev, rest⟩, l, p⟩, G, o, ho, po, gd, e0, ⟨rfl, hsg, hl, hp⟩, q⟩ := h
    obtain ⟨⟨dx, gs⟩, ⟨dh, gh⟩, w4, w128, bs, lv, rs⟩ := id hsg
    replace gs : G sg = some (.ins (He.ga K "Signer") dx (sgF hh sec lev d rest)) := gs
    replace rs : okRest rest := rs
    replace hp : (p + 1) * 2 ^ l ≤ 64 := hp
    replace ho : H d = some o := ho
    replace gd : G d = none := gd
    obtain ⟨kvs, rfl, nd, hk⟩ : NodesOk w sec o := po
    have lm : (sgF hh sec lev d rest).lookup ("_made_node" : Str) = none := sg_no rs (by decide +kernel) (by decide +kernel) (by decide +kernel) (by decide +kernel) (by decide +kernel)
    refine ⟨_, PSs.nox (pss_cons (ps_set (i := 3) sc_Signer__node.nd rfl (Or.inl rfl) (pe_tup (pa_cons (pv 1) (pa_cons (pv 2) pa_nil))))
  (pss_cons (ps_cut (ps_if (pt_cmp (pc_dnotin (hu_of hr) (pv 3) (ke_fld (K := K) (pv 0)))) (pss_one (ps_dput (hu_of hr) (ke_fld (K := K) (pv 0)) (pv 3) (pe_meth (pv 0) T.cl_Signer T.me_Signer__made_node HM (hr.mono (by omega)) T.Signer__made_node.b .nil pass0 (pa_cons (pv 1) (pa_cons (pv 2) pa_nil))) rfl)) pss_nil))
  (pss_one (ps_ret (pe_dget (hu_of hr) (ke_fld (K := K) (pv 0)) (pv 3) (fun _ _ => rfl)))))), ?_⟩
    refine ⟨_, rfl, _, rfl, by show 2 ≤ sizeLine; decide, fun b hb => ?_⟩
    have nbd : d ≠ b := ne_of_none ho hb
    have hs1 : ∀ {a u}, H a = some u → upd H b (.tup [V.int ((l : Nat) : Int), V.int ((p : Nat) : Int)]) a = some u := fun h => by rw [upd_ne (ne_of_none h hb)]; exact h
    have hgs := e0 _ _ gs
    have hbt : upd H b (.tup [V.int ((l : Nat) : Int), V.int ((p : Nat) : Int)]) b = some (.tup ((gkey l p).map kV)) := upd_same
    refine ⟨_, fun _ _ z => z, ?_⟩
    refine ⟨_, rfl, _, rfl, sg, _, dx, _, _, rfl, hs1 hgs, T.cl_Signer, T.n_Signer__nodes, rfl, d, _, rfl, DGet.t (k := gkey l p) (hs1 ho) hbt, _, rfl, ?_⟩
    cases hv : valV kvs (gkey l p) with
    | some v =>
      refine iteF ?_
      refine ⟨_, rfl, sg, _, dx, _, _, rfl, hs1 hgs, T.cl_Signer, T.n_Signer__nodes, rfl, _, rfl, d, v, rfl, by have := DGet.t (k := gkey l p) (hs1 ho) hbt; rw [hv] at this; exact this, ?_⟩
      have hm := hk _ (valV_mem hv)
      obtain ⟨l', p', e1, _, e3⟩ := hm
      obtain ⟨rfl, rfl⟩ := gkey_inj e1
      replace e3 : v = .int (nodeW w sec l (p : Int)) := e3
      exact q v _ G (.dT kvs) (fun y u ny h => hs1 h) (hs1 ho) ⟨kvs, rfl, nd, hk⟩ (Ex.refl G) (fun a u h => hs1 (e0 _ _ h)) (fun a h1 h2 => absurd h2 h1) gd e3
    | none =>
      refine iteT ?_
      refine ⟨_, rfl, sg, dx, _, rfl, hs1 hgs, lm, _, rfl, _, rfl, ?_⟩
      refine ⟨(⟨sg, hh, d, w, sec, lev, rest⟩, l, p), G, .dT kvs, hs1 ho, ⟨kvs, rfl, nd, hk⟩, gd, fun a u h => hs1 (e0 _ _ h), ⟨rfl, hsg, hl, hp⟩, fun v H' G' o' hx ho' po' e1 e2 hn gn hpost => ?_⟩
      replace hx : ∀ y u, y ≠ d → upd H b (.tup [V.int ((l : Nat) : Int), V.int ((p : Nat) : Int)]) y = some u → H' y = some u := hx
      replace ho' : H' d = some o' := ho'
      replace gn : G' d = none := gn
      obtain ⟨kvs', rfl, nd', hk'⟩ : NodesOk w sec o' := po'
      obtain rfl : v = .int (nodeW w sec l (p : Int)) := hpost
      have nsd : sg ≠ d := fun z => by rw [z, gd] at gs; cases gs
      have hbd : b ≠ d := nbd.symm
      have hb' := hx b _ hbd hbt
      have hs' := hx sg _ nsd (hs1 hgs)
      have hlen := nodes_len nd' hk'
      refine ⟨_, rfl, sg, _, dx, _, _, rfl, hs', T.cl_Signer, T.n_Signer__nodes, rfl, _, rfl, d, _, rfl, DPut.t (k := gkey l p) ho' hb' (Nat.lt_of_le_of_lt hlen (by decide)), ?_⟩
      have hs2 : ∀ {a u}, a ≠ d → H' a = some u → upd H' d (.dT (putK kvs' (gkey l p) (.int (nodeW w sec l (p : Int))))) a = some u := fun n h => by rw [upd_ne n]; exact h
      refine ⟨_, rfl, sg, _, dx, _, _, rfl, hs2 nsd hs', T.cl_Signer, T.n_Signer__nodes, rfl, _, rfl, d, .int (nodeW w sec l (p : Int)), rfl, by
        have := DGet.t (k := gkey l p) (upd_same (H := H') (a := d) (o := .dT (putK kvs' (gkey l p) (.int (nodeW w sec l (p : Int)))))) (hs2 hbd hb')
        rw [valV_put, if_pos rfl] at this
        exact this, ?_⟩
      refine q _ _ G' (.dT (putK kvs' (gkey l p) (.int (nodeW w sec l (p : Int))))) (fun y u ny h => hs2 ny (hx y u ny (hs1 h))) upd_same ⟨_, rfl, putK_nd nd', fun e he => ?_⟩ e1 (fun a u h => ?_) (fun a h1 h2 => ?_) gn rfl
      · rcases putK_mem he with rfl | he
        · exact ⟨l, p, rfl, hp, rfl⟩
        · exact hk' e he
      · have na : a ≠ d := fun z => by rw [z, gn] at h; cases h
        exact hs2 na (e2 _ _ h)
      · have := hn a h1 h2
        by_cases z : a = b
        · rw [z]; exact hb
        · rw [upd_ne z] at this; exact this
theorem ok_nodes (T : Txt K mg) : ∀ L : Nat, FnOk P w K mg base CX0 (5 + 2 * L + 1 + 1) (He.fAd K ("Signer", some "_node")) T.fd_Signer__node ["self", "level", "place"] (sp_nodes K L)
  | 0 => ok_node T 0 (ok_made T 0 ⟨fun _ _ _ _ h => h.elim, fun _ _ _ _ _ _ _ _ _ _ _ _ _ h => h.elim⟩)
  | L + 1 => ok_node T (L + 1) (ok_made T (L + 1) ((ok_nodes T L).mono (by omega)))
theorem ok_Signer__node (T : Txt K mg) : FnOk P w K mg base CX0 19 (He.fAd K ("Signer", some "_node")) T.fd_Signer__node ["self", "level", "place"] (sp_nodes K 6) := ok_nodes T 6
theorem putF_h {x : V} : putF "hasher" x [] = [(("hasher" : Str), x)] := rfl
theorem putF_s {h s : V} : putF "secret" s [(("hasher" : Str), h)] = [(("hasher" : Str), h), ("secret", s)] := rfl
theorem putF_l {h s l : V} : putF "levels" l [(("hasher" : Str), h), ("secret", s)] = [(("hasher" : Str), h), ("secret", s), ("levels", l)] := rfl
theorem putF_n {h s l n : V} : putF "_nodes" n [(("hasher" : Str), h), ("secret", s), ("levels", l)] = [(("hasher" : Str), h), ("secret", s), ("levels", l), ("_nodes", n)] := rfl
theorem putF_p {h s l n p : V} : putF "public" p [(("hasher" : Str), h), ("secret", s), ("levels", l), ("_nodes", n)] = [(("hasher" : Str), h), ("secret", s), ("levels", l), ("_nodes", n), ("public", p)] := rfl
def sp_Signer___init__ (K : PySem.W.Frag) : Sp := fun vs H Q _ => ∃ (x h dx : Addr) (w sec : Int) (lev : Nat), vs = [.ref x, .ref h, .int sec, .int (lev : Nat)] ∧ H x = some (.ins (He.ga K "Signer") dx []) ∧ HsAt (He.ga K "Hasher") H h w ∧ 4 ≤ w ∧ w ≤ 128 ∧ Bd sec ∧ lev ≤ 6 ∧
  ∀ H' d o, (∀ b u, b ≠ x → H b = some u → H' b = some u) → H d = none → H' d = some o → NodesOk w sec o → H' x = some (.ins (He.ga K "Signer") dx (sgF h sec lev d [(("public" : Str), V.int (pubW w sec lev))])) → Q .non H'
theorem ok_Signer___init__ (T : Txt K mg) : FnOk P w K mg base CX0 20 (He.fAd K ("Signer", some "__init__")) T.fd_Signer___init__ ["self", "hasher", "secret", "levels"] (sp_Signer___init__ K) := by
  refine T.Signer___init__.F.ok sc_Signer___init__ (fun vs H Q E h => ?_) (fun cdv A outer s H vs Q E hr h => ?_)
  · obtain ⟨x, h, dx, w, sec, lev, rfl, _⟩ := h
    rfl
  · obtain ⟨x, hh, dx, w, sec, lev, rfl, hx, ⟨dh, gh⟩, w4, w128, bs, l6, q⟩ := h
    refine ⟨_, PSs.nox (pss_cons (ps_fld (pv 0) (pv 1) rfl)
  (pss_cons (ps_fld (pv 0) (pv 2) rfl)
  (pss_cons (ps_fld (pv 0) (pv 3) rfl)
  (pss_cons (ps_fld (pv 0) pe_dnewT rfl)
  (pss_one (ps_fld (pv 0) (pe_meth (pv 1) T.cl_Hasher T.me_Hasher_digest (ok_Hasher_digest T) (hr.mono (by omega)) T.Hasher_digest.b .nil pass0 (pa_cons (pe_glob (v := .int 6) rfl T.c_NODE_TAG.choose_spec ⟨_, rfl⟩) (pa_cons (pe_lst (pa_cons (pv 3) (pa_cons (pe_meth (pv 0) T.cl_Signer T.me_Signer__node (ok_Signer__node T) (hr.mono (by omega)) T.Signer__node.b .nil pass0 (pa_cons (pv 3) (pa_cons pe_int pa_nil))) pa_nil))) pa_nil))) rfl)))))), ?_⟩
    refine (show SM (VD x H) _ _ _ H from ?_) H VD.start
    have gx : (VD x H).Ge x = none := wo_same
    have nhx : hh ≠ x := fun z => by rw [z, hx] at gh; injection gh with gh; injection gh with _ _ g3; cases g3
    walk_at "go"
    refine ⟨x, _, dx, [], rfl, hx, T.cl_Signer, T.n_Signer_hasher, (by show 0 < 1000; decide), gx, ?_⟩
    rw [putF_h]
    walk_at "go"
    refine ⟨x, _, dx, _, rfl, upd_same, T.cl_Signer, T.n_Signer_secret, (by show 1 < 1000; decide), gx, ?_⟩
    rw [putF_s, upd_upd]
    walk_at "go"
    refine ⟨x, _, dx, _, rfl, upd_same, T.cl_Signer, T.n_Signer_levels, (by show 2 < 1000; decide), gx, ?_⟩
    rw [putF_l, upd_upd]
    walk_at "go"
    refine em_newT fun d G1 nd e1 gd => ?_
    have e01 : Ex (wo x H) G1 := fun a u e => by
      have na : a ≠ x := fun z => by rw [z, wo_same] at e; cases e
      rw [wo_ne na] at e
      exact e1 _ _ (by rw [upd_ne na]; exact e)
    have gx1 := e1 _ _ (upd_same (H := H) (a := x) (o := .ins (He.ga K "Signer") dx [(("hasher" : Str), V.ref hh), ("secret", V.int sec), ("levels", V.int (lev : Nat))]))
    have ndx : d ≠ x := fun z => by rw [z, upd_same] at nd; cases nd
    have nHd : H d = none := by rw [upd_ne ndx] at nd; exact nd
    walk_at "go"
    refine ⟨x, _, dx, _, rfl, gx1, T.cl_Signer, T.n_Signer__nodes, (by show 3 < 1000; decide), gx, ?_⟩
    rw [putF_n]
    have fs4 : [(("hasher" : Str), V.ref hh), ("secret", V.int sec), ("levels", V.int ((lev : Nat) : Int)), ("_nodes", V.ref d)] = sgF hh sec lev d [] := rfl
    rw [fs4]
    have gx2 : upd G1 x (.ins (He.ga K "Signer") dx (sgF hh sec lev d [])) x = some (.ins (He.ga K "Signer") dx (sgF hh sec lev d [])) := upd_same
    have gd2 : upd G1 x (.ins (He.ga K "Signer") dx (sgF hh sec lev d [])) d = some (.dT []) := by rw [upd_ne ndx]; exact gd
    have e02 : Ex (wo x H) (upd G1 x (.ins (He.ga K "Signer") dx (sgF hh sec lev d []))) := wo_upd e01
    generalize upd G1 x (.ins (He.ga K "Signer") dx (sgF hh sec lev d [])) = G2 at gx2 gd2 e02 ⊢
    have ged : (VD x H).Ge d = none := by show wo x H d = none; rw [wo_ne ndx]; exact nHd
    refine km_next (sm_hide (NodesOk w sec) gd2 ⟨[], rfl, by simp, by simp⟩ ged fun G3 k3 gd3 nm hed => ?_)
    have hk : HidOk ((VD x H).hid d (NodesOk w sec)) d (NodesOk w sec) := HidOk.self nm hed
    have e03 : Ex (wo x H) G3 := fun a u e => k3 a u (fun z => by rw [z] at e; have : wo x H d = none := ged; rw [this] at e; cases e) (e02 _ _ e)
    have gx3 := k3 x _ ndx.symm gx2
    have gh3 : G3 hh = some (.ins (He.ga K "Hasher") dh [("width", V.int w)]) := e03 _ _ (by rw [wo_ne nhx]; exact gh)
    have hsg : SgAt K G3 x hh d w sec lev [] := ⟨⟨dx, gx3⟩, ⟨dh, gh3⟩, w4, w128, bs, l6, .inl rfl⟩
    have ln : (sgF hh sec lev d []).lookup ("_node" : Str) = none := sg_no (.inl rfl) (by decide +kernel) (by decide +kernel) (by decide +kernel) (by decide +kernel) (by decide +kernel)
    have hp6 : (0 + 1) * 2 ^ lev ≤ 64 := by rw [Nat.zero_add, Nat.one_mul]; exact Nat.pow_le_pow_right (by decide) l6
    have gx' : ((VD x H).hid d (NodesOk w sec)).Ge x = none := gx
    walk_at "go"
    refine mm gh3 (lkD w) ?_
    walk_at "go"
    refine em_lst ?_
    walk_at "go"
    refine mm gx3 ln ?_
    walk_at "go"
    refine cm_m (⟨x, hh, d, w, sec, lev, []⟩, lev, 0) hk ⟨rfl, hsg, l6, hp6⟩ fun v G4 e4 hv => ?_
    obtain rfl : v = .int (nodeW w sec lev 0) := hv
    walk_at "go"
    refine ⟨by show 2 ≤ sizeLine; decide, fun l1 G5 _ e5 gl1 => ?_⟩
    walk_at "go"
    refine cm_a (hh, w, 6, l1, [((lev : Nat) : Int), nodeW w sec lev 0]) ⟨rfl, ⟨dh, e5 _ _ (e4 _ _ gh3)⟩, by show 0 ≤ w; omega, w128, .inl (sq_of gl1), limbs_bd (by show 2 ≤ 120; decide) (by
      intro n hn
      simp only [List.mem_cons, List.not_mem_nil, or_false] at hn
      rcases hn with rfl | rfl
      · exact bd_small (by omega) (by omega)
      · exact bd_node w4 w128 _ _ _)⟩ fun v G6 e6 hv => ?_
    obtain rfl : v = .int (pubW w sec lev) := hv
    walk_at "go"
    have gx6 := e6 _ _ (e5 _ _ (e4 _ _ gx3))
    refine ⟨x, _, dx, _, rfl, gx6, T.cl_Signer, T.n_Signer_public, (by show 4 < 1000; decide), gx', ?_⟩
    have fs5 : putF "public" (V.int (pubW w sec lev)) (sgF hh sec lev d []) = sgF hh sec lev d [(("public" : Str), V.int (pubW w sec lev))] := rfl
    rw [fs5]
    intro H' j
    obtain ⟨_, o, ho, po⟩ := j.hid
    exact q H' d o (fun b u nb e => j.keep b u (by show wo x H b = some u; rw [wo_ne nb]; exact e)) nHd ho po (j.up _ _ upd_same)
/-! ### signatures -/
theorem dig_rng (n : Int) (k : Nat) : 0 ≤ dig n k ∧ dig n k ≤ 15 := by
  unfold dig
  have e : (15 : Int) = 2 ^ 4 - 1 := by decide
  rw [e, PySem.W.kbt_mask]
  have h1 := Int.emod_nonneg (n / 2 ^ (4 * (k : Int)).toNat) (show (2 : Int) ^ 4 ≠ 0 by decide)
  have h2 := Int.emod_lt_of_pos (n / 2 ^ (4 * (k : Int)).toNat) (show (0 : Int) < 2 ^ 4 by decide)
  exact ⟨h1, by have : (2 : Int) ^ 4 = 16 := by decide
                omega⟩
theorem digits_rng {w m x : Int} (h : x ∈ digitsOf w m) : 0 ≤ x ∧ x ≤ 15 := by
  unfold digitsOf digs at h
  rcases List.mem_append.mp h with h | h <;> obtain ⟨k, _, rfl⟩ := List.mem_map.mp h <;> exact dig_rng _ _
theorem digitsOf_cc {w m : Int} (h : 0 ≤ w) : (digitsOf w m).length = ccN w := by
  have h1 := md_nn h
  have h2 := cd_pos w
  unfold digitsOf ccN
  rw [List.length_append, digs_len, digs_len]
  omega
theorem ccN_le {w : Int} (h0 : 0 ≤ w) (h : w ≤ 400) : ccN w ≤ 105 := by
  have := md_le h
  have := cd_le h0 h
  unfold ccN
  omega
/-- the words of a signature; the digests beside the way -/
def sWords (w sec : Int) (i : Nat) (m : Int) : List Int := (List.range (ccN w)).map fun (c : Nat) => wordW w sec (i : Int) (c : Int) ((digitsOf w m).getD c 0).toNat
def sPath (w sec : Int) (i lev : Nat) : List Int := (List.range lev).map fun l => nodeW w sec l (((i / 2 ^ l) ^^^ 1 : Nat) : Int)
def sigL (w sec : Int) (lev i : Nat) (m : Int) : List Int := (i : Int) :: (sWords w sec i m ++ sPath w sec i lev)
theorem path_place {i l lev : Nat} (hi : i < 2 ^ lev) (hl : l < lev) (h6 : lev ≤ 6) : (((i / 2 ^ l) ^^^ 1) + 1) * 2 ^ l ≤ 64 := by
  have e : 2 ^ lev = 2 ^ (lev - l) * 2 ^ l := by rw [← Nat.pow_add]; congr 1; omega
  have h1 : i / 2 ^ l < 2 ^ (lev - l) := Nat.div_lt_of_lt_mul (by rw [Nat.mul_comm, ← e]; exact hi)
  have h2 : 1 < 2 ^ (lev - l) := Nat.one_lt_two_pow (by omega)
  have h3 := Nat.xor_lt_two_pow h1 h2
  have h4 : (((i / 2 ^ l) ^^^ 1) + 1) * 2 ^ l ≤ 2 ^ (lev - l) * 2 ^ l := Nat.mul_le_mul_right _ h3
  rw [← e] at h4
  exact Nat.le_trans h4 (Nat.pow_le_pow_right (by decide) h6)
def sgPre (K : PySem.W.Frag) (x : SgX × Nat × Int) (vs : List V) (G : Hp) : Prop := vs = [.ref x.1.s, .int (x.2.1 : Nat), .int x.2.2] ∧ x.1.at_ K G ∧ x.2.1 < 2 ^ x.1.lev
def sp_Signer_sign (K : PySem.W.Frag) : Sp := spM (fun x : SgX × Nat × Int => x.1.d) (fun x => NodesOk x.1.w x.1.sec) (sgPre K) fun x v G' => ∃ p, v = .ref p ∧ SqT K G' p ((sigL x.1.w x.1.sec x.1.lev x.2.1 x.2.2).map V.int)
theorem ok_Signer_sign (T : Txt K mg) : FnOk P w K mg base CX0 20 (He.fAd K ("Signer", some "sign")) T.fd_Signer_sign ["self", "index", "message"] (sp_Signer_sign K) := by
  refine T.Signer_sign.F.ok sc_Signer_sign (fun vs H Q E h => ?_) (fun cdv A outer s H vs Q E hr h => ?_)
  · obtain ⟨_, _, _, _, _, _, _, ⟨rfl, _⟩, _⟩ := h
    rfl
  · obtain ⟨⟨⟨sg, hh, d, w, sec, lev, rest⟩, i, m⟩, G, o, ho, po, gd, e0, ⟨rfl, hsg, hi⟩, q⟩ := h
    obtain ⟨⟨dx, gs⟩, ⟨dh, gh⟩, w4, w128, bs, lv, rs⟩ := id hsg
    replace gs : G sg = some (.ins (He.ga K "Signer") dx (sgF hh sec lev d rest)) := gs
    replace gh : G hh = some (.ins (He.ga K "Hasher") dh [("width", V.int w)]) := gh
    replace w4 : 4 ≤ w := w4
    replace w128 : w ≤ 128 := w128
    replace rs : okRest rest := rs
    replace lv : lev ≤ 6 := lv
    replace hi : i < 2 ^ lev := hi
    have hi64 : i < 64 := Nat.lt_of_lt_of_le hi (Nat.pow_le_pow_right (by decide) lv)
    refine ⟨_, PSs.nox (pss_cons (ps_set (i := 3) sc_Signer_sign.nd rfl (Or.inl rfl) (pe_call (ok_digits_of T) (hr.mono (by omega)) (by rfl) T.digits_of.g T.digits_of.F.kp T.digits_of.b .nil pass0 (pa_cons (ke_fld (K := K) (ke_fld (K := K) (pv 0))) (pa_cons (pv 2) pa_nil))))
  (pss_cons (ps_setLc (i := 4) (own := [("chain", 6), ("digit", 7)]) rfl sc_Signer_sign.nd rfl rfl (sw_true rfl rfl rfl (by decide +kernel)) (pi_enum (by rfl) T.z_enumerate (pa_cons (pv 3) pa_nil)) (blkOk_by (own := [("chain", 6), ("digit", 7)]) (N := ["self", "index", "message", "digits", "words", "beside", "chain", "digit", "level"]) (sc := defScope s_Signer_sign) (by decide +kernel)) (fun _ _ _ _ _ => kg_tup (K := K) (n := 2) rfl (pgs_cons (pg_name (i := 6) sc_Signer_sign.nd rfl (Or.inl rfl)) (pgs_cons (pg_name (i := 7) sc_Signer_sign.nd rfl (Or.inl rfl)) pgs_nil))) (fun _ _ _ _ _ => pts_nil) (fun _ _ _ _ _ => (pe_meth (pv 0) T.cl_Signer T.me_Signer_word (ok_Signer_word T) (hr.mono (by omega)) T.Signer_word.b .nil pass0 (pa_cons (pv 1) (pa_cons (pv 6) (pa_cons (pv 7) pa_nil))))))
  (pss_cons (ps_setLc (i := 5) (own := [("level", 8)]) rfl sc_Signer_sign.nd rfl rfl (sw_true rfl rfl rfl (by decide +kernel)) (pi_range1 rfl T.z_range (pa_cons (ke_fld (K := K) (pv 0)) pa_nil)) (blkOk_by (own := [("level", 8)]) (N := ["self", "index", "message", "digits", "words", "beside", "chain", "digit", "level"]) (sc := defScope s_Signer_sign) (by decide +kernel)) (fun _ _ _ _ _ => pg_name (i := 8) sc_Signer_sign.nd rfl (Or.inl rfl)) (fun _ _ _ _ _ => pts_nil) (fun _ _ _ _ _ => (pe_meth (pv 0) T.cl_Signer T.me_Signer__node (ok_Signer__node T) (hr.mono (by omega)) T.Signer__node.b .nil pass0 (pa_cons (pv 8) (pa_cons (pe_op op_xor (pe_op op_shr (pv 1) (pv 8)) pe_int) pa_nil)))))
  (pss_one (ps_ret (pe_tup (pa_cons (pv 1) (ka_star (K := K) (pv 4) (ka_star (K := K) (pv 5) pa_nil))))))))), ?_⟩
    refine (show SM (VM d (NodesOk w sec) H G) _ _ _ G from ?_) H (VM.start ho po gd e0)
    have hk : HidOk (VM d (NodesOk w sec) H G) d (NodesOk w sec) := VM.ok
    have lw : (sgF hh sec lev d rest).lookup ("word" : Str) = none := sg_no rs (by decide +kernel) (by decide +kernel) (by decide +kernel) (by decide +kernel) (by decide +kernel)
    have ln : (sgF hh sec lev d rest).lookup ("_node" : Str) = none := sg_no rs (by decide +kernel) (by decide +kernel) (by decide +kernel) (by decide +kernel) (by decide +kernel)
    have hcc := digitsOf_cc (w := w) (m := m) (by omega)
    have hcl := ccN_le (w := w) (by omega) (by omega)
    walk_at "go"
    refine fm gs T.cl_Signer T.n_Signer_hasher rfl ?_
    walk_at "go"
    refine fm gh T.cl_Hasher T.n_Hasher_width rfl ?_
    walk_at "go"
    refine cm_p ⟨w, m, rfl, by omega, by omega⟩ fun v G1 e1 hv => ?_
    obtain ⟨p1, rfl, gp1⟩ := hv w m rfl
    walk_at "go"
    refine em_mapE (fun c x => match x with | .int dg => .int (wordW w sec (i : Int) (c : Int) dg.toNat) | x => x) ?_
    walk_at "go"
    refine ⟨p1, _, rfl, sq_of gp1, by rw [List.length_map]; omega, fun _ _ => rfl, fun c x G' D acc U' _ _ e hx => ?_, fun D G2 e2 g1 g2 => ?_⟩
    · obtain ⟨dg, rfl, hdg⟩ := int_at hx
      obtain ⟨dg0, dg15⟩ := digits_rng (List.mem_of_getElem? hdg)
      have hcl2 : c < (digitsOf w m).length := (List.getElem?_eq_some_iff.mp hdg).1
      obtain ⟨dn, rfl⟩ := Int.eq_ofNat_of_zero_le dg0
      walk_at "go"
      refine mm (e _ _ (e1 _ _ gs)) lw ?_
      walk_at "go"
      refine cm_a (⟨sg, hh, d, w, sec, lev, rest⟩, (i : Int), (c : Int), dn) ⟨rfl, ex_sg (e1.trans e) hsg, bd_small (by show -1000000 ≤ (i : Int); omega) (by show (i : Int) ≤ 1000000; omega), bd_small (by show -1000000 ≤ (c : Int); omega) (by show (c : Int) ≤ 1000000; omega), by show dn ≤ 100; omega⟩ fun v G3 e3 hv => ?_
      exact ⟨hv, e3⟩
    · have ew : ((List.range ((digitsOf w m).map V.int).length).map fun c : Nat => (match ((digitsOf w m).map V.int).getD c V.non with | .int dg => V.int (wordW w sec (i : Int) (c : Int) dg.toNat) | x => x)) = (sWords w sec i m).map V.int := by
        rw [List.length_map, hcc, sWords, List.map_map]
        refine List.map_congr_left fun c hc => ?_
        have hc' : c < (digitsOf w m).length := by rw [hcc]; exact List.mem_range.mp hc
        rw [List.getD_eq_getElem?_getD, List.getElem?_map, List.getElem?_eq_getElem hc']
        show V.int _ = V.int (wordW w sec (i : Int) (c : Int) ((digitsOf w m).getD c 0).toNat)
        rw [List.getD_eq_getElem?_getD, List.getElem?_eq_getElem hc']
        rfl
      rw [ew] at g2
      have e12 := e1.trans e2
      walk_at "go"
      refine em_mapR1H (fun l => V.int (nodeW w sec l (((i / 2 ^ l) ^^^ 1 : Nat) : Int))) ?_
      walk_at "go"
      refine fm (e12 _ _ gs) T.cl_Signer T.n_Signer_levels rfl ?_
      walk_at "go"
      refine ⟨_, rfl, by omega, by omega, fun _ => rfl, fun l G' D' acc U' hU hm e hl => ?_, fun D' G3 e3 g3 g4 => ?_⟩
      · walk_at "go"
        refine mm (e _ _ (e12 _ _ gs)) ln ?_
        walk_at "go"
        have ep : Builtin.bitXor ((i : Int) / 2 ^ (Int.toNat (l : Int))) 1 = (((i / 2 ^ l) ^^^ 1 : Nat) : Int) := by
          rw [Int.toNat_natCast, show (i : Int) / 2 ^ l = ((i / 2 ^ l : Nat) : Int) by rw [Int.natCast_ediv, PySem.W.kbt_cast], Bits.bitXor_pp (Int.natCast_nonneg _) (by decide), Int.toNat_natCast]
          rfl
        rw [ep, hU]
        refine cm_m (⟨sg, hh, d, w, sec, lev, rest⟩, l, (i / 2 ^ l) ^^^ 1) (hk.hide hm) ⟨rfl, ex_sg (e12.trans e) hsg, by show l ≤ 6; omega, path_place hi (by omega) lv⟩ fun v G4 e4 hv => ?_
        exact ⟨hv, e4⟩
      · rw [Int.toNat_natCast] at g4
        have epth : ((List.range lev).map fun l => V.int (nodeW w sec l (((i / 2 ^ l) ^^^ 1 : Nat) : Int))) = (sPath w sec i lev).map V.int := by
          rw [sPath, List.map_map]; rfl
        rw [epth] at g4
        have g2' := e3 _ _ g2
        walk_at "go"
        refine em_tup ?_
        walk_at "go"
        refine am_star ?_
        walk_at "go"
        refine ⟨D, _, rfl, .inr (sq_of g2'), ?_⟩
        refine am_star ?_
        walk_at "go"
        refine ⟨D', _, rfl, .inr (sq_of g4), ?_⟩
        walk_at "go"
        have el : (V.int ((i : Nat) : Int) :: ((sWords w sec i m).map V.int ++ ((sPath w sec i lev).map V.int ++ []))) = (sigL w sec lev i m).map V.int := by simp [sigL]
        rw [el]
        refine ⟨?_, fun r G4 _ e4 gr => ?_⟩
        · rw [List.length_map, sigL, List.length_cons, List.length_append, sWords, sPath, List.length_map, List.length_map, List.length_range, List.length_range]
          exact sz6 (by omega)
        · walk_at "go"
          exact kv_m q (e12.trans (e3.trans e4)) ⟨r, rfl, st_of gr⟩
/-! ### what a tuple of any integers is told by -/
def lvOf (w : Int) (ns : List Int) : Int := (ns.length : Int) - 1 - (md w + cd w)
def shapeOk (w : Int) (ns : List Int) : Prop := (0 ≤ lvOf w ns ∧ lvOf w ns ≤ 6) ∧ (0 ≤ ns.getD 0 0 ∧ ns.getD 0 0 < 2 ^ (lvOf w ns).toNat) ∧ ∀ n ∈ ns.drop 1, 0 ≤ n ∧ n < 2 ^ w.toNat
instance (w : Int) (ns : List Int) : Decidable (shapeOk w ns) := by unfold shapeOk; exact inferInstance
theorem cutV_from {xs : List V} {k : Nat} (h : k ≤ xs.length) : cutV xs (some (k : Int)) none = xs.drop k := by
  unfold cutV
  rw [show HT.sIx xs.length 0 (some (k : Int)) = min k xs.length from HT.sIx_nat xs.length 0 k, HT.sIx_none, Nat.min_eq_left h]
  rw [List.take_of_length_le]
  rw [List.length_drop]
  omega
def sp_has_shape (K : PySem.W.Frag) : Sp := spA (fun (x : Addr × Int × Addr × List Int) vs G => vs = [.ref x.1, .ref x.2.2.1] ∧ HsAt (He.ga K "Hasher") G x.1 x.2.1 ∧ 4 ≤ x.2.1 ∧ x.2.1 ≤ 128 ∧ SqT K G x.2.2.1 (x.2.2.2.map V.int)) fun x v _ => v = .bl (decide (shapeOk x.2.1 x.2.2.2))
theorem ok_has_shape (T : Txt K mg) : FnOk P w K mg base CX0 4 (He.fAd K ("has_shape", none)) T.fd_has_shape ["hasher", "signature"] (sp_has_shape K) := by
  refine T.has_shape.F.ok sc_has_shape (fun vs H Q E h => ?_) (fun cdv A outer s H vs Q E hr h => ?_)
  · obtain ⟨_, _, _, ⟨rfl, _⟩, _⟩ := h
    rfl
  · obtain ⟨⟨hh, w, p, ns⟩, G, e0, ⟨rfl, ⟨dh, gh⟩, w4, w128, hS⟩, q⟩ := h
    replace gh : G hh = some (.ins (He.ga K "Hasher") dh [("width", V.int w)]) := gh
    replace w4 : 4 ≤ w := w4
    replace w128 : w ≤ 128 := w128
    replace hS : SqT K G p (ns.map V.int) := hS
    have cc0 : 0 ≤ md w + cd w := by have := md_nn (w := w) (by omega); have := cd_pos w; omega
    have cc1 : md w + cd w ≤ 105 := by have := md_le (w := w) (by omega); have := cd_le (w := w) (by omega) (by omega); omega
    refine ⟨_, PSs.nox (pss_cons (ps_set (i := 2) sc_has_shape.nd rfl (Or.inl rfl) (pe_op op_sub (pe_op op_sub (pe_callB (kq_len (K := K)) (by rfl) T.z_len (by decide +kernel) (pa_cons (pv 1) pa_nil)) pe_int) (pe_call (ok_chain_count T) (hr.mono (by omega)) (by rfl) T.chain_count.g T.chain_count.F.kp T.chain_count.b .nil pass0 (pa_cons (ke_fld (K := K) (pv 0)) pa_nil))))
  (pss_cons (ps_if (pt_not (pt_chain (op_le) (op_le) pe_int (pv 2) (pe_glob (v := .int 6) rfl T.c_GREATEST_LEVELS.choose_spec ⟨_, rfl⟩))) (pss_one (ps_ret pe_bl)) pss_nil)
  (pss_cons (ps_if (pt_not (pt_chain (op_le) (op_lt) pe_int (pe_ix (kx_tup (K := K)) (pv 1) pe_int (fun _ _ => rfl)) (pe_op op_shl pe_int (pv 2)))) (pss_one (ps_ret pe_bl)) pss_nil)
  (pss_one (ps_ret (pe_call (ok_are_digests T) (hr.mono (by omega)) (by rfl) T.are_digests.g T.are_digests.F.kp T.are_digests.b .nil pass0 (pa_cons (pv 0) (pa_cons (pe_slice (kl_tup (K := K)) (pv 1) (po_some pe_int) po_none) pa_nil)))))))), ?_⟩
    refine (show SM (V0 H G) _ _ _ G from ?_) H (J.start e0)
    walk_at "go"
    refine rm_lenT hS ?_
    rw [List.length_map]
    walk_at "go"
    refine fm gh T.cl_Hasher T.n_Hasher_width rfl ?_
    walk_at "go"
    refine cm_a w rfl fun v G1 e1 hv => ?_
    obtain rfl : v = .int (md w + cd w) := hv
    replace gh := e1 _ _ gh
    replace hS := ex_t e1 hS
    have bad : ¬ shapeOk w ns → ∀ G', Ex G G' → KV (V0 H G) Q (.bl false) G' := fun hn G' e => kv_ret q e (congrArg V.bl (decide_eq_false hn)).symm
    obtain ⟨L, hL⟩ : ∃ L, L = (ns.length : Int) - 1 - (md w + cd w) := ⟨_, rfl⟩
    walk_at "go"
    rw [← hL]
    refine ifd (fun z0 => ?_) (fun z0 => ?_)
    rotate_left
    · walk_at "go"
      exact bad (fun h => z0 (by rw [hL]; exact h.1.1)) _ e1
    walk_at "go"
    by_cases z1 : L ≤ 6
    rotate_left
    · rw [decide_eq_false z1]
      walk_at "go"
      exact bad (fun h => z1 (by rw [hL]; exact h.1.2)) _ e1
    rw [decide_eq_true z1]
    walk_at "go"
    refine sm_next ?_
    have hne : 0 < ns.length := by omega
    have h0 : ns[0]? = some (ns.getD 0 0) := by rw [List.getD_eq_getElem?_getD, List.getElem?_eq_getElem hne]; rfl
    have hv0 : (ns.map V.int)[0]? = some (V.int (ns.getD 0 0)) := by rw [List.getElem?_map, h0]; rfl
    walk_at "go"
    refine rm_ixT hS (atI_nat (j := 0) hv0) ?_
    walk_at "go"
    refine ifd (fun z2 => ?_) (fun z2 => ?_)
    rotate_left
    · walk_at "go"
      exact bad (fun h => z2 h.2.1.1) _ e1
    walk_at "go"
    rw [Int.one_mul]
    walk_at "go"
    by_cases z3 : ns.getD 0 0 < 2 ^ L.toNat
    rotate_left
    · rw [decide_eq_false z3]
      walk_at "go"
      exact bad (fun h => z3 (by rw [hL]; exact h.2.1.2)) _ e1
    rw [decide_eq_true z3]
    walk_at "go"
    refine sm_next ?_
    walk_at "go"
    refine rm_slT hS ?_ fun s1 G2 e2 gs1 => ?_
    · rw [List.length_map, show HT.sIx ns.length 0 (some (1 : Int)) = min 1 ns.length from HT.sIx_nat ns.length 0 1]
      omega
    have ec : cutV (ns.map V.int) (some (1 : Int)) none = (ns.drop 1).map V.int := by
      rw [show (1 : Int) = ((1 : Nat) : Int) from rfl, cutV_from (by rw [List.length_map]; omega), List.map_drop]
    rw [ec] at gs1
    walk_at "go"
    refine cm_a (w, true, ns.drop 1) ⟨.cons (.obj (e2 _ _ gh) rfl (.cons (.int _) .nil)) (.cons (.tup (st_of gs1) (rpa_of_ints _)) .nil), w4, w128, by show (ns.drop 1).length ≤ 10000; rw [List.length_drop]; omega⟩ fun v G3 e3 hv => ?_
    replace hv : Rp K G3 v (.bl ((ns.drop 1).all (isD w))) := hv
    cases hv
    walk_at "go"
    refine kv_ret q (e1.trans (e2.trans e3)) (congrArg V.bl ?_)
    rw [Bool.eq_iff_iff, decide_eq_true_eq, List.all_eq_true]
    constructor
    · intro h
      refine ⟨?_, ⟨z2, ?_⟩, fun n hn => of_decide_eq_true (h n hn)⟩
      · unfold lvOf; rw [← hL]; exact ⟨z0, z1⟩
      · unfold lvOf; rw [← hL]; exact z3
    · intro h n hn
      exact decide_eq_true (h.2.2 n hn)

def InAt (K : PySem.W.Frag) (G : Hp) (p : Addr) (t : Int) (ns : List Int) : Prop := ∃ q, SqT K G p [.int t, .ref q] ∧ SqT K G q (ns.map V.int)
theorem ex_in {K : PySem.W.Frag} {G G' : Hp} {p : Addr} {t : Int} {ns : List Int} (e : Ex G G') : InAt K G p t ns → InAt K G' p t ns := fun ⟨q, a, b⟩ => ⟨q, ex_t e a, ex_t e b⟩

/-! ### the inputs that a signature tells, from the key up -/
def bitI (i l : Nat) : Bool := decide (i / 2 ^ l % 2 = 1)
def upIn (i l : Nat) (o b : Int) : List Int := if bitI i l = true then [(l : Int), o, b] else [(l : Int), b, o]
def belowAt (w : Int) (i : Nat) (os : List Int) (b0 : Int) : Nat → Int
  | 0 => b0
  | k + 1 => dgst w 6 (upIn i k (os.getD k 0) (belowAt w i os b0 k))
def dgN (w m : Int) (c : Nat) : Nat := ((digitsOf w m).getD c 0).toNat
def endsOf (w m : Int) (ns : List Int) : List Int := (List.range (ccN w)).map fun (c : Nat) => fol w (ns.getD 0 0) (c : Int) (ns.getD (c + 1) 0) (dgN w m c) (15 - dgN w m c)
def besideOf (w : Int) (ns : List Int) : List Int := ns.drop (ccN w + 1)
def keyIn (w m : Int) (ns : List Int) : List Int := ns.getD 0 0 :: endsOf w m ns
def upIns (w m : Int) (ns : List Int) (n : Nat) : List (Int × List Int) := (5, keyIn w m ns) :: (List.range n).map fun k => (6, upIn (ns.getD 0 0).toNat k ((besideOf w ns).getD k 0) (belowAt w (ns.getD 0 0).toNat (besideOf w ns) (dgst w 5 (keyIn w m ns)) k))
def topB (w m : Int) (ns : List Int) (k : Nat) : Int := belowAt w (ns.getD 0 0).toNat (besideOf w ns) (dgst w 5 (keyIn w m ns)) k
def toldIns (w m : Int) (ns : List Int) : List (Int × List Int) := (upIns w m ns (besideOf w ns).length ++ [(6, [((besideOf w ns).length : Int), topB w m ns (besideOf w ns).length])]).reverse
/-- a list of inputs stands at p -/
def InsAt (K : PySem.W.Frag) (G : Hp) (vs : List V) (xs : List (Int × List Int)) : Prop := Paired (fun v (x : Int × List Int) => ∃ p, v = V.ref p ∧ InAt K G p x.1 x.2) vs xs
theorem ex_ins {K : PySem.W.Frag} {G G' : Hp} (e : Ex G G') : ∀ {vs : List V} {xs : List (Int × List Int)}, InsAt K G vs xs → InsAt K G' vs xs
  | _, _, .nil => .nil
  | _, _, .cons ⟨p, h1, h2⟩ t => .cons ⟨p, h1, ex_in e h2⟩ (ex_ins e t)
theorem ins_snoc {K : PySem.W.Frag} {G : Hp} {v : V} {x : Int × List Int} : ∀ {vs : List V} {xs : List (Int × List Int)}, InsAt K G vs xs → (∃ p, v = V.ref p ∧ InAt K G p x.1 x.2) → InsAt K G (vs ++ [v]) (xs ++ [x])
  | _, _, .nil, h => .cons h .nil
  | _, _, .cons a t, h => .cons a (ins_snoc t h)
theorem ins_len {K : PySem.W.Frag} {G : Hp} {vs : List V} {xs : List (Int × List Int)} (h : InsAt K G vs xs) : vs.length = xs.length := Paired.length h
theorem ins_rev {K : PySem.W.Frag} {G : Hp} : ∀ {vs : List V} {xs : List (Int × List Int)}, InsAt K G vs xs → InsAt K G vs.reverse xs.reverse
  | _, _, .nil => .nil
  | _, _, .cons a t => by rw [List.reverse_cons, List.reverse_cons]; exact ins_snoc (ins_rev t) a
theorem ins_wo {K : PySem.W.Frag} {G : Hp} {I : Addr} {ws : List V} (h : G I = some (.lst ws)) : ∀ {vs : List V} {xs : List (Int × List Int)}, InsAt K G vs xs → InsAt K (wo I G) vs xs
  | _, _, .nil => .nil
  | _, _, .cons ⟨p, h1, q, h2, h3⟩ t => .cons ⟨p, h1, q, sqt_wo h h2, sqt_wo h h3⟩ (ins_wo h t)
theorem topB_succ (w m : Int) (ns : List Int) (k : Nat) : topB w m ns (k + 1) = dgst w 6 (upIn (ns.getD 0 0).toNat k ((besideOf w ns).getD k 0) (topB w m ns k)) := rfl
theorem bd_topB {w : Int} (h4 : 4 ≤ w) (h : w ≤ 128) (m : Int) (ns : List Int) : ∀ k, Bd (topB w m ns k)
  | 0 => bd_dgst h4 h _ _
  | _ + 1 => bd_dgst h4 h _ _
theorem bd_upIn {i l : Nat} {o b : Int} (hl : l ≤ 100) (ho : Bd o) (hb : Bd b) : (limbs (upIn i l o b)).length ≤ 99000 := by
  have bl : Bd (l : Int) := bd_small (by omega) (by omega)
  unfold upIn
  split <;> refine limbs_bd (by show 3 ≤ 120; decide) (by
    intro n hn
    simp only [List.mem_cons, List.not_mem_nil, or_false] at hn
    rcases hn with rfl | rfl | rfl <;> assumption)
theorem upIns_succ (w m : Int) (ns : List Int) (n : Nat) : upIns w m ns (n + 1) = upIns w m ns n ++ [(6, upIn (ns.getD 0 0).toNat n ((besideOf w ns).getD n 0) (topB w m ns n))] := by
  unfold upIns
  rw [List.range_succ, List.map_append]
  rfl
theorem bit_eq (i l : Nat) : decide (Builtin.bitAnd ((i : Int) / 2 ^ (l : Int).toNat) 1 = 1) = bitI i l := by
  unfold bitI
  have e1 : (1 : Int) = 2 ^ 1 - 1 := by decide
  rw [show Builtin.bitAnd ((i : Int) / 2 ^ (l : Int).toNat) 1 = (i : Int) / 2 ^ (l : Int).toNat % 2 ^ 1 from by
    conv => lhs; rw [e1]
    exact PySem.W.kbt_mask _ 1]
  rw [Int.toNat_natCast, show (i : Int) / 2 ^ l = ((i / 2 ^ l : Nat) : Int) by rw [Int.natCast_ediv, PySem.W.kbt_cast]]
  exact decide_eq_decide.mpr (by have : (2 : Int) ^ 1 = 2 := by decide
                                 constructor <;> intro h <;> omega)
def sp_told_inputs (K : PySem.W.Frag) : Sp := spA (fun (x : Addr × Int × Int × Addr × List Int) vs G => vs = [.ref x.1, .int x.2.2.1, .ref x.2.2.2.1] ∧ HsAt (He.ga K "Hasher") G x.1 x.2.1 ∧ 4 ≤ x.2.1 ∧ x.2.1 ≤ 128 ∧ SqT K G x.2.2.2.1 (x.2.2.2.2.map V.int) ∧ shapeOk x.2.1 x.2.2.2.2) fun x v G' => ∃ p vs, v = .ref p ∧ G' p = some (.lst vs) ∧ InsAt K G' vs (toldIns x.2.1 x.2.2.1 x.2.2.2.2)
theorem ok_told_inputs (T : Txt K mg) : FnOk P w K mg base CX0 5 (He.fAd K ("told_inputs", none)) T.fd_told_inputs ["hasher", "message", "signature"] (sp_told_inputs K) := by
  refine T.told_inputs.F.ok sc_told_inputs (fun vs H Q E h => ?_) (fun cdv A outer s H vs Q E hr h => ?_)
  · obtain ⟨_, _, _, ⟨rfl, _⟩, _⟩ := h
    rfl
  · obtain ⟨⟨hh, w, m, p, ns⟩, G, e0, ⟨rfl, ⟨dh, gh⟩, w4, w128, hS, hsh⟩, q⟩ := h
    replace gh : G hh = some (.ins (He.ga K "Hasher") dh [("width", V.int w)]) := gh
    replace w4 : 4 ≤ w := w4
    replace w128 : w ≤ 128 := w128
    replace hS : SqT K G p (ns.map V.int) := hS
    replace hsh : shapeOk w ns := hsh
    have cc0 : 0 ≤ md w + cd w := by have := md_nn (w := w) (by omega); have := cd_pos w; omega
    have hcc := digitsOf_cc (w := w) (m := m) (by omega)
    have hcl := ccN_le (w := w) (by omega) (by omega)
    have ecc : md w + cd w = (ccN w : Int) := by unfold ccN; omega
    obtain ⟨⟨l0, l6⟩, ⟨i0, i1⟩, hrn⟩ := id hsh
    have hlv : lvOf w ns = (ns.length : Int) - 1 - (ccN w : Int) := by unfold lvOf; rw [ecc]
    rw [hlv] at l0 l6 i1
    have hlen : ccN w + 1 ≤ ns.length := by omega
    have hlen2 : ns.length ≤ ccN w + 7 := by omega
    obtain ⟨i, hi⟩ := Int.eq_ofNat_of_zero_le i0
    have hi64 : i < 64 := by
      have h1 : (2 : Int) ^ ((ns.length : Int) - 1 - (ccN w : Int)).toNat ≤ 2 ^ 6 := by
        rw [← PySem.W.kbt_cast, ← PySem.W.kbt_cast]
        exact Int.ofNat_le.mpr (Nat.pow_le_pow_right (by decide) (by omega))
      have h2 : (2 : Int) ^ 6 = 64 := by decide
      omega
    have gD : ∀ k, k < ns.length → (ns.map V.int)[k]? = some (V.int (ns.getD k 0)) := fun k hk => by rw [List.getElem?_map, List.getD_eq_getElem?_getD, List.getElem?_eq_getElem hk]; rfl
    have rngD : ∀ k, 1 ≤ k → k < ns.length → 0 ≤ ns.getD k 0 ∧ ns.getD k 0 < 2 ^ w.toNat := fun k h1 hk => by
      refine hrn _ ?_
      rw [List.getD_eq_getElem?_getD, List.getElem?_eq_getElem hk]
      refine List.mem_of_getElem? (i := k - 1) ?_
      rw [List.getElem?_drop, show 1 + (k - 1) = k by omega, List.getElem?_eq_getElem hk]
      rfl
    refine ⟨_, PSs.nox (pss_cons (ps_set (i := 3) sc_told_inputs.nd rfl (Or.inr rfl) (pe_ix (kx_tup (K := K)) (pv 2) pe_int (fun _ _ => rfl)))
  (pss_cons (ps_set (i := 4) sc_told_inputs.nd rfl (Or.inr rfl) (pe_call (ok_digits_of T) (hr.mono (by omega)) (by rfl) T.digits_of.g T.digits_of.F.kp T.digits_of.b .nil pass0 (pa_cons (ke_fld (K := K) (pv 0)) (pa_cons (pv 1) pa_nil))))
  (pss_cons (ps_set (i := 5) sc_told_inputs.nd rfl (Or.inl rfl) (pe_slice (kl_tup (K := K)) (pv 2) (po_some pe_int) (po_some (pe_op op_add (pe_callB (kq_len (K := K)) (by rfl) T.z_len (by decide +kernel) (pa_cons (pv 4) pa_nil)) pe_int))))
  (pss_cons (ps_setLc (i := 6) (own := [("chain", 14), ("word", 15)]) rfl sc_told_inputs.nd rfl rfl (sw_true rfl rfl rfl (by decide +kernel)) (ki_enumT (K := K) (by rfl) T.z_enumerate (pa_cons (pv 5) pa_nil)) (blkOk_by (own := [("chain", 14), ("word", 15)]) (N := ["hasher", "message", "signature", "index", "digits", "words", "ends", "inputs", "beside", "below", "level", "other", "is_right", "numbers", "chain", "word"]) (sc := defScope s_told_inputs) (by decide +kernel)) (fun _ _ _ _ _ => kg_tup (K := K) (n := 2) rfl (pgs_cons (pg_name (i := 14) sc_told_inputs.nd rfl (Or.inl rfl)) (pgs_cons (pg_name (i := 15) sc_told_inputs.nd rfl (Or.inl rfl)) pgs_nil))) (fun _ _ _ _ _ => pts_nil) (fun _ _ _ _ _ => (pe_call (ok_followed T) (hr.mono (by omega)) (by rfl) T.followed.g T.followed.F.kp T.followed.b .nil pass0 (pa_cons (pv 0) (pa_cons (pv 3) (pa_cons (pv 14) (pa_cons (pe_ix (kx_list (K := K)) (pv 4) (pv 14) (fun _ _ => rfl)) (pa_cons (pv 15) (pa_cons (pe_glob (v := .int 15) rfl T.c_LAST_STEP.choose_spec ⟨_, rfl⟩) pa_nil)))))))))
  (pss_cons (ps_set (i := 7) sc_told_inputs.nd rfl (Or.inl rfl) (pe_lst (pa_cons (pe_tup (pa_cons (pe_glob (v := .int 5) rfl T.c_KEY_TAG.choose_spec ⟨_, rfl⟩) (pa_cons (pe_tup (pa_cons (pv 3) (ka_star (K := K) (pv 6) pa_nil))) pa_nil))) pa_nil)))
  (pss_cons (ps_set (i := 8) sc_told_inputs.nd rfl (Or.inl rfl) (pe_slice (kl_tup (K := K)) (pv 2) (po_some (pe_op op_add (pe_callB (kq_len (K := K)) (by rfl) T.z_len (by decide +kernel) (pa_cons (pv 4) pa_nil)) pe_int)) po_none))
  (pss_cons (ps_set (i := 9) sc_told_inputs.nd rfl (Or.inl rfl) (pe_meth (pv 0) T.cl_Hasher T.me_Hasher_digest (ok_Hasher_digest T) (hr.mono (by omega)) T.Hasher_digest.b .nil pass0 (pa_cons (pe_glob (v := .int 5) rfl T.c_KEY_TAG.choose_spec ⟨_, rfl⟩) (pa_cons (pe_lst (pa_cons (pv 3) (ka_star (K := K) (pv 6) pa_nil))) pa_nil))))
  (pss_cons (ps_for PassesOwn.never rfl (ki_enumT (K := K) (by rfl) T.z_enumerate (pa_cons (pv 8) pa_nil)) (kg_tup (K := K) (n := 2) rfl (pgs_cons (pg_name (i := 10) sc_told_inputs.nd rfl (Or.inl rfl)) (pgs_cons (pg_name (i := 11) sc_told_inputs.nd rfl (Or.inl rfl)) pgs_nil))) (pss_cons (ps_set (i := 12) sc_told_inputs.nd rfl (Or.inl rfl) (pe_cmpR (op_eq) (pe_op op_and (pe_op op_shr (pv 3) (pv 10)) pe_int) pe_int (nomark _)))
  (pss_cons (ps_set (i := 13) sc_told_inputs.nd rfl (Or.inl rfl) (pe_ifExp (pt_val (pv 12)) (pe_tup (pa_cons (pv 10) (pa_cons (pv 11) (pa_cons (pv 9) pa_nil)))) (pe_tup (pa_cons (pv 10) (pa_cons (pv 9) (pa_cons (pv 11) pa_nil))))))
  (pss_cons (ps_expr (pe_bm PySem.F.plainAttrs_list PySem.F.slot_list_append PySem.F.type_list_append mt_append (pv 7) (pa_cons (pe_tup (pa_cons (pe_glob (v := .int 6) rfl T.c_NODE_TAG.choose_spec ⟨_, rfl⟩) (pa_cons (pv 13) pa_nil))) pa_nil)))
  (pss_one (ps_set (i := 9) sc_told_inputs.nd rfl (Or.inl rfl) (pe_meth (pv 0) T.cl_Hasher T.me_Hasher_digest (ok_Hasher_digest T) (hr.mono (by omega)) T.Hasher_digest.b .nil pass0 (pa_cons (pe_glob (v := .int 6) rfl T.c_NODE_TAG.choose_spec ⟨_, rfl⟩) (pa_cons (pv 13) pa_nil)))))))))
  (pss_cons (ps_expr (pe_bm PySem.F.plainAttrs_list PySem.F.slot_list_append PySem.F.type_list_append mt_append (pv 7) (pa_cons (pe_tup (pa_cons (pe_glob (v := .int 6) rfl T.c_NODE_TAG.choose_spec ⟨_, rfl⟩) (pa_cons (pe_tup (pa_cons (pe_callB (kq_len (K := K)) (by rfl) T.z_len (by decide +kernel) (pa_cons (pv 8) pa_nil)) (pa_cons (pv 9) pa_nil))) pa_nil))) pa_nil)))
  (pss_one (ps_ret (ke_revL (K := K) (pv 7))))))))))))), ?_⟩
    refine (show SM (V0 H G) _ _ _ G from ?_) H (J.start e0)
    walk_at "go"
    refine rm_ixT hS (atI_nat (j := 0) (gD 0 (by omega))) ?_
    walk_at "go"
    rw [hi]
    refine fm gh T.cl_Hasher T.n_Hasher_width rfl ?_
    walk_at "go"
    refine cm_p ⟨w, m, rfl, by omega, by omega⟩ fun v G1 e1 hv => ?_
    obtain ⟨dl, rfl, gd⟩ := hv w m rfl
    have hS1 := ex_t e1 hS
    walk_at "go"
    rw [List.length_map, hcc]
    refine rm_slT hS1 ?_ fun s1 G2 e2 gs1 => ?_
    · rw [List.length_map, show HT.sIx ns.length 0 (some (1 : Int)) = min 1 ns.length from HT.sIx_nat ns.length 0 1]
      omega
    have ec : cutV (ns.map V.int) (some (1 : Int)) (some ((ccN w : Int) + 1)) = ((ns.drop 1).take (ccN w)).map V.int := by
      unfold cutV
      rw [List.length_map, show HT.sIx ns.length 0 (some (1 : Int)) = min 1 ns.length from HT.sIx_nat ns.length 0 1, show ((ccN w : Int) + 1) = ((ccN w + 1 : Nat) : Int) by omega, HT.sIx_nat, Nat.min_eq_left (show 1 ≤ ns.length by omega), Nat.min_eq_left hlen, Nat.add_sub_cancel, List.map_take, List.map_drop]
    rw [ec] at gs1
    have wD : ∀ c, c < ccN w → ((ns.drop 1).take (ccN w))[c]? = some (ns.getD (c + 1) 0) := fun c hc => by
      rw [List.getElem?_take, if_pos hc, List.getElem?_drop, Nat.add_comm 1 c, List.getD_eq_getElem?_getD, List.getElem?_eq_getElem (show c + 1 < ns.length by omega)]
      rfl
    have wl : ((ns.drop 1).take (ccN w)).length = ccN w := by rw [List.length_take, List.length_drop]; omega
    have gd2 := e2 _ _ gd
    have e12 := e1.trans e2
    have dD : ∀ c, c < ccN w → ((digitsOf w m).map V.int)[c]? = some (V.int (dgN w m c : Nat)) ∧ dgN w m c ≤ 15 := fun c hc => by
      have h1 : (digitsOf w m)[c]? = some ((digitsOf w m).getD c 0) := by rw [List.getD_eq_getElem?_getD, List.getElem?_eq_getElem (by rw [hcc]; exact hc)]; rfl
      obtain ⟨h2, h3⟩ := digits_rng (List.mem_of_getElem? h1)
      have h4 : (dgN w m c : Int) = (digitsOf w m).getD c 0 := by unfold dgN; omega
      rw [List.getElem?_map, h1, h4]
      exact ⟨rfl, by unfold dgN; omega⟩
    have bi : Bd (i : Int) := bd_small (by omega) (by omega)
    walk_at "go"
    refine em_mapET (fun c x => match x with | .int y => .int (fol w (i : Int) (c : Int) y (dgN w m c) (15 - dgN w m c)) | x => x) ?_
    walk_at "go"
    refine ⟨s1, _, rfl, st_of gs1, by rw [List.length_map, wl]; omega, fun _ _ => rfl, fun c x G' D acc U' _ _ e hx => ?_, fun D G3 e3 g1 g2 => ?_⟩
    · obtain ⟨y, rfl, hy⟩ := int_at hx
      have hc : c < ccN w := by have := (List.getElem?_eq_some_iff.mp hy).1; rw [wl] at this; exact this
      obtain rfl : y = ns.getD (c + 1) 0 := by rw [wD c hc] at hy; exact (Option.some.inj hy).symm
      obtain ⟨y0, y1⟩ := rngD (c + 1) (by omega) (by omega)
      obtain ⟨d1, d2⟩ := dD c hc
      walk_at "go"
      refine rm_ixL (sq_of (e _ _ gd2)) (atI_nat d1) ?_
      walk_at "go"
      refine cm_a (hh, w, (i : Int), (c : Int), dgN w m c, ns.getD (c + 1) 0, 15) ⟨rfl, ⟨dh, e _ _ (e12 _ _ gh)⟩, w4, w128, bi, bd_small (show -1000000 ≤ (c : Int) by omega) (show (c : Int) ≤ 1000000 by omega), bd_rng y0 y1 (by omega), by show dgN w m c ≤ 100; omega, by show 15 ≤ 100; decide⟩ fun v G4 e4 hv => ?_
      exact ⟨hv, e4⟩
    have eE : ((List.range (((ns.drop 1).take (ccN w)).map V.int).length).map fun c : Nat => (match (((ns.drop 1).take (ccN w)).map V.int).getD c V.non with | .int y => V.int (fol w (i : Int) (c : Int) y (dgN w m c) (15 - dgN w m c)) | x => x)) = (endsOf w m ns).map V.int := by
      rw [List.length_map, wl, endsOf, List.map_map]
      refine List.map_congr_left fun c hc => ?_
      have hc' := List.mem_range.mp hc
      rw [List.getD_eq_getElem?_getD, List.getElem?_map, wD c hc', hi]
      rfl
    rw [eE] at g2
    have hE : (endsOf w m ns).length = ccN w := by unfold endsOf; rw [List.length_map, List.length_range]
    have hK : (i : Int) :: endsOf w m ns = keyIn w m ns := by unfold keyIn; rw [hi]
    have e13 := e12.trans e3
    have bE : ∀ n ∈ keyIn w m ns, Bd n := fun n hn => by
      rw [← hK] at hn
      rcases List.mem_cons.mp hn with rfl | hn
      · exact bi
      · unfold endsOf at hn
        obtain ⟨c, hc, rfl⟩ := List.mem_map.mp hn
        have hc' := List.mem_range.mp hc
        obtain ⟨y0, y1⟩ := rngD (c + 1) (by omega) (by omega)
        exact bd_fol w4 w128 (bd_rng y0 y1 (by omega)) _
    have lK : (keyIn w m ns).length ≤ 120 := by rw [← hK, List.length_cons, hE]; omega
    walk_at "go"
    refine em_lst ?_
    walk_at "go"
    refine em_tup ?_
    walk_at "go"
    refine em_tup ?_
    walk_at "go"
    refine am_star ?_
    walk_at "go"
    refine ⟨D, _, rfl, .inr (sq_of g2), ?_⟩
    walk_at "go"
    have el : (V.int (i : Int) :: ((endsOf w m ns).map V.int ++ [])) = (keyIn w m ns).map V.int := by rw [← hK]; simp
    rw [el]
    refine ⟨by rw [List.length_map]; exact sz6 (by omega), fun t1 G4 _ e4 gt1 => ?_⟩
    walk_at "go"
    refine ⟨by show 2 ≤ sizeLine; decide, fun t2 G5 _ e5 gt2 => ?_⟩
    walk_at "go"
    refine ⟨by show 1 ≤ sizeLine; decide, fun I G6 nI e6 gI => ?_⟩
    have hS6 := ex_t (e13.trans (e4.trans (e5.trans e6))) hS
    have gd6 := e6 _ _ (e5 _ _ (e4 _ _ (e3 _ _ gd2)))
    walk_at "go"
    rw [List.length_map, hcc]
    refine rm_slT hS6 ?_ fun bs G7 e7 gbs => ?_
    · rw [List.length_map, show ((ccN w : Int) + 1) = ((ccN w + 1 : Nat) : Int) by omega, HT.sIx_nat]
      omega
    have ecb : cutV (ns.map V.int) (some ((ccN w : Int) + 1)) none = (besideOf w ns).map V.int := by
      rw [show ((ccN w : Int) + 1) = ((ccN w + 1 : Nat) : Int) by omega, cutV_from (by rw [List.length_map]; exact hlen), besideOf, List.map_drop]
    rw [ecb] at gbs
    have e16 := e13.trans (e4.trans (e5.trans e6))
    walk_at "go"
    refine mm (e7 _ _ (e16 _ _ gh)) (lkD w) ?_
    walk_at "go"
    refine em_lst ?_
    walk_at "go"
    refine am_star ?_
    walk_at "go"
    have g27 := e7 _ _ (e6 _ _ (e5 _ _ (e4 _ _ g2)))
    refine ⟨D, _, rfl, .inr (sq_of g27), ?_⟩
    walk_at "go"
    rw [el]
    refine ⟨by rw [List.length_map]; exact sz6 (by omega), fun l1 G8 _ e8 gl1 => ?_⟩
    walk_at "go"
    refine cm_a (hh, w, 5, l1, keyIn w m ns) ⟨rfl, ⟨dh, e8 _ _ (e7 _ _ (e16 _ _ gh))⟩, by show 0 ≤ w; omega, w128, .inl (sq_of gl1), limbs_bd lK bE⟩ fun v G9 e9 hv => ?_
    obtain rfl : v = .int (dgst w 5 (keyIn w m ns)) := hv
    walk_at "go"
    have e79 := e7.trans (e8.trans e9)
    have e69 := e6.trans e79
    have gI9 := e79 _ _ gI
    have gt19 := e69 _ _ (e5 _ _ gt1)
    have gt29 := e69 _ _ gt2
    have gbs9 := e9 _ _ (e8 _ _ gbs)
    have gh9 := e79 _ _ (e16 _ _ gh)
    have nhI : hh ≠ I := fun z => by rw [z, gI9] at gh9; cases gh9
    have nI0 : (V0 H G).Ge I = none := none_of_ex (e13.trans (e4.trans e5)) nI
    have lB : (besideOf w ns).length ≤ 6 := by unfold besideOf; rw [List.length_drop]; omega
    have upBd : ∀ k, k < (besideOf w ns).length → (limbs (upIn i k ((besideOf w ns).getD k 0) (topB w m ns k))).length ≤ 99000 := fun k hk => by
      refine bd_upIn (by omega) ?_ (bd_topB w4 w128 m ns k)
      have hk' : ccN w + 1 + k < ns.length := by unfold besideOf at hk; rw [List.length_drop] at hk; omega
      have hr := rngD (ccN w + 1 + k) (by omega) hk'
      rw [show (besideOf w ns).getD k 0 = ns.getD (ccN w + 1 + k) 0 by rw [besideOf, List.getD_eq_getElem?_getD, List.getD_eq_getElem?_getD, List.getElem?_drop]]
      exact bd_rng hr.1 hr.2 (by omega)
    refine sm_forET ?_
    walk_at "go"
    refine ⟨bs, (besideOf w ns).map V.int, rfl, st_of gbs9, fun k σ' G' => ∃ vs v10 v11 v12 v13 v14 v15, σ' = [some (.ref hh), some (.int m), some (.ref p), some (.int (i : Int)), some (.ref dl), some (.ref s1), some (.ref D), some (.ref I), some (.ref bs), some (.int (topB w m ns k)), v10, v11, v12, v13, v14, v15] ∧ G' I = some (.lst vs) ∧ InsAt K G' vs (upIns w m ns k) ∧ Ex (wo I G9) G', ?_, ?_, ?_, ?_⟩
    · exact ⟨[.ref t2], none, none, none, none, none, none, rfl, gI9, .cons ⟨t2, rfl, t1, st_of gt29, st_of gt19⟩ .nil, wo_ex⟩
    · rintro k σ' G' hk ⟨vs, v10, v11, v12, v13, v14, v15, rfl, hI, hv, he⟩
      exact ex_t he (sqt_wo gI9 (st_of gbs9))
    · rintro k x σ' G' G'' hx ⟨vs, v10, v11, v12, v13, v14, v15, rfl, hI, hv, he⟩ e10 _
      obtain ⟨o, rfl, ho⟩ := int_at hx
      have hk : k < (besideOf w ns).length := (List.getElem?_eq_some_iff.mp ho).1
      obtain rfl : o = (besideOf w ns).getD k 0 := by rw [List.getD_eq_getElem?_getD, ho]; rfl
      walk_at "go"
      rw [bit_eq]
      rcases hb : bitI i k
      · rw [if_neg Bool.false_ne_true]
        refine em_tup ?_
        walk_at "go"
        refine ⟨by show 3 ≤ sizeLine; decide, fun t G3 _ e11 gt => ?_⟩
        replace gt : G3 t = some (.tup ((upIn i k ((besideOf w ns).getD k 0) (topB w m ns k)).map V.int)) := by rw [gt, upIn, hb]; rfl
        walk_at "go"
        refine em_append (l := I) (xs := vs) ?_
        walk_at "go"
        have hI3 := e11 _ _ (e10 _ _ hI)
        refine ⟨rfl, hI3, ?_⟩
        refine em_tup ?_
        walk_at "go"
        refine ⟨by show 2 ≤ sizeLine; decide, fun t' G4 _ e12' gt' => ?_⟩
        refine ⟨e12' _ _ hI3, nI0, ?_, ?_⟩
        · rw [ins_len hv, upIns, List.length_cons, List.length_map, List.length_range]
          exact Nat.lt_of_lt_of_le (show k + 1 < 1000 by omega) (by decide)
        walk_at "go"
        have b4 : Ex (wo I G9) (upd G4 I (.lst (vs ++ [.ref t']))) := wo_upd (he.trans (e10.trans (e11.trans e12')))
        have ntI : t ≠ I := fun z => by rw [z, hI3] at gt; cases gt
        have ntI' : t' ≠ I := fun z => by rw [z, e12' _ _ hI3] at gt'; cases gt'
        have gt4 : upd G4 I (.lst (vs ++ [.ref t'])) t = _ := (upd_ne ntI).trans (e12' _ _ gt)
        have gt4' : upd G4 I (.lst (vs ++ [.ref t'])) t' = _ := (upd_ne ntI').trans gt'
        have hv4 : InsAt K (upd G4 I (.lst (vs ++ [.ref t']))) vs (upIns w m ns k) := ex_ins (wo_upd ((wo_ex (st := I)).trans (e10.trans (e11.trans e12')))) (ins_wo hI hv)
        refine mm (b4 _ _ ((wo_ne nhI).trans gh9)) (lkD w) ?_
        walk_at "go"
        refine cm_a (hh, w, 6, t, upIn i k ((besideOf w ns).getD k 0) (topB w m ns k)) ⟨rfl, ⟨dh, b4 _ _ ((wo_ne nhI).trans gh9)⟩, by show 0 ≤ w; omega, w128, .inr (st_of gt4), upBd k hk⟩ fun v G5' e5' hv5 => ?_
        obtain rfl : v = .int (topB w m ns (k + 1)) := hv5.trans (by rw [topB_succ, hi, Int.toNat_natCast])
        walk_at "go"
        refine km_kj ⟨vs ++ [.ref t'], _, _, _, _, _, _, rfl, e5' _ _ upd_same, ?_, b4.trans e5'⟩
        rw [upIns_succ]
        refine ex_ins e5' (ins_snoc hv4 ⟨t', rfl, t, st_of gt4', ?_⟩)
        rw [hi, Int.toNat_natCast]
        exact st_of gt4
      · rw [if_pos rfl]
        refine em_tup ?_
        walk_at "go"
        refine ⟨by show 3 ≤ sizeLine; decide, fun t G3 _ e11 gt => ?_⟩
        replace gt : G3 t = some (.tup ((upIn i k ((besideOf w ns).getD k 0) (topB w m ns k)).map V.int)) := by rw [gt, upIn, hb]; rfl
        walk_at "go"
        refine em_append (l := I) (xs := vs) ?_
        walk_at "go"
        have hI3 := e11 _ _ (e10 _ _ hI)
        refine ⟨rfl, hI3, ?_⟩
        refine em_tup ?_
        walk_at "go"
        refine ⟨by show 2 ≤ sizeLine; decide, fun t' G4 _ e12' gt' => ?_⟩
        refine ⟨e12' _ _ hI3, nI0, ?_, ?_⟩
        · rw [ins_len hv, upIns, List.length_cons, List.length_map, List.length_range]
          exact Nat.lt_of_lt_of_le (show k + 1 < 1000 by omega) (by decide)
        walk_at "go"
        have b4 : Ex (wo I G9) (upd G4 I (.lst (vs ++ [.ref t']))) := wo_upd (he.trans (e10.trans (e11.trans e12')))
        have ntI : t ≠ I := fun z => by rw [z, hI3] at gt; cases gt
        have ntI' : t' ≠ I := fun z => by rw [z, e12' _ _ hI3] at gt'; cases gt'
        have gt4 : upd G4 I (.lst (vs ++ [.ref t'])) t = _ := (upd_ne ntI).trans (e12' _ _ gt)
        have gt4' : upd G4 I (.lst (vs ++ [.ref t'])) t' = _ := (upd_ne ntI').trans gt'
        have hv4 : InsAt K (upd G4 I (.lst (vs ++ [.ref t']))) vs (upIns w m ns k) := ex_ins (wo_upd ((wo_ex (st := I)).trans (e10.trans (e11.trans e12')))) (ins_wo hI hv)
        refine mm (b4 _ _ ((wo_ne nhI).trans gh9)) (lkD w) ?_
        walk_at "go"
        refine cm_a (hh, w, 6, t, upIn i k ((besideOf w ns).getD k 0) (topB w m ns k)) ⟨rfl, ⟨dh, b4 _ _ ((wo_ne nhI).trans gh9)⟩, by show 0 ≤ w; omega, w128, .inr (st_of gt4), upBd k hk⟩ fun v G5' e5' hv5 => ?_
        obtain rfl : v = .int (topB w m ns (k + 1)) := hv5.trans (by rw [topB_succ, hi, Int.toNat_natCast])
        walk_at "go"
        refine km_kj ⟨vs ++ [.ref t'], _, _, _, _, _, _, rfl, e5' _ _ upd_same, ?_, b4.trans e5'⟩
        rw [upIns_succ]
        refine ex_ins e5' (ins_snoc hv4 ⟨t', rfl, t, st_of gt4', ?_⟩)
        rw [hi, Int.toNat_natCast]
        exact st_of gt4
    · rintro σ' G' ⟨vs, v10, v11, v12, v13, v14, v15, rfl, hI, hv, he⟩
      rw [List.length_map] at hv ⊢
      have hbs' : SqT K G' bs ((besideOf w ns).map V.int) := ex_t he (sqt_wo gI9 (st_of gbs9))
      walk_at "go"
      refine em_append (l := I) (xs := vs) ?_
      walk_at "go"
      refine ⟨rfl, hI, ?_⟩
      refine em_tup ?_
      walk_at "go"
      refine em_tup ?_
      walk_at "go"
      refine rm_lenT hbs' ?_
      rw [List.length_map]
      walk_at "go"
      refine ⟨by show 2 ≤ sizeLine; decide, fun t G3 _ e11 gt => ?_⟩
      walk_at "go"
      refine ⟨by show 2 ≤ sizeLine; decide, fun t' G4 _ e12' gt' => ?_⟩
      have hI3 := e11 _ _ hI
      refine ⟨e12' _ _ hI3, nI0, ?_, ?_⟩
      · rw [ins_len hv, upIns, List.length_cons, List.length_map, List.length_range]
        exact Nat.lt_of_lt_of_le (show (besideOf w ns).length + 1 < 1000 by omega) (by decide)
      walk_at "go"
      have b4 : Ex (wo I G9) (upd G4 I (.lst (vs ++ [.ref t']))) := wo_upd (he.trans (e11.trans e12'))
      have ntI : t ≠ I := fun z => by rw [z, hI3] at gt; cases gt
      have ntI' : t' ≠ I := fun z => by rw [z, e12' _ _ hI3] at gt'; cases gt'
      have gt4 : upd G4 I (.lst (vs ++ [.ref t'])) t = _ := (upd_ne ntI).trans (e12' _ _ gt)
      have gt4' : upd G4 I (.lst (vs ++ [.ref t'])) t' = _ := (upd_ne ntI').trans gt'
      have hv4 : InsAt K (upd G4 I (.lst (vs ++ [.ref t']))) vs (upIns w m ns (besideOf w ns).length) := ex_ins (wo_upd ((wo_ex (st := I)).trans (e11.trans e12'))) (ins_wo hI hv)
      have hv5 := ins_rev (ins_snoc (x := (6, [((besideOf w ns).length : Int), topB w m ns (besideOf w ns).length])) hv4 ⟨t', rfl, t, st_of gt4', st_of gt4⟩)
      refine em_revL ?_
      walk_at "go"
      refine ⟨I, _, rfl, sq_of upd_same, fun r G5' _ e5' gr => ?_⟩
      have hbase : Ex G (wo I G9) := fun a u e => by
        have na : a ≠ I := fun z => by rw [z] at e; have n0 : G I = none := nI0; rw [n0] at e; cases e
        rw [wo_ne na]
        exact e79 _ _ (e16 _ _ e)
      exact kv_ret q (hbase.trans (b4.trans e5')) ⟨r, _, rfl, gr, ex_ins e5' hv5⟩
def pubOf (w m : Int) (ns : List Int) : Int := dgst w 6 [((besideOf w ns).length : Int), topB w m ns (besideOf w ns).length]
def verOk (w pub m : Int) (ns : List Int) : Prop := (0 ≤ m ∧ m < 2 ^ w.toNat) ∧ shapeOk w ns ∧ pubOf w m ns = pub
instance (w pub m : Int) (ns : List Int) : Decidable (verOk w pub m ns) := by unfold verOk; exact inferInstance
theorem told_top (w m : Int) (ns : List Int) : toldIns w m ns = (6, [((besideOf w ns).length : Int), topB w m ns (besideOf w ns).length]) :: (upIns w m ns (besideOf w ns).length).reverse := by
  unfold toldIns
  rw [List.reverse_append]
  rfl
def sp_verify (K : PySem.W.Frag) : Sp := spA (fun (x : Addr × Int × Int × Int × Addr × List Int) vs G => vs = [.ref x.1, .int x.2.2.1, .int x.2.2.2.1, .ref x.2.2.2.2.1] ∧ HsAt (He.ga K "Hasher") G x.1 x.2.1 ∧ 4 ≤ x.2.1 ∧ x.2.1 ≤ 128 ∧ SqT K G x.2.2.2.2.1 (x.2.2.2.2.2.map V.int)) fun x v _ => v = .bl (decide (verOk x.2.1 x.2.2.1 x.2.2.2.1 x.2.2.2.2.2))
theorem ok_verify (T : Txt K mg) : FnOk P w K mg base CX0 6 (He.fAd K ("verify", none)) T.fd_verify ["hasher", "public", "message", "signature"] (sp_verify K) := by
  refine T.verify.F.ok sc_verify (fun vs H Q E h => ?_) (fun cdv A outer s H vs Q E hr h => ?_)
  · obtain ⟨_, _, _, ⟨rfl, _⟩, _⟩ := h
    rfl
  · obtain ⟨⟨hh, w, pub, m, p, ns⟩, G, e0, ⟨rfl, ⟨dh, gh⟩, w4, w128, hS⟩, q⟩ := h
    replace gh : G hh = some (.ins (He.ga K "Hasher") dh [("width", V.int w)]) := gh
    replace w4 : 4 ≤ w := w4
    replace w128 : w ≤ 128 := w128
    replace hS : SqT K G p (ns.map V.int) := hS
    refine ⟨_, PSs.nox (pss_cons (ps_if (PW.pt (pw_or (pt_not (pt_val (pe_meth (pv 0) T.cl_Hasher T.me_Hasher_is_digest (ok_Hasher_is_digest T) (hr.mono (by omega)) T.Hasher_is_digest.b .nil pass0 (pa_cons (pv 2) pa_nil)))) (pw_or1 (pt_not (pt_val (pe_call (ok_has_shape T) (hr.mono (by omega)) (by rfl) T.has_shape.g T.has_shape.F.kp T.has_shape.b .nil pass0 (pa_cons (pv 0) (pa_cons (pv 3) pa_nil)))))))) (pss_one (ps_ret pe_bl)) pss_nil)
  (pss_cons (ps_asg (pe_ix (kx_list (K := K)) (pe_call (ok_told_inputs T) (hr.mono (by omega)) (by rfl) T.told_inputs.g T.told_inputs.F.kp T.told_inputs.b .nil pass0 (pa_cons (pv 0) (pa_cons (pv 2) (pa_cons (pv 3) pa_nil)))) pe_int (fun _ _ => rfl)) (kg_tup (K := K) (n := 2) rfl (pgs_cons (pg_name (i := 4) sc_verify.nd rfl (Or.inl rfl)) (pgs_cons (pg_name (i := 5) sc_verify.nd rfl (Or.inl rfl)) pgs_nil))))
  (pss_one (ps_ret (pe_cmpR (op_eq) (pe_meth (pv 0) T.cl_Hasher T.me_Hasher_digest (ok_Hasher_digest T) (hr.mono (by omega)) T.Hasher_digest.b .nil pass0 (pa_cons (pv 4) (pa_cons (pv 5) pa_nil))) (pv 1) (nomark _)))))), ?_⟩
    refine (show SM (V0 H G) _ _ _ G from ?_) H (J.start e0)
    have bad : ¬ verOk w pub m ns → ∀ G', Ex G G' → KV (V0 H G) Q (.bl false) G' := fun hn G' e => kv_ret q e (congrArg V.bl (decide_eq_false hn)).symm
    walk_at "go"
    refine mm gh (lkI w) ?_
    walk_at "go"
    refine cm_a (hh, w, m) ⟨rfl, ⟨dh, gh⟩, by show 0 ≤ w; omega, by show w ≤ 100000; omega⟩ fun v G1 e1 hv => ?_
    obtain rfl : v = .bl (decide (0 ≤ m ∧ m < 2 ^ w.toNat)) := hv
    walk_at "go"
    refine ifn (fun hA => ?_) (fun hA => ?_)
    · rw [if_pos rfl]
      walk_at "go"
      exact bad (fun h => hA h.1) _ e1
    walk_at "go"
    refine cm_a (hh, w, p, ns) ⟨rfl, ⟨dh, e1 _ _ gh⟩, w4, w128, ex_t e1 hS⟩ fun v G2 e2 hv => ?_
    obtain rfl : v = .bl (decide (shapeOk w ns)) := hv
    have e12 := e1.trans e2
    walk_at "go"
    refine ifn (fun hB => ?_) (fun hB => ?_)
    · walk_at "go"
      exact bad (fun h => hB h.2.1) _ e12
    walk_at "go"
    refine sm_next ?_
    walk_at "go"
    refine cm_a (hh, w, m, p, ns) ⟨rfl, ⟨dh, e12 _ _ gh⟩, w4, w128, ex_t e12 hS, hB⟩ fun v G3 e3 hv => ?_
    obtain ⟨r, vs, rfl, gr, hi⟩ := hv
    replace hi : InsAt K G3 vs (toldIns w m ns) := hi
    rw [told_top] at hi
    have e13 := e12.trans e3
    cases hi with
    | cons h0 hi' =>
      obtain ⟨t, rfl, qn, h2, h3⟩ := h0
      walk_at "go"
      refine rm_ixL (sq_of gr) (atI_nat (j := 0) rfl) ?_
      walk_at "go"
      refine gm_tup h2 rfl ?_
      walk_at "go"
      have hlb : (limbs [((besideOf w ns).length : Int), topB w m ns (besideOf w ns).length]).length ≤ 99000 := limbs_bd (by show 2 ≤ 120; decide) (by
        have h6 : (besideOf w ns).length ≤ 1000 := by
          have := hB.1.2
          have := ccN_le (w := w) (by omega) (by omega)
          unfold lvOf at this
          unfold besideOf
          rw [List.length_drop]
          have hc : md w + cd w ≤ (ccN w : Int) := by unfold ccN; omega
          have := hB.1.2
          unfold lvOf at this
          omega
        intro n hn
        simp only [List.mem_cons, List.not_mem_nil, or_false] at hn
        rcases hn with rfl | rfl
        · exact bd_small (by omega) (by omega)
        · exact bd_topB w4 w128 _ _ _)
      refine mm (e13 _ _ gh) (lkD w) ?_
      walk_at "go"
      refine cm_a (hh, w, 6, qn, _) ⟨rfl, ⟨dh, e13 _ _ gh⟩, by show 0 ≤ w; omega, w128, .inr h3, hlb⟩ fun v G4 e4 hv => ?_
      obtain rfl : v = .int (pubOf w m ns) := hv
      walk_at "go"
      refine kv_ret q (e13.trans e4) (congrArg V.bl (decide_eq_decide.mpr ?_))
      exact ⟨fun h => ⟨hA, hB, h⟩, fun h => h.2.2⟩

end
section
local macro_rules | `(tactic| walk_at "dr") => `(tactic| first | exact fun _ => .int _ | exact fun _ => .bl _ | exact fun _ => .str _ | exact fun _ => .non)
local macro_rules | `(tactic| walk_at "sz") => `(tactic| first | exact Nat.le_of_ble_eq_true rfl | (simp only [List.length_append, List.length_map, List.length_range, List.length_cons, List.length_nil, List.length_reverse]; exact sz6 (by omega)))
local macro_rules | `(tactic| walk_at "le") => `(tactic| ((repeat first | exact EnvLe.nil | with_reducible refine EnvLe.any ?_ | with_reducible refine EnvLe.same ?_ | refine EnvLe.sameE ?_ ?_); all_goals first | done | rfl | (simp; done) | (simp [List.map_append]; done) | skip))
local macro_rules | `(tactic| walk_at "d1") => `(tactic| first
  | with_reducible refine iteT ?_
  | with_reducible refine iteF ?_
  | with_reducible refine ifNT ?_
  | with_reducible refine ifNF ?_
  | with_reducible refine ds_seq ?_
  | refine ds_store ?_
  | ((with_reducible refine ds_own (dn_lst ?_)))
  | ((with_reducible refine ds_asg ?_))
  | ((with_reducible refine' dg_name ?fcc ?rcc ?_); (case fcc => rfl); (case rcc => first | (dsimp only [List.set]; done) | (dsimp only [List.set]; exact rfl)))
  | ((with_reducible refine' dg_tup ?lcc ?_); (case lcc => rfl))
  | ((with_reducible refine' dg_sqT ?lcc ?_); (case lcc => rfl))
  | ((with_reducible refine' dg_sqL ?lcc ?_); (case lcc => rfl))
  | with_reducible refine dgs_cons ?_
  | with_reducible refine dgs_nil ?_
  | ((with_reducible refine' set_to ?rcc ?_); (case rcc => first | (dsimp only [List.set]; done) | (dsimp only [List.set]; exact rfl)))
  | ((with_reducible refine' sz_ ?scc ?_); (case scc => walk_at "sz"))
  | ((with_reducible refine ds_aug ?_); refine ⟨_, rfl, ?_⟩)
  | with_reducible refine ds_next ?_
  | with_reducible refine ds_brk ?_
  | with_reducible refine ds_cont ?_
  | ((refine ds_retO ?_); refine ⟨_, rfl, ?_⟩)
  | with_reducible refine ds_ret ?_
  | with_reducible refine ds_retN ?_
  | ((refine ds_append ?_); refine ⟨_, rfl, ?_⟩)
  | ((refine ds_extend ?_); refine ⟨_, rfl, ?_⟩)
  | with_reducible refine ds_drop ?_
  | with_reducible refine ds_if ?_
  | with_reducible refine dt_test ?_
  | with_reducible refine dt_B ?_
  | with_reducible refine dt_and ?_
  | with_reducible refine dt_or ?_
  | with_reducible refine dt_not ?_
  | with_reducible refine dt_yes ?_
  | ((with_reducible refine de_var ?_); refine ⟨_, rfl, rfl, ?_⟩)
  | with_reducible refine de_cI ?_
  | with_reducible refine de_cB ?_
  | with_reducible refine de_cS ?_
  | with_reducible refine de_cN ?_
  | with_reducible refine de_op ?_
  | with_reducible refine de_un ?_
  | with_reducible refine de_chain ?_
  | ((with_reducible refine' dr_I0 ?dcc ?_); (case dcc => walk_at "dr"))
  | ((with_reducible refine' dr_I ?ccc ?dcc ?_); (case dcc => walk_at "dr"); (case ccc => walk_at "c"))
  | ((with_reducible refine' du_U ?dcc ?_); (case dcc => walk_at "dr"))
  | with_reducible refine dr_eqI ?_
  | with_reducible refine dr_neI ?_
  | with_reducible refine dr_eqS ?_
  | with_reducible refine dr_neS ?_
  | with_reducible refine dr_eqB ?_
  | with_reducible refine dr_neB ?_
  | with_reducible refine dr_isB ?_
  | with_reducible refine dr_notB ?_
  | with_reducible refine dr_isN ?_
  | with_reducible refine dr_notN ?_
  | with_reducible refine be ?_
  | with_reducible refine ie ?_
  | with_reducible refine dd ?_
  | with_reducible refine da_nil ?_
  | with_reducible refine da_cons ?_
  | with_reducible refine da_star ?_
  | with_reducible refine se_tup ?_
  | with_reducible refine se_lst ?_
  | with_reducible refine se_own ?_
  | with_reducible refine de_meth ?_
  | ((with_reducible refine' me ?ncc ?_); (case ncc => decide +kernel))
  | with_reducible refine de_fld ?_
  | ((with_reducible refine' fe ?ccc ?ncc ?lcc ?_); (case ccc => assumption); (case ncc => assumption); (case lcc => rfl))
  | with_reducible refine de_lst ?_
  | with_reducible refine de_tup ?_
  | ((with_reducible refine de_lenO ?_); refine ⟨_, rfl, ?_⟩)
  | with_reducible refine de_len ?_
  | with_reducible refine len_lM ?_
  | with_reducible refine len_tM ?_
  | with_reducible refine len_oM ?_
  | with_reducible refine len_dM ?_
  | with_reducible refine len_mM ?_
  | with_reducible refine len_l ?_
  | with_reducible refine len_t ?_
  | with_reducible refine len_o ?_
  | with_reducible refine len_d ?_
  | with_reducible refine len_m ?_
  | with_reducible refine sq_l ?_
  | with_reducible refine sq_t ?_
  | with_reducible refine ls_dM ?_
  | with_reducible refine ls_mM ?_
  | with_reducible refine ls_l ?_
  | with_reducible refine ls_t ?_
  | with_reducible refine ls_o ?_
  | with_reducible refine ls_d ?_
  | with_reducible refine ls_m ?_
  | with_reducible refine de_rev ?_
  | with_reducible refine rv_lM ?_
  | with_reducible refine rv_oM ?_
  | with_reducible refine rv_tM ?_
  | with_reducible refine rv_l ?_
  | with_reducible refine rv_o ?_
  | with_reducible refine rv_t ?_
  | with_reducible refine dt_tru ?_
  | with_reducible refine tr_n ?_
  | with_reducible refine tr_b ?_
  | with_reducible refine tr_i ?_
  | with_reducible refine tr_lM ?_
  | with_reducible refine tr_tM ?_
  | with_reducible refine tr_l ?_
  | with_reducible refine tr_t ?_
  | with_reducible refine de_dget ?_
  | with_reducible refine de_din ?_
  | with_reducible refine de_dnotin ?_
  | with_reducible refine de_dget1 ?_
  | with_reducible refine de_dget2 ?_
  | with_reducible refine dce_d ?_
  | with_reducible refine dce_o ?_
  | with_reducible refine kye_i ?_
  | with_reducible refine kye_s ?_
  | with_reducible refine ds_dput ?_
  | ((refine ds_dpop ?_); refine ⟨_, rfl, ?_⟩)
  | ((refine ds_popO ?_))
  | ((refine ds_retD ?_); refine ⟨_, _, rfl, ?_⟩)
  | with_reducible refine di_sq' ?_
  | with_reducible refine di_rng1 ?_
  | with_reducible refine di_rng2 ?_
  | with_reducible refine di_rng3 ?_
  | with_reducible refine di_rev1 ?_
  | with_reducible refine di_enumA ?_
  | with_reducible refine di_zip ?_
  | with_reducible refine dn_list ?_
  | with_reducible refine dn_items ?_
  | with_reducible refine dr_addI ?_
  | ((with_reducible refine' dr_addL ?scc ?_); (case scc => walk_at "sz"))
  | ((with_reducible refine' dr_addT ?scc ?_); (case scc => walk_at "sz"))
  | with_reducible refine dr_eqBI ?_
  | with_reducible refine dr_neBI ?_
  | with_reducible refine dr_eqBS ?_
  | with_reducible refine dr_neBS ?_
  | with_reducible refine dr_eqBB ?_
  | with_reducible refine dr_neBB ?_
  | with_reducible refine dr_eqBdd ?_
  | with_reducible refine dr_neBdd ?_
  | ((with_reducible refine dr_ixSO ?_); (try refine ⟨_, rfl, ?_⟩))
  | with_reducible refine dsl_SO ?_
  | ((with_reducible refine de_isTup ?_))
  | ((with_reducible refine de_isLst ?_))
  | with_reducible refine de_cb ?_
  | with_reducible refine de_bits ?_
  | refine de_callS (by exact rfl) (by exact rfl) ?_
  | with_reducible refine de_call ?_
  | with_reducible refine de_andV ?_
  | with_reducible refine de_orV ?_
  | with_reducible refine de_notV ?_
  | with_reducible refine de_if ?_
  | with_reducible refine db_lenM ?_
  | with_reducible refine db_lenMT ?_
  | with_reducible refine db_lenL ?_
  | with_reducible refine db_lenT ?_
  | with_reducible refine db_int ?_
  | with_reducible refine db_intB ?_
  | with_reducible refine db_max ?_
  | with_reducible refine db_min ?_
  | with_reducible refine db_listL ?_
  | with_reducible refine db_listT ?_
  | with_reducible refine db_tupL ?_
  | with_reducible refine db_tupT ?_
  | with_reducible refine db_sum ?_
  | with_reducible refine db_all ?_
  | with_reducible refine db_any ?_
  | with_reducible refine de_sl ?_
  | with_reducible refine do_none ?_
  | with_reducible refine do_some ?_
  | with_reducible refine dsl_L ?_
  | with_reducible refine dsl_O ?_
  | with_reducible refine dsl_A ?_
  | with_reducible refine dsl_SL ?_
  | with_reducible refine dsl_ST ?_
  | ((with_reducible refine dr_ixL ?_); (try refine ⟨_, rfl, ?_⟩))
  | ((with_reducible refine dr_ixO ?_); (try refine ⟨_, rfl, ?_⟩))
  | ((with_reducible refine dr_ixT ?_); (try refine ⟨_, rfl, ?_⟩))
  | ((with_reducible refine dr_ixSL ?_); (try refine ⟨_, rfl, ?_⟩))
  | ((with_reducible refine dr_ixST ?_); (try refine ⟨_, rfl, ?_⟩))
  | with_reducible refine dr_eqLI ?_
  | with_reducible refine dr_neLI ?_
  | with_reducible refine dr_eqTI ?_
  | with_reducible refine dr_neTI ?_)
local macro_rules | `(tactic| walk_at "d") => `(tactic| repeat walk_at "d1")
local macro_rules | `(tactic| walk_at "D") => `(tactic| ((try dsimp only); walk_at "d"))

section
/-! ### signing by data -/
abbrev sgK : List Str := ["hasher", "secret", "levels", "_nodes", "public"]
abbrev sgD (K : PySem.W.Frag) (wd sec : Int) (lev : Nat) (d : Addr) : D := .obj (He.ga K "Signer") sgK [Hs K wd, .int sec, .int (lev : Int), .adr d, .int (pubW wd sec lev)]
abbrev sgE (K : PySem.W.Frag) (wd sec : Int) (lev : Nat) (d : Addr) : Wp.E := .cd (sgD K wd sec lev d) [(d, NodesOk wd sec)]
theorem hsat_of {K : PySem.W.Frag} {G : Hp} {v : V} {wd : Int} (h : Rp K G v (Hs K wd)) : ∃ a, v = .ref a ∧ HsAt (He.ga K "Hasher") G a wd := by
  cases h with
  | @obj a _ dx fvs _ _ g k r =>
    refine ⟨a, rfl, dx, ?_⟩
    match fvs, k, r, g with
    | [(n, x)], k, r, g =>
      cases r with
      | cons x1 x2 =>
        cases x1
        simp at k
        subst k
        exact g
theorem ds_signerF {K : PySem.W.Frag} {ρ : List Wp.E} {N B C : List Wp.E → Prop} {R : D → Prop} {i : Nat} {E' : XK} {tas : TA} (h : DA K tas ρ fun ds => ∃ (wd sec : Int) (lev : Nat), ds = [Hs K wd, .int sec, .int (lev : Int)] ∧ 4 ≤ wd ∧ wd ≤ 128 ∧ Bd sec ∧ lev ≤ 6 ∧ ∀ d, (∀ c, InEnv ρ c → c.1 ≠ d) → SetTo ρ i (sgE K wd sec lev d) N) : DS K (tAsg (tMake (He.ga K "Signer") (sp_Signer___init__ K) [] E' tas) (gName i)) ρ N B C R := fun U σ L G Dn o n b c r H j => by
  refine h U σ L G o H j _ fun vs H1 G1 j1 ⟨e1, ds, sd, wd, sec, lev, ed, w4, w128, bs, l6, kn⟩ => ?_
  subst ed
  cases sd with
  | cons s1 sd =>
  cases sd with
  | cons s2 sd =>
  obtain ⟨v3, rfl, s3⟩ := rpa1 sd
  cases s2
  cases s3
  obtain ⟨h, rfl, hh⟩ := hsat_of s1
  intro x dx nx ndx ne
  obtain ⟨hdx, gh⟩ := hh
  have nhx : h ≠ x := fun z => by rw [z] at gh; rw [j1.up _ _ gh] at nx; cases nx
  have nhdx : h ≠ dx := fun z => by rw [z] at gh; rw [j1.up _ _ gh] at ndx; cases ndx
  refine ⟨x, h, dx, wd, sec, lev, rfl, upd_same, ⟨hdx, by rw [upd_ne nhx, upd_ne nhdx]; exact j1.up _ _ gh⟩, w4, w128, bs, l6, fun H' d oo hk nd hd ho hx => ⟨rfl, ?_⟩⟩
  have ndx' : d ≠ x := fun z => by rw [z, upd_same] at nd; cases nd
  have nddx : d ≠ dx := fun z => by rw [z, upd_ne ne, upd_same] at nd; cases nd
  have nd1 : H1 d = none := by rw [upd_ne ndx', upd_ne nddx] at nd; exact nd
  obtain ⟨ρ', hr, kn⟩ := kn d fun c hc z => by
    have hm : (U.hides L).m c.1 := (hc.ok o).elim (fun h => .inl h.m) fun h => .inr ⟨_, h⟩
    exact (j1.msk _ hm).2 (z ▸ nd1)
  subst hr
  have hk1 : ∀ a u, H1 a = some u → H' a = some u := fun a u e => by
    have n1 : a ≠ x := fun z => by rw [z, nx] at e; cases e
    have n2 : a ≠ dx := fun z => by rw [z, ndx] at e; cases e
    exact hk a u n1 (by rw [upd_ne n1, upd_ne n2]; exact e)
  have nil : ∀ a, H1 a = none → G1 a = none ∧ U.He a = none ∧ U.Ge a = none ∧ ¬ U.m a ∧ ∀ u, (a, u) ∉ L := fun a na => by
    have g1 : G1 a = none := none_of_ex j1.up na
    refine ⟨g1, none_of_ex j1.keep na, none_of_ex o.ge (none_of_ex e1 g1), fun z => (j1.msk a (.inl z)).2 na, fun u z => (j1.msk a (.inr ⟨u, z⟩)).2 na⟩
  obtain ⟨gx, hex, gex, mx, lx⟩ := nil x nx
  obtain ⟨gdx, hedx, gedx, mdx, ldx⟩ := nil dx ndx
  obtain ⟨gd, hed, ged, md, ld⟩ := nil d nd1
  obtain ⟨fs, hfs⟩ : ∃ fs, fs = sgF h sec lev d [(("public" : Str), V.int (pubW wd sec lev))] := ⟨_, rfl⟩
  rw [← hfs] at hx
  have eg : Ex G1 (upd (upd G1 dx (.own x)) x (.ins (He.ga K "Signer") dx fs)) := fun a u e => by
    have n1 : a ≠ x := fun z => by rw [z, gx] at e; cases e
    have n2 : a ≠ dx := fun z => by rw [z, gdx] at e; cases e
    rw [upd_ne n1, upd_ne n2]; exact e
  have hdx' : H' dx = some (.own x) := hk dx _ ne (by rw [upd_ne ne, upd_same])
  have jn : J (U.hides ((d, HI.ce (NodesOk wd sec)) :: L)) H' (upd (upd G1 dx (.own x)) x (.ins (He.ga K "Signer") dx fs)) := {
    up := fun a u e => by
      by_cases z : a = x
      · subst z; rw [upd_same] at e; rw [hx]; exact e
      · rw [upd_ne z] at e
        by_cases z2 : a = dx
        · subst z2; rw [upd_same] at e; rw [hdx']; exact e
        · rw [upd_ne z2] at e; exact hk1 a u (j1.up a u e)
    keep := fun a u e => hk1 a u (j1.keep a u e)
    new := fun a q g => by
      by_cases z : a = x
      · subst z; exact hex
      · rw [upd_ne z] at q
        by_cases z2 : a = dx
        · subst z2; exact hedx
        · rw [upd_ne z2] at q; exact j1.new a q g
    hid := ⟨U.st H1 H' j1.hid.1 fun a ma => by
      cases e : H1 a with
      | none => exact absurd e (j1.msk a (.inl ma)).2
      | some u => exact hk1 a u e, fun p hp => by
      rcases List.mem_cons.mp hp with rfl | hp
      · exact ⟨oo, hd, ho⟩
      · obtain ⟨u, h1, h2⟩ := j1.hid.2 p hp
        exact ⟨u, hk1 _ _ h1, h2⟩⟩
    msk := fun a ma => by
      have old : (U.hides L).m a → upd (upd G1 dx (.own x)) x (.ins (He.ga K "Signer") dx fs) a = none ∧ H' a ≠ none := fun ma => by
        obtain ⟨g, hn⟩ := j1.msk a ma
        have n1 : a ≠ x := fun z => hn (z ▸ nx)
        have n2 : a ≠ dx := fun z => hn (z ▸ ndx)
        refine ⟨by rw [upd_ne n1, upd_ne n2]; exact g, fun z => ?_⟩
        cases e : H1 a with
        | none => exact hn e
        | some u => rw [hk1 a u e] at z; cases z
      rcases ma with ma | ⟨u, ma⟩
      · exact old (.inl ma)
      · rcases List.mem_cons.mp ma with e | ma
        · cases e
          exact ⟨by rw [upd_ne ndx', upd_ne nddx]; exact gd, by rw [hd]; exact fun z => by cases z⟩
        · exact old (.inr ⟨u, ma⟩) }
  have ee := e1.trans eg
  refine n _ _ _ _ kn (o.put (L' := (d, HI.ce (NodesOk wd sec)) :: L) (F := []) ee (fun q hq => List.mem_cons_of_mem _ hq) (o.lo.cons ld md hed ged) (.cd (.obj upd_same (by rw [hfs]; rfl) ?_) fun c hc => ?_) List.nodup_nil (fun a ha => by simp at ha)) ee H' jn
  · subst hfs
    exact .cons (s1.mono eg) (.cons (.int _) (.cons (.int _) (.cons (.adr _) (.cons (.int _) .nil))))
  · rw [List.mem_singleton.mp hc]
    exact .inr List.mem_cons_self
theorem ds_signer {K : PySem.W.Frag} {ρ : List Wp.E} {N B C : List Wp.E → Prop} {R : D → Prop} {i : Nat} {E' : XK} {tas : TA} (h : DA K tas ρ fun ds => ∃ (wd sec : Int) (lev : Nat), ds = [Hs K wd, .int sec, .int (lev : Int)] ∧ 4 ≤ wd ∧ wd ≤ 128 ∧ Bd sec ∧ lev ≤ 6 ∧ ∀ d, SetTo ρ i (sgE K wd sec lev d) N) : DS K (tAsg (tMake (He.ga K "Signer") (sp_Signer___init__ K) [] E' tas) (gName i)) ρ N B C R :=
  ds_signerF fun U σ L G o => (h U σ L G o).w fun v G1 ⟨e1, ds, sd, wd, sec, lev, ed, w4, w128, bs, l6, kn⟩ => ⟨e1, ds, sd, wd, sec, lev, ed, w4, w128, bs, l6, fun d _ => kn d⟩
theorem sg_at {K : PySem.W.Frag} {G : Hp} {v : V} {wd sec : Int} {lev : Nat} {d : Addr} (w4 : 4 ≤ wd) (w128 : wd ≤ 128) (bs : Bd sec) (l6 : lev ≤ 6) (h : Rp K G v (sgD K wd sec lev d)) : ∃ s hh, v = .ref s ∧ SgAt K G s hh d wd sec lev [(("public" : Str), V.int (pubW wd sec lev))] := by
  cases h with
  | @obj a _ dx fvs _ _ g k r =>
    match fvs, k, r, g with
    | [(n1, x1), (n2, x2), (n3, x3), (n4, x4), (n5, x5)], k, r, g =>
      cases r with
      | cons r1 r =>
      cases r with
      | cons r2 r =>
      cases r with
      | cons r3 r =>
      cases r with
      | cons r4 r =>
      obtain ⟨v5, e5, r5⟩ := rpa1 r
      simp at k
      obtain ⟨rfl, rfl, rfl, rfl, rfl⟩ := k
      obtain ⟨hh, ehh, hat⟩ := hsat_of r1
      simp at e5
      subst e5
      simp at ehh
      subst ehh
      cases r2
      cases r3
      cases r4
      cases r5
      exact ⟨a, hh, rfl, ⟨⟨dx, g⟩, hat, w4, w128, bs, l6, .inr ⟨_, rfl⟩⟩⟩
    | [], k, r, g => simp at k
    | [_], k, r, g => simp at k
    | [_, _], k, r, g => simp at k
    | [_, _, _], k, r, g => simp at k
    | [_, _, _, _], k, r, g => simp at k
    | _ :: _ :: _ :: _ :: _ :: _ :: _, k, r, g => simp at k
theorem de_sign {K : PySem.W.Frag} {ρ : List Wp.E} {Q : Wp.E → Prop} {te : TE} {E' : XK} {tas : TA} (h : DE K te ρ fun e => ∃ (wd sec : Int) (lev : Nat) (d : Addr), e = .d (sgD K wd sec lev d) ∧ InEnv ρ (d, NodesOk wd sec) ∧ 4 ≤ wd ∧ wd ≤ 128 ∧ Bd sec ∧ lev ≤ 6 ∧ DA K tas ρ fun ds => ∃ (idx : Nat) (m : Int), ds = [.int (idx : Int), .int m] ∧ idx < 2 ^ lev ∧ Q (.d (tI (sigL wd sec lev idx m)))) : DE K (tMeth (He.ga K "Signer") "sign" (sp_Signer_sign K) [] E' te tas) ρ Q := fun U σ L G o => by
  refine em_meth ((h U σ L G o).w fun v G1 ⟨e1, x, sx, wd, sec, lev, d, ed, hc, w4, w128, bs, l6, ha⟩ => ?_)
  subst ed
  obtain ⟨s, hh, rfl, sa⟩ := sg_at w4 w128 bs l6 sx
  obtain ⟨dx, g⟩ := sa.ob
  refine ⟨s, dx, _, rfl, g, sg_no sa.rs rfl rfl rfl rfl rfl, (ha U σ L G1 (o.mono e1)).w fun vs G2 ⟨e2, ds, sd, idx, m, ed, hlt, q⟩ => ?_⟩
  subst ed
  cases sd with
  | cons s1 sd =>
  obtain ⟨v2, rfl, s2⟩ := rpa1 sd
  cases s1
  cases s2
  exact cm_m (x := ((⟨s, hh, d, wd, sec, lev, _⟩ : SgX), idx, m)) (cell_hid o.lo (hc.ok o)) ⟨rfl, ex_sg e2 sa, hlt⟩ fun v G' e ⟨p, ev, t⟩ => ⟨(e1.trans e2).trans e, .d (tI (sigL wd sec lev idx m)), by rw [ev]; exact Rp.tup t (rpa_of_ints _), q⟩
theorem dc_word {K : PySem.W.Frag} {Q : Wp.E → Prop} {wd sec i c : Int} {lev s : Nat} {d : Addr} (w4 : 4 ≤ wd) (w128 : wd ≤ 128) (bs : Bd sec) (l6 : lev ≤ 6) (bi : Bd i) (bc : Bd c) (hs : s ≤ 100) (k : Q (.d (.int (wordW wd sec i c s)))) : DC K (sp_Signer_word K) [sgD K wd sec lev d, .int i, .int c, .int (s : Int)] Q := fun U L G vs lo sd => by
  cases sd with
  | cons s0 sd =>
  cases sd with
  | cons s1 sd =>
  cases sd with
  | cons s2 sd =>
  obtain ⟨v2, rfl, s3⟩ := rpa1 sd
  cases s1
  cases s2
  cases s3
  obtain ⟨a, hh, rfl, sa⟩ := sg_at w4 w128 bs l6 s0
  exact cm_a ((⟨a, hh, d, wd, sec, lev, _⟩ : SgX), i, c, s) ⟨rfl, sa, bi, bc, hs⟩ fun v G' e hv => ⟨e, .d (.int (wordW wd sec i c s)), by rw [show v = .int (wordW wd sec i c s) from hv]; exact Rp.int _, k⟩
theorem dc_verify {K : PySem.W.Frag} {Q : Wp.E → Prop} {wd pub m : Int} {sig : List Int} (w4 : 4 ≤ wd) (w128 : wd ≤ 128) (k : Q (.d (.bl (decide (verOk wd pub m sig))))) : DC K (sp_verify K) [Hs K wd, .int pub, .int m, tI sig] Q := fun U L G vs lo sd => by
  cases sd with
  | cons s0 sd =>
  cases sd with
  | cons s1 sd =>
  cases sd with
  | cons s2 sd =>
  obtain ⟨v2, rfl, s3⟩ := rpa1 sd
  cases s1
  cases s2
  obtain ⟨h, rfl, ha⟩ := hsat_of s0
  obtain ⟨a, rfl, t⟩ : ∃ a, v2 = .ref a ∧ SqT K G a (sig.map V.int) := by
    cases (s3 : Rp K G v2 (tI sig)) with
    | tup t b =>
      have := rpa_ints b
      subst this
      exact ⟨_, rfl, t⟩
  exact cm_a (h, wd, pub, m, a, sig) ⟨rfl, ha, w4, w128, t⟩ fun v G' e hv => ⟨e, .d (.bl (decide (verOk wd pub m sig))), by rw [show v = .bl (decide (verOk wd pub m sig)) from hv]; exact Rp.bl _, k⟩
theorem dc_digits {K : PySem.W.Frag} {Q : Wp.E → Prop} {wd m : Int} (h0 : 0 ≤ wd) (h : wd ≤ 400) (k : Q (.d (lI (digitsOf wd m)))) : DC K (sp_digits_of K) [.int wd, .int m] Q := fun U L G vs lo s => by
  cases s with
  | cons a s =>
    obtain ⟨v, rfl, c⟩ := rpa1 s
    cases a
    cases c
    exact cm_p ⟨wd, m, rfl, h0, h⟩ fun v G' e hv => by
      obtain ⟨p, rfl, g⟩ := hv wd m rfl
      exact ⟨e, .d (lI (digitsOf wd m)), .lst g (rpa_of_ints _), k⟩

end
section
abbrev mbD (ms : List (Int × Int)) : D := .tup (ms.map prT)
def ordM : Int → List (Int × Int) → Bool
  | _, [] => true
  | b, p :: ps => if p.1 ≤ b then false else ordM p.1 ps
def wtM (ms : List (Int × Int)) : Bool := ms.all fun p => decide (1 ≤ p.2 ∧ p.2 ≤ 1000000)
def mfD (ms : List (Int × Int)) : D := if 1 ≤ ms.length ∧ ms.length ≤ 64 then (if ordM (-1) ms = true then (if wtM ms = true then .non else .str (Str.ofString "weight")) else .str (Str.ofString "order")) else .str (Str.ofString "count")
def sp_members_fault (K : PySem.W.Frag) : Sp := spG K (fun ms : List (Int × Int) => [mbD ms]) (fun ms => ms.length ≤ 100000) mfD
theorem ok_members_fault (T : Txt K mg) : FnOk P w K mg base CX0 (1) (He.fAd K ("members_fault", none)) T.fd_members_fault ["members"] (sp_members_fault K) := by
  refine T.members_fault.F.ok sc_members_fault (fun vs H Q E h => len_g h fun _ => rfl) (fun cdv A outer s H vs Q E hr h => ⟨_, PSs.nox (pss_cons (ps_if (pt_not (pt_chain (op_le) (op_le) pe_int (pe_callB (kq_lenA (K := K)) (by rfl) T.z_len (by decide +kernel) (pa_cons (pv 0) pa_nil)) (pe_glob (v := .int 64) rfl T.c_MOST_MEMBERS.choose_spec ⟨_, rfl⟩))) (pss_one (ps_ret pe_str)) pss_nil)
  (pss_cons (ps_set (i := 1) sc_members_fault.nd rfl (Or.inl rfl) (pe_un un_neg pe_int))
  (pss_cons (ps_for PassesOwn.never rfl (ki_sq (K := K) (pv 0)) (kg_tup (K := K) (n := 2) rfl (pgs_cons (pg_name (i := 2) sc_members_fault.nd rfl (Or.inl rfl)) (pgs_cons (pg_name (i := 3) sc_members_fault.nd rfl (Or.inl rfl)) pgs_nil))) (pss_cons (ps_if (pt_cmpR (op_le) (pv 2) (pv 1) (nomark _)) (pss_one (ps_ret pe_str)) pss_nil)
  (pss_one (ps_set (i := 1) sc_members_fault.nd rfl (Or.inl rfl) (pv 2)))))
  (pss_cons (ps_if (pt_not (pt_val (pe_callB (kr_all (K := K)) (by rfl) T.z_all (by decide +kernel) (pa_cons (pe_lc (own := [("public", 2), ("weight", 3)]) rfl sc_members_fault.nd (ki_sq (K := K) (pv 0)) (blkOk_by (own := [("public", 2), ("weight", 3)]) (N := ["members", "before", "public", "weight"]) (sc := defScope s_members_fault) (by decide +kernel)) (fun _ _ _ _ _ => kg_tup (K := K) (n := 2) rfl (pgs_cons (pg_name (i := 2) sc_members_fault.nd rfl (Or.inl rfl)) (pgs_cons (pg_name (i := 3) sc_members_fault.nd rfl (Or.inl rfl)) pgs_nil))) (fun _ _ _ _ _ => pts_nil) (fun _ _ _ _ _ => (pe_chain (op_le) (op_le) pe_int (pv 3) (pe_glob (v := .int 1000000) rfl T.c_GREATEST_WEIGHT.choose_spec ⟨_, rfl⟩)))) pa_nil)))) (pss_one (ps_ret pe_str)) pss_nil)
  (pss_one (ps_ret pe_non)))))), fn_g h fun x p => ?_⟩)
  change DS K _ (Wp.E.d _ :: (Wp.E.any :: (Wp.E.any :: (Wp.E.any :: [])))) _ _ _ _
  obtain ⟨ms, rfl⟩ : ∃ ms, ms = x := ⟨_, rfl⟩
  replace p : ms.length ≤ 100000 := p
  walk_at "d"
  refine ifd (fun g1 => ?_) (fun g1 => ?_)
  · walk_at "d"
    refine ifn (fun g2 => ?_) (fun g2 => ?_)
    · walk_at "d"
      unfold mfD
      rw [if_neg (by omega)]
    · walk_at "d"
      have hlen : 1 ≤ ms.length ∧ ms.length ≤ 64 := by omega
      unfold mfD
      rw [if_pos hlen]
      refine ds_for ?_
      walk_at "d"
      refine ⟨fun i ρ => ∃ b, ordM (-1) ms = ordM b (ms.drop i) ∧ ∃ e2 e3, ρ = [.d (mbD ms), .d (.int b), e2, e3], ⟨_, EnvLe.refl _, -1, rfl, _, _, rfl⟩, ?_, ?_⟩
      · rintro i d ρ hd ⟨b, ho, e2, e3, rfl⟩
        rw [List.getElem?_map] at hd
        obtain ⟨q, hq, rfl⟩ := Option.map_eq_some_iff.mp hd
        have hil := List.getElem?_eq_some_iff.mp hq
        rw [List.drop_eq_getElem_cons hil.1, hil.2, ordM] at ho
        walk_at "d"
        refine ifd (fun g => ?_) (fun g => ?_)
        · rw [if_pos g] at ho
          walk_at "d"
          rw [ho, if_neg Bool.false_ne_true]
        · rw [if_neg g] at ho
          walk_at "d"
          exact ⟨_, EnvLe.refl _, _, ho, _, _, rfl⟩
      · rintro ρ ⟨b, ho, e2, e3, rfl⟩
        rw [List.length_map, List.drop_length] at ho
        rw [show ordM (-1) ms = true from ho, if_pos rfl]
        walk_at "d"
        refine de_new (dn_map prT (fun p => D.bl (decide (1 ≤ p.2 ∧ p.2 ≤ 1000000))) ?_)
        walk_at "d"
        refine ⟨ms, rfl, by omega, fun i q hq => dgw_pair (by decide) (by decide) rfl ?_, ?_⟩
        · walk_at "d"
          refine ifd (fun h1 => ?_) (fun h1 => ?_)
          · walk_at "d"
            rw [show decide (1 ≤ q.2 ∧ q.2 ≤ 1000000) = decide (q.2 ≤ 1000000) from decide_eq_decide.mpr ⟨fun z => z.2, fun z => ⟨h1, z⟩⟩]
          · walk_at "d"
            rw [decide_eq_false (fun z => h1 z.1)]
        · rw [show ms.map (fun p => D.bl (decide (1 ≤ p.2 ∧ p.2 ≤ 1000000))) = (ms.map fun p => decide (1 ≤ p.2 ∧ p.2 ≤ 1000000)).map D.bl by rw [List.map_map]; rfl]
          walk_at "d"
          rw [show (ms.map fun p => decide (1 ≤ p.2 ∧ p.2 ≤ 1000000)).all id = wtM ms by unfold wtM; rw [List.all_map]; rfl]
          cases hw : wtM ms with
          | true =>
            walk_at "d"
            rw [if_pos rfl]
          | false =>
            walk_at "d"
            rw [if_neg Bool.false_ne_true]
  · walk_at "d"
    unfold mfD
    rw [if_neg (by omega)]
def nmM (ms : List (Int × Int)) : List Int := (ms.length : Int) :: ms.flatMap fun p => [p.1, p.2]
def sp_members_numbers (K : PySem.W.Frag) : Sp := spG K (fun ms : List (Int × Int) => [mbD ms]) (fun ms => ms.length ≤ 100000) fun ms => lI (nmM ms)
theorem ok_members_numbers (T : Txt K mg) : FnOk P w K mg base CX0 (1) (He.fAd K ("members_numbers", none)) T.fd_members_numbers ["members"] (sp_members_numbers K) := by
  refine T.members_numbers.F.ok sc_members_numbers (fun vs H Q E h => len_g h fun _ => rfl) (fun cdv A outer s H vs Q E hr h => ⟨_, PSs.nox (pss_cons (ps_set (i := 1) sc_members_numbers.nd rfl (Or.inl rfl) (pe_lst (pa_cons (pe_callB (kq_lenA (K := K)) (by rfl) T.z_len (by decide +kernel) (pa_cons (pv 0) pa_nil)) pa_nil)))
  (pss_cons (ps_for PassesOwn.never rfl (ki_sq (K := K) (pv 0)) (kg_tup (K := K) (n := 2) rfl (pgs_cons (pg_name (i := 2) sc_members_numbers.nd rfl (Or.inl rfl)) (pgs_cons (pg_name (i := 3) sc_members_numbers.nd rfl (Or.inl rfl)) pgs_nil))) (pss_one (ps_expr (pe_bm PySem.F.plainAttrs_list PySem.F.slot_list_extend PySem.F.type_list_extend mt_extend (pv 1) (pa_cons (pe_lst (pa_cons (pv 2) (pa_cons (pv 3) pa_nil))) pa_nil)))))
  (pss_one (ps_ret (pv 1))))), fn_g h fun x p => ?_⟩)
  change DS K _ (Wp.E.d _ :: (Wp.E.any :: (Wp.E.any :: (Wp.E.any :: [])))) _ _ _ _
  obtain ⟨ms, rfl⟩ : ∃ ms, ms = x := ⟨_, rfl⟩
  replace p : ms.length ≤ 100000 := p
  walk_at "d"
  refine ds_for ?_
  walk_at "d"
  refine ⟨fun i ρ => ∃ e2 e3, ρ = [.d (mbD ms), .own (((ms.length : Int) :: (ms.take i).flatMap fun p => [p.1, p.2]).map D.int), e2, e3], ⟨_, EnvLe.refl _, _, _, rfl⟩, ?_, ?_⟩
  · rintro i d ρ hd ⟨e2, e3, rfl⟩
    rw [List.getElem?_map] at hd
    obtain ⟨q, hq, rfl⟩ := Option.map_eq_some_iff.mp hd
    walk_at "d"
    have hil := (List.getElem?_eq_some_iff.mp hq).1
    have hfl : ((ms.take i).flatMap fun p => [p.1, p.2]).length = 2 * i := by
      have : ∀ l : List (Int × Int), (l.flatMap fun p => [p.1, p.2]).length = 2 * l.length := fun l => by
        induction l with
        | nil => rfl
        | cons a l ih => rw [List.flatMap_cons, List.length_append, ih, List.length_cons]; simp; omega
      rw [this, List.length_take]; omega
    refine ⟨_, rfl, ?_, ?_⟩
    · rw [List.length_map, List.length_cons, hfl]
      show 2 * i + 1 + 2 ≤ sizeLine
      exact Nat.le_trans (show 2 * i + 1 + 2 ≤ 300000 by omega) (by decide)
    walk_at "d"
    refine' ⟨_, EnvLe.refl _, _, _, by rw [List.take_add_one, hq, List.flatMap_append, List.map_cons (l := _ ++ _), List.map_append]; exact rfl⟩
  · rintro ρ ⟨e2, e3, rfl⟩
    walk_at "d"
    rw [List.length_map, List.take_length]
    rfl
def sp_total (K : PySem.W.Frag) : Sp := spG K (fun ms : List (Int × Int) => [mbD ms]) (fun ms => ms.length ≤ 100000) fun ms => .int (ms.map (·.2)).sum
theorem ok_total (T : Txt K mg) : FnOk P w K mg base CX0 (1) (He.fAd K ("total", none)) T.fd_total ["members"] (sp_total K) := by
  refine T.total.F.ok sc_total (fun vs H Q E h => len_g h fun _ => rfl) (fun cdv A outer s H vs Q E hr h => ⟨_, PSs.nox (pss_one (ps_ret (pe_callB (kr_sum (K := K)) (by rfl) T.z_sum (by decide +kernel) (pa_cons (pe_lc (own := [("public", 1), ("weight", 2)]) rfl sc_total.nd (ki_sq (K := K) (pv 0)) (blkOk_by (own := [("public", 1), ("weight", 2)]) (N := ["members", "public", "weight"]) (sc := defScope s_total) (by decide +kernel)) (fun _ _ _ _ _ => kg_tup (K := K) (n := 2) rfl (pgs_cons (pg_name (i := 1) sc_total.nd rfl (Or.inl rfl)) (pgs_cons (pg_name (i := 2) sc_total.nd rfl (Or.inl rfl)) pgs_nil))) (fun _ _ _ _ _ => pts_nil) (fun _ _ _ _ _ => (pv 2))) pa_nil)))), fn_g h fun x p => ?_⟩)
  change DS K _ (Wp.E.d _ :: (Wp.E.any :: (Wp.E.any :: []))) _ _ _ _
  obtain ⟨ms, rfl⟩ : ∃ ms, ms = x := ⟨_, rfl⟩
  replace p : ms.length ≤ 100000 := p
  walk_at "d"
  refine de_new (dn_map prT (fun p => D.int p.2) ?_)
  walk_at "d"
  refine ⟨ms, rfl, by omega, fun i q hq => dgw_pair (by decide) (by decide) rfl ?_, ?_⟩
  · walk_at "d"
    rfl
  · rw [show ms.map (fun p => D.int p.2) = (ms.map (·.2)).map D.int by rw [List.map_map]; rfl]
    walk_at "d"
    rfl
def sp_weight_of (K : PySem.W.Frag) : Sp := spG K (fun x : List (Int × Int) × Bool × List Int => [mbD x.1, sqD x.2.1 x.2.2]) (fun x => x.1.length ≤ 100000) fun x => .int ((x.1.filter fun p => decide (p.1 ∈ x.2.2)).map (·.2)).sum
theorem ok_weight_of (T : Txt K mg) : FnOk P w K mg base CX0 (1) (He.fAd K ("weight_of", none)) T.fd_weight_of ["members", "publics"] (sp_weight_of K) := by
  refine T.weight_of.F.ok sc_weight_of (fun vs H Q E h => len_g h fun _ => rfl) (fun cdv A outer s H vs Q E hr h => ⟨_, PSs.nox (pss_one (ps_ret (pe_callB (kr_sum (K := K)) (by rfl) T.z_sum (by decide +kernel) (pa_cons (pe_lc (own := [("public", 2), ("weight", 3)]) rfl sc_weight_of.nd (ki_sq (K := K) (pv 0)) (blkOk_by (own := [("public", 2), ("weight", 3)]) (N := ["members", "publics", "public", "weight"]) (sc := defScope s_weight_of) (by decide +kernel)) (fun _ _ _ _ _ => kg_tup (K := K) (n := 2) rfl (pgs_cons (pg_name (i := 2) sc_weight_of.nd rfl (Or.inl rfl)) (pgs_cons (pg_name (i := 3) sc_weight_of.nd rfl (Or.inl rfl)) pgs_nil))) (fun _ _ _ _ _ => (pts_one (pt_cmpR (kp_in (K := K)) (pv 2) (pv 1) rfl))) (fun _ _ _ _ _ => (pv 3))) pa_nil)))), fn_g h fun x p => ?_⟩)
  change DS K _ (Wp.E.d _ :: (Wp.E.d _ :: (Wp.E.any :: (Wp.E.any :: [])))) _ _ _ _
  obtain ⟨ms, b, ps⟩ := x
  replace p : ms.length ≤ 100000 := p
  dsimp only
  walk_at "d"
  refine de_new (dn_filt prT (fun p => D.int p.2) (fun p => decide (p.1 ∈ ps)) ?_)
  walk_at "d"
  refine ⟨ms, rfl, by omega, fun i q hq => dgw_pair (by decide) (by decide) rfl ?_, ?_⟩
  · walk_at "d"
    refine dr_inI (ns := ps) (by cases b; exact .inr rfl; exact .inl rfl) ?_
    rw [if_neg Bool.false_ne_true]
    walk_at "d"
    refine ⟨rfl, fun _ => ?_⟩
    walk_at "d"
    rfl
  · rw [show (ms.filter fun p => decide (p.1 ∈ ps)).map (fun p => D.int p.2) = ((ms.filter fun p => decide (p.1 ∈ ps)).map (·.2)).map D.int by rw [List.map_map]; rfl]
    walk_at "d"
    rfl

end
section
def sp_members_root (K : PySem.W.Frag) : Sp := spG K (fun x : Int × List (Int × Int) => [Hs K x.1, mbD x.2]) (fun x => 0 ≤ x.1 ∧ x.1 ≤ 128 ∧ x.2.length ≤ 1000 ∧ (limbs (nmM x.2)).length ≤ 99000) fun x => .int (dgst x.1 9 (nmM x.2))
theorem ok_members_root (T : Txt K mg) : FnOk P w K mg base CX0 (3) (He.fAd K ("members_root", none)) T.fd_members_root ["hasher", "members"] (sp_members_root K) := by
  refine T.members_root.F.ok sc_members_root (fun vs H Q E h => len_g h fun _ => rfl) (fun cdv A outer s H vs Q E hr h => ⟨_, PSs.nox (pss_one (ps_ret (pe_meth (pv 0) T.cl_Hasher T.me_Hasher_digest (ok_Hasher_digest T) (hr.mono (by omega)) T.Hasher_digest.b .nil pass0 (pa_cons (pe_glob (v := .int 9) rfl T.c_MEMBERS_TAG.choose_spec ⟨_, rfl⟩) (pa_cons (pe_call (ok_members_numbers T) (hr.mono (by omega)) (by rfl) T.members_numbers.g T.members_numbers.F.kp T.members_numbers.b .nil pass0 (pa_cons (pv 1) pa_nil)) pa_nil))))), fn_g h fun x p => ?_⟩)
  change DS K _ (Wp.E.d _ :: (Wp.E.d _ :: [])) _ _ _ _
  obtain ⟨wd, ms⟩ := x
  obtain ⟨w0, w128, hl, hz⟩ := p
  dsimp only at w0 w128 hl hz ⊢
  walk_at "d"
  refine dc_g ms rfl (by show ms.length ≤ 100000; omega) ?_
  walk_at "D"
  refine dc_digest (nmM ms) (.inl rfl) w0 w128 hz ?_
  walk_at "D"
  rfl
def sp_more_than (K : PySem.W.Frag) : Sp := spG K (fun x : List (Int × Int) × Bool × List Int × Int × Int => [mbD x.1, sqD x.2.1 x.2.2.1, .int x.2.2.2.1, .int x.2.2.2.2]) (fun x => x.1.length ≤ 100000 ∧ (-2 ^ 64 < x.2.2.2.1 ∧ x.2.2.2.1 < 2 ^ 64) ∧ (-2 ^ 64 < x.2.2.2.2 ∧ x.2.2.2.2 < 2 ^ 64)) fun x => .bl (decide ((x.1.map (·.2)).sum * x.2.2.2.1 < ((x.1.filter fun p => decide (p.1 ∈ x.2.2.1)).map (·.2)).sum * x.2.2.2.2))
theorem ok_more_than (T : Txt K mg) : FnOk P w K mg base CX0 (2) (He.fAd K ("more_than", none)) T.fd_more_than ["members", "publics", "parts", "whole"] (sp_more_than K) := by
  refine T.more_than.F.ok sc_more_than (fun vs H Q E h => len_g h fun _ => rfl) (fun cdv A outer s H vs Q E hr h => ⟨_, PSs.nox (pss_one (ps_ret (pe_cmpR (op_gt) (pe_op op_mul (pe_call (ok_weight_of T) (hr.mono (by omega)) (by rfl) T.weight_of.g T.weight_of.F.kp T.weight_of.b .nil pass0 (pa_cons (pv 0) (pa_cons (pv 1) pa_nil))) (pv 3)) (pe_op op_mul (pe_call (ok_total T) (hr.mono (by omega)) (by rfl) T.total.g T.total.F.kp T.total.b .nil pass0 (pa_cons (pv 0) pa_nil)) (pv 2)) (nomark _)))), fn_g h fun x p => ?_⟩)
  change DS K _ (Wp.E.d _ :: (Wp.E.d _ :: (Wp.E.d _ :: (Wp.E.d _ :: [])))) _ _ _ _
  obtain ⟨ms, b, ps, c, d⟩ := x
  obtain ⟨hl, hc, hd⟩ := p
  dsimp only at hl hc hd ⊢
  walk_at "d"
  refine dc_g (ms, b, ps) rfl hl ?_
  walk_at "D"
  refine dc_g ms rfl hl ?_
  walk_at "D"
  rfl
abbrev vtT (v : Int × List Int) : D := .tup [.int v.1, tI v.2]
abbrev bdM (ks : List Int) : List (Int × Bool) := ks.map fun k => (k, true)
def hsM (wd msg : Int) (ms : List Int) : List Int → List (Int × List Int) → List Int
  | acc, [] => acc
  | acc, v :: vs => if v.1 ∈ ms ∧ v.1 ∉ acc ∧ verOk wd v.1 msg v.2 then hsM wd msg ms (acc ++ [v.1]) vs else hsM wd msg ms acc vs
def sp_signers (K : PySem.W.Frag) : Sp := spG K (fun x : Int × Int × List (Int × Int) × Bool × List (Int × List Int) => [Hs K x.1, .int x.2.1, mbD x.2.2.1, match x.2.2.2.1 with | true => .tup (x.2.2.2.2.map vtT) | false => .lst (x.2.2.2.2.map vtT)]) (fun x => 4 ≤ x.1 ∧ x.1 ≤ 128 ∧ x.2.2.1.length ≤ 1000 ∧ x.2.2.2.2.length ≤ 60) fun x => .tup ((srt (hsM x.1 x.2.1 (x.2.2.1.map (·.1)) [] x.2.2.2.2)).map D.int)
theorem putP_len' {m : List (Key × D)} {k : Key} {v : D} : (putP m k v).length ≤ m.length + 1 := by
  have := congrArg List.length (putP_keys (m := m) (k := k) (v := v))
  rw [List.length_map] at this
  rw [this]
  split <;> simp
theorem bd_get {ks : List Int} {k : Int} : (getP (mM D.bl (bdM ks)) (Sum.inl k)).isSome = decide (k ∈ ks) := by
  rw [get_mM, Option.isSome_map]
  by_cases z : k ∈ ks
  · rw [decide_eq_true z]
    exact getP_isSome.mpr (by rw [List.map_map]; exact List.mem_map.mpr ⟨k, z, rfl⟩)
  · rw [decide_eq_false z]
    cases h : (getP (bdM ks) k).isSome with
    | false => rfl
    | true =>
      have := getP_isSome.mp h
      rw [List.map_map] at this
      obtain ⟨k', h1, h2⟩ := List.mem_map.mp this
      exact absurd (h2 ▸ h1) z
theorem bd_put {ks : List Int} {k : Int} (h : k ∉ ks) : putP (mM D.bl (bdM ks)) (Sum.inl k) (D.bl true) = mM D.bl (bdM (ks ++ [k])) := by
  rw [put_mM, putP_new (by rw [List.map_map]; intro z; obtain ⟨k', h1, h2⟩ := List.mem_map.mp z; exact h (h2 ▸ h1))]
  unfold bdM
  rw [List.map_append]
  rfl
local macro_rules | `(tactic| walk_at "d1") => `(tactic| first
  | with_reducible refine ds_ownM (dn_dnew ?_)
  | with_reducible refine de_new (dn_sortL ?_)
  | with_reducible refine de_new (dn_list ?_))
theorem ok_signers (T : Txt K mg) : FnOk P w K mg base CX0 (7) (He.fAd K ("signers", none)) T.fd_signers ["hasher", "message", "members", "votes"] (sp_signers K) := by
  refine T.signers.F.ok sc_signers (fun vs H Q E h => len_g h fun _ => rfl) (fun cdv A outer s H vs Q E hr h => ⟨_, PSs.nox (pss_cons (ps_setDc (i := 4) (own := [("public", 6), ("weight", 8)]) rfl sc_signers.nd rfl (Or.inl rfl) rfl (sw_trueD rfl rfl rfl (by decide +kernel)) (ki_sq (K := K) (pv 2)) (blkOk_by (own := [("public", 6), ("weight", 8)]) (N := ["hasher", "message", "members", "votes", "is_member", "has_signed", "public", "signature", "weight"]) (sc := defScope s_signers) (by decide +kernel)) (fun _ _ _ _ _ => kg_tup (K := K) (n := 2) rfl (pgs_cons (pg_name (i := 6) sc_signers.nd rfl (Or.inl rfl)) (pgs_cons (pg_name (i := 8) sc_signers.nd rfl (Or.inl rfl)) pgs_nil))) (fun _ _ _ _ _ => pts_nil) (fun _ _ _ _ _ => (pv 6)) (fun _ _ _ _ _ => pe_bl))
  (pss_cons (ps_set (i := 5) sc_signers.nd rfl (Or.inl rfl) pe_dnewK)
  (pss_cons (ps_for PassesOwn.never rfl (ki_sq (K := K) (pv 3)) (kg_tup (K := K) (n := 2) rfl (pgs_cons (pg_name (i := 6) sc_signers.nd rfl (Or.inl rfl)) (pgs_cons (pg_name (i := 7) sc_signers.nd rfl (Or.inl rfl)) pgs_nil))) (pss_one (ps_if (PW.pt (pw_and (pt_cmp (pc_din (hu_of hr) (pv 6) (pv 4))) (pw_and1 (pt_cmp (pc_dnotin (hu_of hr) (pv 6) (pv 5)))))) (pss_one (ps_if (pt_val (pe_call (ok_verify T) (hr.mono (by omega)) (by rfl) T.verify.g T.verify.F.kp T.verify.b .nil pass0 (pa_cons (pv 0) (pa_cons (pv 6) (pa_cons (pv 1) (pa_cons (pv 7) pa_nil)))))) (pss_one (ps_dput (hu_of hr) (pv 5) (pv 6) pe_bl rfl)) pss_nil)) pss_nil)))
  (pss_one (ps_ret (pe_callTy (kq_tuple (K := K)) (by rfl) T.z_tuple (by decide +kernel) (pa_cons (pe_callB (kr_sortA (K := K)) (by rfl) T.z_sorted (by decide +kernel) (pa_cons (pe_callTy (kq_listA (K := K)) (by rfl) T.z_list (by decide +kernel) (pa_cons (pv 5) pa_nil)) pa_nil)) pa_nil))))))), fn_g h fun x p => ?_⟩)
  change DS K _ (Wp.E.d _ :: (Wp.E.d _ :: (Wp.E.d _ :: (Wp.E.d _ :: (Wp.E.any :: (Wp.E.any :: (Wp.E.any :: (Wp.E.any :: (Wp.E.any :: []))))))))) _ _ _ _
  obtain ⟨wd, msg, ms, b, vts⟩ := x
  obtain ⟨w4, w128, hm, hv⟩ := p
  dsimp only at w4 w128 hm hv ⊢
  walk_at "d"
  refine de_newD (dn_dc ?_)
  walk_at "d"
  refine ⟨by rw [List.length_map]; omega, fun i m => (∀ k : Int, (getP m (Sum.inl k)).isSome = decide (k ∈ (ms.take i).map (·.1))) ∧ m.length ≤ i, ⟨fun k => by simp; rfl, Nat.le_refl _⟩, fun i m h => h.2, fun i d m hd ⟨h1, h2⟩ => ?_, fun m ⟨h1, _⟩ => ?_⟩
  · rw [List.getElem?_map] at hd
    obtain ⟨q, hq, rfl⟩ := Option.map_eq_some_iff.mp hd
    refine dgw_pair (by decide) (by decide) rfl ?_
    walk_at "d"
    refine ⟨fun k => ?_, Nat.le_trans putP_len' (by omega)⟩
    rw [getP_put, List.take_add_one, hq, List.map_append]
    by_cases z : (Sum.inl k : Key) = Sum.inl q.1
    · rw [if_pos z]
      injection z with z
      rw [decide_eq_true (List.mem_append_right _ (by rw [z]; exact List.mem_singleton.mpr rfl))]
      rfl
    · rw [if_neg z, h1]
      refine decide_eq_decide.mpr ⟨fun h => List.mem_append_left _ h, fun h => ?_⟩
      rcases List.mem_append.mp h with h | h
      · exact h
      · exact absurd (by rw [List.mem_singleton.mp h]) z
  rw [List.length_map, List.take_length] at h1
  walk_at "d"
  cases b
  all_goals
    dsimp only
    refine ds_for ?_
    walk_at "d"
    refine ⟨fun i ρ => ∃ acc : List Int, acc.Nodup ∧ acc.length ≤ i ∧ hsM wd msg (ms.map (·.1)) [] vts = hsM wd msg (ms.map (·.1)) acc (vts.drop i) ∧ ∃ e6 e7 e8, ρ = [.d (Hs K wd), .d (.int msg), .d (mbD ms), _, .d (.dc m), .dm (mM D.bl (bdM acc)), e6, e7, e8], ⟨_, EnvLe.refl _, [], List.nodup_nil, Nat.le_refl _, rfl, _, _, _, rfl⟩, ?_, ?_⟩
    · rintro i d ρ hd ⟨acc, hnd, hl, hh, e6, e7, e8, rfl⟩
      rw [List.getElem?_map] at hd
      obtain ⟨q, hq, rfl⟩ := Option.map_eq_some_iff.mp hd
      have hil := List.getElem?_eq_some_iff.mp hq
      have hi1 := hil.1
      rw [List.drop_eq_getElem_cons hil.1, hil.2, hsM] at hh
      walk_at "d"
      rw [show (getP m (Sum.inl q.1)).isSome = decide (q.1 ∈ ms.map (·.1)) from h1 q.1]
      refine ifd (fun g1 => ?_) (fun g1 => ?_)
      · walk_at "d"
        rw [bd_get]
        refine ifn (fun g2 => ?_) (fun g2 => ?_)
        · walk_at "d"
          refine dc_verify w4 w128 ?_
          walk_at "D"
          refine ifd (fun g3 => ?_) (fun g3 => ?_)
          · rw [if_pos ⟨g1, g2, g3⟩] at hh
            walk_at "d"
            refine ⟨_, rfl, ?_⟩
            walk_at "d"
            refine ⟨by rw [mM_len, List.length_map]; omega, ?_⟩
            walk_at "d"
            rw [bd_put g2]
            exact ⟨_, EnvLe.refl _, acc ++ [q.1], List.nodup_append.mpr ⟨hnd, by simp, fun a ha b hb => by rw [List.mem_singleton.mp hb]; exact fun z => g2 (z ▸ ha)⟩, by rw [List.length_append]; show acc.length + 1 ≤ _; omega, hh, _, _, _, rfl⟩
          · rw [if_neg (fun z => g3 z.2.2)] at hh
            walk_at "d"
            exact ⟨_, EnvLe.refl _, acc, hnd, by omega, hh, _, _, _, rfl⟩
        · rw [if_neg (fun z => z.2.1 g2)] at hh
          walk_at "d"
          exact ⟨_, EnvLe.refl _, acc, hnd, by omega, hh, _, _, _, rfl⟩
      · rw [if_neg (fun z => g1 z.1)] at hh
        walk_at "d"
        exact ⟨_, EnvLe.refl _, acc, hnd, by omega, hh, _, _, _, rfl⟩
    · rintro ρ ⟨acc, hnd, hl, hh, e6, e7, e8, rfl⟩
      rw [List.length_map, List.drop_length] at hh
      walk_at "d"
      refine ⟨acc, .inl (by rw [show (bdM acc).map (fun x => x.1) = acc by rw [List.map_map]; exact List.map_id' acc]), ?_⟩
      walk_at "d"
      rw [show hsM wd msg (ms.map (·.1)) [] vts = acc from hh]

end
theorem flat_len : ∀ l : List (Int × Int), (l.flatMap fun p => [p.1, p.2]).length = 2 * l.length
  | [] => rfl
  | a :: l => by rw [List.flatMap_cons, List.length_append, flat_len l, List.length_cons]; simp; omega
theorem nmM_len (ms : List (Int × Int)) : (nmM ms).length = 1 + 2 * ms.length := by
  unfold nmM
  rw [List.length_cons, flat_len]; omega

section
/-! ### headers and blocks by data -/
structure Hdr where
  chain : Int
  height : Int
  time : Int
  previous : Int
  state : Int
  members : Int
  following : Int
def Hdr.fs (h : Hdr) : List Int := [h.chain, h.height, h.time, h.previous, h.state, h.members, h.following]
theorem Hdr.fs_inj {a b : Hdr} (h : a.fs = b.fs) : a = b := by
  obtain ⟨a1, a2, a3, a4, a5, a6, a7⟩ := a
  obtain ⟨b1, b2, b3, b4, b5, b6, b7⟩ := b
  unfold Hdr.fs at h
  dsimp only at h
  simp only [List.cons.injEq, and_true] at h
  obtain ⟨rfl, rfl, rfl, rfl, rfl, rfl, rfl⟩ := h
  rfl
structure Blk where
  hd : Hdr
  ms : List (Int × Int)
  fo : List (Int × Int)
  vs : List (Int × List Int)
abbrev hdK : List Str := [Str.ofString "chain", Str.ofString "height", Str.ofString "time", Str.ofString "previous", Str.ofString "state", Str.ofString "members", Str.ofString "following"]
abbrev hdV (h : Hdr) : List D := [.int h.chain, .int h.height, .int h.time, .int h.previous, .int h.state, .int h.members, .int h.following]
abbrev hdD (K : PySem.W.Frag) (h : Hdr) : D := .obj (He.ga K "Header") hdK (hdV h)
abbrev bkK : List Str := [Str.ofString "header", Str.ofString "members", Str.ofString "following", Str.ofString "votes"]
abbrev vtL (vs : List (Int × List Int)) : D := .tup (vs.map vtT)
abbrev bkD (K : PySem.W.Frag) (b : Blk) : D := .obj (He.ga K "Block") bkK [hdD K b.hd, mbD b.ms, mbD b.fo, vtL b.vs]
def sqP {α : Type} (f : α → D) (b : Bool) (ms : List α) : D := match b with | true => .tup (ms.map f) | false => .lst (ms.map f)
def sp_Header___init__ (K : PySem.W.Frag) : Sp := spO K (fun _ : Hdr => .ins (He.ga K "Header") [] []) (fun _ => []) (fun h => hdV h) (fun _ => True) fun h d w' => d = .non ∧ w' = .ins (He.ga K "Header") hdK (hdV h)
section
local macro_rules | `(tactic| walk_at "d1") => `(tactic| first
  | with_reducible refine dsx_seq ?_
  | with_reducible refine dsx_if ?_
  | with_reducible refine dsx_next ?_
  | with_reducible refine dsx_retN ?_
  | (refine dsx_asg (ds_asgMO ⟨_, _, _, rfl, by decide +kernel, ?_⟩))
  | (refine dsx_asg (ds_asgCO ?_))
  | with_reducible refine dsx_asg ?_
  | with_reducible refine dae_cons ?_
  | with_reducible refine dae_nil ?_
  | (refine dsx_retMO ⟨_, _, _, rfl, by decide +kernel, ?_⟩)
  | (refine dsx_retCO ?_)
  | with_reducible refine dsx_ret ?_
  | (with_reducible refine dsx_fld ?_; refine ds_fldO ?_)
  | (refine ⟨_, _, _, _, rfl, by assumption, by assumption, Nat.le_of_ble_eq_true rfl, ?_⟩; show InsTo _ _ _ _ _ _)
  | ((with_reducible refine' insTo_new ?hncc ?hlcc ?e1cc ?e2cc ?_); (case hncc => decide +kernel); (case hlcc => rfl); (case e1cc => first | (dsimp only [List.cons_append, List.nil_append]; done) | (dsimp only [List.cons_append, List.nil_append]; exact rfl)); (case e2cc => first | (dsimp only [List.cons_append, List.nil_append]; done) | (dsimp only [List.cons_append, List.nil_append]; exact rfl)))
  | (with_reducible refine dsx_fldaug ?_; refine ds_fldaugO ⟨_, _, _, _, _, rfl, by assumption, by assumption, rfl, Nat.le_of_ble_eq_true rfl, ?_⟩)
  | (with_reducible refine dsx_dput ?_; refine ds_dputA ?_)
  | with_reducible refine dsx_drop ?_
  | (refine de_fldO ⟨_, _, _, _, _, rfl, by assumption, by assumption, rfl, ?_⟩))

theorem ok_Header___init__ (T : Txt K mg) : FnOk P w K mg base CX0 (1) (He.fAd K ("Header", some "__init__")) T.fd_Header___init__ ["self", "chain", "height", "time", "previous", "state", "members", "following"] (sp_Header___init__ K) := by
  refine T.Header___init__.F.ok sc_Header___init__ (fun vs H Q E h => len_oa h fun _ => rfl) (fun cdv A outer s H vs Q E hr h => ⟨_, PSs.nox (pss_cons (ks_fld (K := K) (pv 0) (pv 1) rfl)
  (pss_cons (ks_fld (K := K) (pv 0) (pv 2) rfl)
  (pss_cons (ks_fld (K := K) (pv 0) (pv 3) rfl)
  (pss_cons (ks_fld (K := K) (pv 0) (pv 4) rfl)
  (pss_cons (ks_fld (K := K) (pv 0) (pv 5) rfl)
  (pss_cons (ks_fld (K := K) (pv 0) (pv 6) rfl)
  (pss_one (ks_fld (K := K) (pv 0) (pv 7) rfl)))))))), fn_o h fun x a p => ?_⟩)
  change DSX K _ (Wp.E.oa _ _ :: (Wp.E.d _ :: (Wp.E.d _ :: (Wp.E.d _ :: (Wp.E.d _ :: (Wp.E.d _ :: (Wp.E.d _ :: (Wp.E.d _ :: [])))))))) _ _
  have c0 := T.cl_Header
  have n1 := T.n_Header_chain
  have n2 := T.n_Header_height
  have n3 := T.n_Header_time
  have n4 := T.n_Header_previous
  have n5 := T.n_Header_state
  have n6 := T.n_Header_members
  have n7 := T.n_Header_following
  walk_at "d"
  exact ⟨_, rfl, rfl, rfl⟩
end
def sp_Header_fields (K : PySem.W.Frag) : Sp := spG K (fun h : Hdr => [hdD K h]) (fun _ => True) fun h => tI h.fs
theorem ok_Header_fields (T : Txt K mg) : FnOk P w K mg base CX0 (1) (He.fAd K ("Header", some "fields")) T.fd_Header_fields ["self"] (sp_Header_fields K) := by
  refine T.Header_fields.F.ok sc_Header_fields (fun vs H Q E h => len_g h fun _ => rfl) (fun cdv A outer s H vs Q E hr h => ⟨_, PSs.nox (pss_one (ps_ret (pe_tup (pa_cons (ke_fld (K := K) (pv 0)) (pa_cons (ke_fld (K := K) (pv 0)) (pa_cons (ke_fld (K := K) (pv 0)) (pa_cons (ke_fld (K := K) (pv 0)) (pa_cons (ke_fld (K := K) (pv 0)) (pa_cons (ke_fld (K := K) (pv 0)) (pa_cons (ke_fld (K := K) (pv 0)) pa_nil)))))))))), fn_g h fun x p => ?_⟩)
  change DS K _ (Wp.E.d _ :: []) _ _ _ _
  obtain ⟨h, rfl⟩ : ∃ h, h = x := ⟨_, rfl⟩
  have c0 := T.cl_Header
  have n1 := T.n_Header_chain
  have n2 := T.n_Header_height
  have n3 := T.n_Header_time
  have n4 := T.n_Header_previous
  have n5 := T.n_Header_state
  have n6 := T.n_Header_members
  have n7 := T.n_Header_following
  walk_at "d"
  rfl
/-- the other one of a comparison -/
def flatD (d : D) : Prop := (∃ i, d = .int i) ∨ ∃ ds, d = .tup ds
theorem flat_tyf {C : Addr} {d : D} (h : flatD d) : d.tyf C := by
  rcases h with ⟨i, rfl⟩ | ⟨ds, rfl⟩
  · trivial
  · trivial
theorem flat_isf {d : D} (h : flatD d) : d.isO = false := by
  rcases h with ⟨i, rfl⟩ | ⟨ds, rfl⟩
  · rfl
  · rfl
def hdO (K : PySem.W.Frag) : Hdr ⊕ D → D
  | .inl h => hdD K h
  | .inr d => d
def hdQ (h : Hdr) : Hdr ⊕ D → Bool
  | .inl g => decide (h.fs = g.fs)
  | .inr _ => false
def sp_Header___eq__ (K : PySem.W.Frag) : Sp := spG K (fun x : Hdr × (Hdr ⊕ D) => [hdD K x.1, hdO K x.2]) (fun x => ∀ d, x.2 = .inr d → flatD d) fun x => .bl (hdQ x.1 x.2)
theorem hdQ_f {h g : Hdr} (n : ¬ h = g) : hdQ h (.inl g) = false := decide_eq_false fun z => n (Hdr.fs_inj z)
section
local macro_rules | `(tactic| walk_at "d1") => `(tactic| with_reducible refine de_isOwn (by assumption) (by assumption) ?_)
theorem ok_Header___eq__ (T : Txt K mg) : FnOk P w K mg base CX0 (1) (He.fAd K ("Header", some "__eq__")) T.fd_Header___eq__ ["self", "other"] (sp_Header___eq__ K) := by
  refine T.Header___eq__.F.ok sc_Header___eq__ (fun vs H Q E h => len_g h fun _ => rfl) (fun cdv A outer s H vs Q E hr h => ⟨_, PSs.nox (pss_one (ps_ret (pe_and (pe_callB (kr_isi (K := K)) (by rfl) T.z_isinstance (by decide +kernel) (pa_cons (pv 1) (pa_cons (pe_glob (v := .ref (He.ga K "Header")) (by rfl) T.g_Header rfl) pa_nil))) (pe_and (pe_cmpR (kp_eqB (K := K) hr.units) (ke_fld (K := K) (pv 0)) (ke_fld (K := K) (pv 1)) (nomark _)) (pe_and (pe_cmpR (kp_eqB (K := K) hr.units) (ke_fld (K := K) (pv 0)) (ke_fld (K := K) (pv 1)) (nomark _)) (pe_and (pe_cmpR (kp_eqB (K := K) hr.units) (ke_fld (K := K) (pv 0)) (ke_fld (K := K) (pv 1)) (nomark _)) (pe_and (pe_cmpR (kp_eqB (K := K) hr.units) (ke_fld (K := K) (pv 0)) (ke_fld (K := K) (pv 1)) (nomark _)) (pe_and (pe_cmpR (kp_eqB (K := K) hr.units) (ke_fld (K := K) (pv 0)) (ke_fld (K := K) (pv 1)) (nomark _)) (pe_and (pe_cmpR (kp_eqB (K := K) hr.units) (ke_fld (K := K) (pv 0)) (ke_fld (K := K) (pv 1)) (nomark _)) (pe_one (pe_cmpR (kp_eqB (K := K) hr.units) (ke_fld (K := K) (pv 0)) (ke_fld (K := K) (pv 1)) (nomark _)))))))))))), fn_g h fun x p => ?_⟩)
  change DS K _ (Wp.E.d _ :: (Wp.E.d _ :: [])) _ _ _ _
  obtain ⟨h, o⟩ := x
  have c0 := T.cl_Header
  have n1 := T.n_Header_chain
  have n2 := T.n_Header_height
  have n3 := T.n_Header_time
  have n4 := T.n_Header_previous
  have n5 := T.n_Header_state
  have n6 := T.n_Header_members
  have n7 := T.n_Header_following
  have e0 := T.eq_Header
  cases o with
  | inr d =>
    have hf : flatD d := p d rfl
    dsimp only [hdO, hdQ]
    walk_at "d"
    refine ⟨flat_tyf hf, ?_⟩
    rw [flat_isf hf]
    walk_at "d"
    rfl
  | inl g =>
    dsimp only [hdO]
    walk_at "d"
    refine ⟨rfl, ?_⟩
    rw [show (hdD K g).isO = true from rfl]
    walk_at "d"
    refine ifd (fun g1 => ?_) (fun g1 => ?_)
    rotate_left
    · walk_at "d"
      rw [hdQ_f (fun z => g1 (by rw [z]))]
    walk_at "d"
    refine ifd (fun g2 => ?_) (fun g2 => ?_)
    rotate_left
    · walk_at "d"
      rw [hdQ_f (fun z => g2 (by rw [z]))]
    walk_at "d"
    refine ifd (fun g3 => ?_) (fun g3 => ?_)
    rotate_left
    · walk_at "d"
      rw [hdQ_f (fun z => g3 (by rw [z]))]
    walk_at "d"
    refine ifd (fun g4 => ?_) (fun g4 => ?_)
    rotate_left
    · walk_at "d"
      rw [hdQ_f (fun z => g4 (by rw [z]))]
    walk_at "d"
    refine ifd (fun g5 => ?_) (fun g5 => ?_)
    rotate_left
    · walk_at "d"
      rw [hdQ_f (fun z => g5 (by rw [z]))]
    walk_at "d"
    refine ifd (fun g6 => ?_) (fun g6 => ?_)
    rotate_left
    · walk_at "d"
      rw [hdQ_f (fun z => g6 (by rw [z]))]
    walk_at "d"
    rw [show hdQ h (.inl g) = decide (h.following = g.following) from decide_eq_decide.mpr ⟨fun z => by rw [Hdr.fs_inj z], fun z => by unfold Hdr.fs; rw [g1, g2, g3, g4, g5, g6, z]⟩]
end
def sp_Block___init__ (K : PySem.W.Frag) : Sp := spO K (fun _ : Hdr × (Bool × List (Int × Int)) × (Bool × List (Int × Int)) × (Bool × List (Int × List Int)) => .ins (He.ga K "Block") [] []) (fun _ => []) (fun x => [hdD K x.1, sqP prT x.2.1.1 x.2.1.2, sqP prT x.2.2.1.1 x.2.2.1.2, sqP vtT x.2.2.2.1 x.2.2.2.2]) (fun _ => True) fun x d w' => d = .non ∧ w' = .ins (He.ga K "Block") bkK [hdD K x.1, mbD x.2.1.2, mbD x.2.2.1.2, vtL x.2.2.2.2]
section
local macro_rules | `(tactic| walk_at "d1") => `(tactic| first
  | with_reducible refine dsx_seq ?_
  | with_reducible refine dsx_if ?_
  | with_reducible refine dsx_next ?_
  | with_reducible refine dsx_retN ?_
  | (refine dsx_asg (ds_asgMO ⟨_, _, _, rfl, by decide +kernel, ?_⟩))
  | (refine dsx_asg (ds_asgCO ?_))
  | with_reducible refine dsx_asg ?_
  | with_reducible refine dae_cons ?_
  | with_reducible refine dae_nil ?_
  | (refine dsx_retMO ⟨_, _, _, rfl, by decide +kernel, ?_⟩)
  | (refine dsx_retCO ?_)
  | with_reducible refine dsx_ret ?_
  | (with_reducible refine dsx_fld ?_; refine ds_fldO ?_)
  | (refine ⟨_, _, _, _, rfl, by assumption, by assumption, Nat.le_of_ble_eq_true rfl, ?_⟩; show InsTo _ _ _ _ _ _)
  | ((with_reducible refine' insTo_new ?hncc ?hlcc ?e1cc ?e2cc ?_); (case hncc => decide +kernel); (case hlcc => rfl); (case e1cc => first | (dsimp only [List.cons_append, List.nil_append]; done) | (dsimp only [List.cons_append, List.nil_append]; exact rfl)); (case e2cc => first | (dsimp only [List.cons_append, List.nil_append]; done) | (dsimp only [List.cons_append, List.nil_append]; exact rfl)))
  | (with_reducible refine dsx_fldaug ?_; refine ds_fldaugO ⟨_, _, _, _, _, rfl, by assumption, by assumption, rfl, Nat.le_of_ble_eq_true rfl, ?_⟩)
  | (with_reducible refine dsx_dput ?_; refine ds_dputA ?_)
  | with_reducible refine dsx_drop ?_
  | (refine de_fldO ⟨_, _, _, _, _, rfl, by assumption, by assumption, rfl, ?_⟩))

theorem ok_Block___init__ (T : Txt K mg) : FnOk P w K mg base CX0 (1) (He.fAd K ("Block", some "__init__")) T.fd_Block___init__ ["self", "header", "members", "following", "votes"] (sp_Block___init__ K) := by
  refine T.Block___init__.F.ok sc_Block___init__ (fun vs H Q E h => len_oa h fun _ => rfl) (fun cdv A outer s H vs Q E hr h => ⟨_, PSs.nox (pss_cons (ks_fld (K := K) (pv 0) (pv 1) rfl)
  (pss_cons (ks_fld (K := K) (pv 0) (pe_callTy (kq_tuple (K := K)) (by rfl) T.z_tuple (by decide +kernel) (pa_cons (pv 2) pa_nil)) rfl)
  (pss_cons (ks_fld (K := K) (pv 0) (pe_callTy (kq_tuple (K := K)) (by rfl) T.z_tuple (by decide +kernel) (pa_cons (pv 3) pa_nil)) rfl)
  (pss_one (ks_fld (K := K) (pv 0) (pe_callTy (kq_tuple (K := K)) (by rfl) T.z_tuple (by decide +kernel) (pa_cons (pv 4) pa_nil)) rfl))))), fn_o h fun x a p => ?_⟩)
  change DSX K _ (Wp.E.oa _ _ :: (Wp.E.d _ :: (Wp.E.d _ :: (Wp.E.d _ :: (Wp.E.d _ :: []))))) _ _
  obtain ⟨h, ⟨b1, ms⟩, ⟨b2, fo⟩, ⟨b3, vs⟩⟩ := x
  have c0 := T.cl_Block
  have n1 := T.n_Block_header
  have n2 := T.n_Block_members
  have n3 := T.n_Block_following
  have n4 := T.n_Block_votes
  cases b1 <;> cases b2 <;> cases b3
  all_goals
    dsimp only [sqP]
    walk_at "d"
    exact ⟨_, rfl, rfl, rfl⟩
end
theorem hdr_lim {h : Hdr} (hb : ∀ n ∈ h.fs, Bd n) : (limbs h.fs).length ≤ 99000 := limbs_bd (show 7 ≤ 120 by decide) hb
def hdW (wd : Int) (h : Hdr) : Int := dgst wd 8 h.fs
def vmW (wd : Int) (h : Hdr) : Int := dgst wd 10 [hdW wd h]
def sp_header_digest (K : PySem.W.Frag) : Sp := spG K (fun x : Int × Hdr => [Hs K x.1, hdD K x.2]) (fun x => 0 ≤ x.1 ∧ x.1 ≤ 128 ∧ ∀ n ∈ x.2.fs, Bd n) fun x => .int (hdW x.1 x.2)
theorem ok_header_digest (T : Txt K mg) : FnOk P w K mg base CX0 (3) (He.fAd K ("header_digest", none)) T.fd_header_digest ["hasher", "header"] (sp_header_digest K) := by
  refine T.header_digest.F.ok sc_header_digest (fun vs H Q E h => len_g h fun _ => rfl) (fun cdv A outer s H vs Q E hr h => ⟨_, PSs.nox (pss_one (ps_ret (pe_meth (pv 0) T.cl_Hasher T.me_Hasher_digest (ok_Hasher_digest T) (hr.mono (by omega)) T.Hasher_digest.b .nil pass0 (pa_cons (pe_glob (v := .int 8) rfl T.c_HEADER_TAG.choose_spec ⟨_, rfl⟩) (pa_cons (pe_meth0 (pv 1) T.cl_Header T.me_Header_fields (ok_Header_fields T) (hr.mono (by omega)) T.Header_fields.b .nil pass0) pa_nil))))), fn_g h fun x p => ?_⟩)
  change DS K _ (Wp.E.d _ :: (Wp.E.d _ :: [])) _ _ _ _
  obtain ⟨wd, h⟩ := x
  obtain ⟨w0, w128, hb⟩ := p
  dsimp only at w0 w128 hb ⊢
  walk_at "d"
  refine dc_g h rfl trivial ?_
  walk_at "D"
  refine dc_digest h.fs (.inr rfl) w0 w128 (hdr_lim hb) ?_
  walk_at "D"
  rfl
def sp_vote_message (K : PySem.W.Frag) : Sp := spG K (fun x : Int × Hdr => [Hs K x.1, hdD K x.2]) (fun x => 4 ≤ x.1 ∧ x.1 ≤ 128 ∧ ∀ n ∈ x.2.fs, Bd n) fun x => .int (vmW x.1 x.2)
theorem ok_vote_message (T : Txt K mg) : FnOk P w K mg base CX0 (4) (He.fAd K ("vote_message", none)) T.fd_vote_message ["hasher", "header"] (sp_vote_message K) := by
  refine T.vote_message.F.ok sc_vote_message (fun vs H Q E h => len_g h fun _ => rfl) (fun cdv A outer s H vs Q E hr h => ⟨_, PSs.nox (pss_one (ps_ret (pe_meth (pv 0) T.cl_Hasher T.me_Hasher_digest (ok_Hasher_digest T) (hr.mono (by omega)) T.Hasher_digest.b .nil pass0 (pa_cons (pe_glob (v := .int 10) rfl T.c_VOTE_TAG.choose_spec ⟨_, rfl⟩) (pa_cons (pe_lst (pa_cons (pe_call (ok_header_digest T) (hr.mono (by omega)) (by rfl) T.header_digest.g T.header_digest.F.kp T.header_digest.b .nil pass0 (pa_cons (pv 0) (pa_cons (pv 1) pa_nil))) pa_nil)) pa_nil))))), fn_g h fun x p => ?_⟩)
  change DS K _ (Wp.E.d _ :: (Wp.E.d _ :: [])) _ _ _ _
  obtain ⟨wd, h⟩ := x
  obtain ⟨w4, w128, hb⟩ := p
  dsimp only at w4 w128 hb ⊢
  walk_at "d"
  refine dc_g (wd, h) rfl ⟨by show 0 ≤ wd; omega, w128, hb⟩ ?_
  walk_at "D"
  refine dc_digest [hdW wd h] (.inl rfl) (by omega) w128 (limbs_bd (show 1 ≤ 120 by decide) fun n hn => by rw [List.mem_singleton.mp hn]; exact bd_dgst w4 w128 8 h.fs) ?_
  walk_at "D"
  rfl

end
section
def MbB (ms : List (Int × Int)) : Prop := ms.length ≤ 10 ∧ ∀ p ∈ ms, Bd p.1 ∧ Bd p.2
structure BkB (b : Blk) : Prop where
  hd : ∀ n ∈ b.hd.fs, Bd n
  ms : MbB b.ms
  fo : MbB b.fo
  vs : b.vs.length ≤ 60
theorem mb_lim {ms : List (Int × Int)} (h : MbB ms) : (limbs (nmM ms)).length ≤ 99000 := by
  obtain ⟨hl, hb⟩ := h
  refine limbs_bd (by rw [nmM_len]; omega) fun n hn => ?_
  unfold nmM at hn
  rcases List.mem_cons.mp hn with rfl | hn
  · exact bd_small (by omega) (by omega)
  obtain ⟨p, hp, hn⟩ := List.mem_flatMap.mp hn
  have := hb p hp
  rcases List.mem_cons.mp hn with rfl | hn
  · exact this.1
  · rw [List.mem_singleton.mp hn]
    exact this.2
def bsM (wd : Int) (b : Blk) : List Int := srt (hsM wd (vmW wd b.hd) (b.ms.map (·.1)) [] b.vs)
def sp_block_signers (K : PySem.W.Frag) : Sp := spG K (fun x : Int × Blk => [Hs K x.1, bkD K x.2]) (fun x => 4 ≤ x.1 ∧ x.1 ≤ 128 ∧ BkB x.2) fun x => tI (bsM x.1 x.2)
theorem ok_block_signers (T : Txt K mg) : FnOk P w K mg base CX0 (8) (He.fAd K ("block_signers", none)) T.fd_block_signers ["hasher", "block"] (sp_block_signers K) := by
  refine T.block_signers.F.ok sc_block_signers (fun vs H Q E h => len_g h fun _ => rfl) (fun cdv A outer s H vs Q E hr h => ⟨_, PSs.nox (pss_one (ps_ret (pe_call (ok_signers T) (hr.mono (by omega)) (by rfl) T.signers.g T.signers.F.kp T.signers.b .nil pass0 (pa_cons (pv 0) (pa_cons (pe_call (ok_vote_message T) (hr.mono (by omega)) (by rfl) T.vote_message.g T.vote_message.F.kp T.vote_message.b .nil pass0 (pa_cons (pv 0) (pa_cons (ke_fld (K := K) (pv 1)) pa_nil))) (pa_cons (ke_fld (K := K) (pv 1)) (pa_cons (ke_fld (K := K) (pv 1)) pa_nil))))))), fn_g h fun x p => ?_⟩)
  change DS K _ (Wp.E.d _ :: (Wp.E.d _ :: [])) _ _ _ _
  obtain ⟨wd, b⟩ := x
  obtain ⟨w4, w128, hb⟩ := p
  dsimp only at w4 w128 hb ⊢
  have c0 := T.cl_Block
  have n1 := T.n_Block_header
  have n2 := T.n_Block_members
  have n4 := T.n_Block_votes
  walk_at "d"
  refine dc_g (wd, b.hd) rfl ⟨w4, w128, hb.hd⟩ ?_
  walk_at "D"
  refine dc_g (wd, vmW wd b.hd, b.ms, true, b.vs) rfl ⟨w4, w128, by show b.ms.length ≤ 1000; have := hb.ms.1; omega, hb.vs⟩ ?_
  walk_at "D"
  rfl
def okM (ms : List (Int × Int)) : Bool := decide (1 ≤ ms.length ∧ ms.length ≤ 64) && (ordM (-1) ms && wtM ms)
theorem okM_t {ms : List (Int × Int)} (h : okM ms = true) : mfD ms = .non := by
  unfold okM at h
  simp only [Bool.and_eq_true, decide_eq_true_iff] at h
  unfold mfD
  rw [if_pos h.1, if_pos h.2.1, if_pos h.2.2]
theorem okM_f {ms : List (Int × Int)} (h : okM ms = false) : ∃ s, mfD ms = .str s := by
  unfold mfD
  split
  · split
    · split
      · rename_i h1 h2 h3
        unfold okM at h
        rw [decide_eq_true h1, h2, h3] at h
        cases h
      · exact ⟨_, rfl⟩
    · exact ⟨_, rfl⟩
  · exact ⟨_, rfl⟩
def rootOk (wd r : Int) (ms : List (Int × Int)) : Bool := okM ms && decide (dgst wd 9 (nmM ms) = r)
def sp_is_root_of (K : PySem.W.Frag) : Sp := spG K (fun x : Int × Int × List (Int × Int) => [Hs K x.1, .int x.2.1, mbD x.2.2]) (fun x => 4 ≤ x.1 ∧ x.1 ≤ 128 ∧ MbB x.2.2) fun x => .bl (rootOk x.1 x.2.1 x.2.2)
theorem ok_is_root_of (T : Txt K mg) : FnOk P w K mg base CX0 (4) (He.fAd K ("is_root_of", none)) T.fd_is_root_of ["hasher", "root", "members"] (sp_is_root_of K) := by
  refine T.is_root_of.F.ok sc_is_root_of (fun vs H Q E h => len_g h fun _ => rfl) (fun cdv A outer s H vs Q E hr h => ⟨_, PSs.nox (pss_one (ps_ret (pe_and (pe_cmpR (op_isN1) (pe_call (ok_members_fault T) (hr.mono (by omega)) (by rfl) T.members_fault.g T.members_fault.F.kp T.members_fault.b .nil pass0 (pa_cons (pv 2) pa_nil)) pe_non (nomark _)) (pe_one (pe_cmpR (kp_eqB (K := K) hr.units) (pe_call (ok_members_root T) (hr.mono (by omega)) (by rfl) T.members_root.g T.members_root.F.kp T.members_root.b .nil pass0 (pa_cons (pv 0) (pa_cons (pv 2) pa_nil))) (pv 1) (nomark _)))))), fn_g h fun x p => ?_⟩)
  change DS K _ (Wp.E.d _ :: (Wp.E.d _ :: (Wp.E.d _ :: []))) _ _ _ _
  obtain ⟨wd, r, ms⟩ := x
  obtain ⟨w4, w128, hb⟩ := p
  dsimp only at w4 w128 hb ⊢
  have hl := hb.1
  walk_at "d"
  refine dc_g ms rfl (by show ms.length ≤ 100000; omega) ?_
  unfold rootOk
  cases ho : okM ms with
  | true =>
    rw [okM_t ho]
    walk_at "d"
    rw [if_pos (show (D.non).isN = true from rfl)]
    walk_at "d"
    refine dc_g (wd, ms) rfl ⟨by show 0 ≤ wd; omega, w128, by show ms.length ≤ 1000; omega, mb_lim hb⟩ ?_
    walk_at "D"
    rfl
  | false =>
    obtain ⟨s, hs⟩ := okM_f ho
    rw [hs]
    walk_at "d"
    rw [if_neg (show ¬ (D.str s).isN = true from Bool.false_ne_true)]
    walk_at "d"
    rfl
def sD : Option Str → D
  | none => .non
  | some x => .str x
def lfM (wd : Int) (b : Blk) : Option Str := if rootOk wd b.hd.members b.ms = true then (if rootOk wd b.hd.following b.fo = true then none else some (Str.ofString "following")) else some (Str.ofString "members")
def sp_lists_fault (K : PySem.W.Frag) : Sp := spG K (fun x : Int × Blk => [Hs K x.1, bkD K x.2]) (fun x => 4 ≤ x.1 ∧ x.1 ≤ 128 ∧ BkB x.2) fun x => sD (lfM x.1 x.2)
theorem ok_lists_fault (T : Txt K mg) : FnOk P w K mg base CX0 (5) (He.fAd K ("lists_fault", none)) T.fd_lists_fault ["hasher", "block"] (sp_lists_fault K) := by
  refine T.lists_fault.F.ok sc_lists_fault (fun vs H Q E h => len_g h fun _ => rfl) (fun cdv A outer s H vs Q E hr h => ⟨_, PSs.nox (pss_cons (ps_if (pt_not (pt_val (pe_call (ok_is_root_of T) (hr.mono (by omega)) (by rfl) T.is_root_of.g T.is_root_of.F.kp T.is_root_of.b .nil pass0 (pa_cons (pv 0) (pa_cons (ke_fld (K := K) (ke_fld (K := K) (pv 1))) (pa_cons (ke_fld (K := K) (pv 1)) pa_nil)))))) (pss_one (ps_ret pe_str)) pss_nil)
  (pss_cons (ps_if (pt_not (pt_val (pe_call (ok_is_root_of T) (hr.mono (by omega)) (by rfl) T.is_root_of.g T.is_root_of.F.kp T.is_root_of.b .nil pass0 (pa_cons (pv 0) (pa_cons (ke_fld (K := K) (ke_fld (K := K) (pv 1))) (pa_cons (ke_fld (K := K) (pv 1)) pa_nil)))))) (pss_one (ps_ret pe_str)) pss_nil)
  (pss_one (ps_ret pe_non)))), fn_g h fun x p => ?_⟩)
  change DS K _ (Wp.E.d _ :: (Wp.E.d _ :: [])) _ _ _ _
  obtain ⟨wd, b⟩ := x
  obtain ⟨w4, w128, hb⟩ := p
  dsimp only at w4 w128 hb ⊢
  have c0 := T.cl_Block
  have n1 := T.n_Block_header
  have n2 := T.n_Block_members
  have n3 := T.n_Block_following
  have c1 := T.cl_Header
  have m1 := T.n_Header_members
  have m2 := T.n_Header_following
  walk_at "d"
  refine dc_g (wd, b.hd.members, b.ms) rfl ⟨w4, w128, hb.ms⟩ ?_
  unfold lfM
  dsimp only
  cases rootOk wd b.hd.members b.ms with
  | false =>
    walk_at "d"
    rfl
  | true =>
    walk_at "d"
    refine dc_g (wd, b.hd.following, b.fo) rfl ⟨w4, w128, hb.fo⟩ ?_
    dsimp only
    cases rootOk wd b.hd.following b.fo with
    | false =>
      walk_at "d"
      rfl
    | true =>
      walk_at "d"
      rfl
def negF (h : Hdr) : Bool := h.fs.any fun n => decide (n < 0)
def sp_has_negative (K : PySem.W.Frag) : Sp := spG K (fun h : Hdr => [hdD K h]) (fun _ => True) fun h => .bl (negF h)
theorem ok_has_negative (T : Txt K mg) : FnOk P w K mg base CX0 (2) (He.fAd K ("has_negative", none)) T.fd_has_negative ["header"] (sp_has_negative K) := by
  refine T.has_negative.F.ok sc_has_negative (fun vs H Q E h => len_g h fun _ => rfl) (fun cdv A outer s H vs Q E hr h => ⟨_, PSs.nox (pss_one (ps_ret (pe_callB (kr_any (K := K)) (by rfl) T.z_any (by decide +kernel) (pa_cons (pe_lc (own := [("number", 1)]) rfl sc_has_negative.nd (ki_sq (K := K) (pe_meth0 (pv 0) T.cl_Header T.me_Header_fields (ok_Header_fields T) (hr.mono (by omega)) T.Header_fields.b .nil pass0)) (blkOk_by (own := [("number", 1)]) (N := ["header", "number"]) (sc := defScope s_has_negative) (by decide +kernel)) (fun _ _ _ _ _ => pg_name (i := 1) sc_has_negative.nd rfl (Or.inl rfl)) (fun _ _ _ _ _ => pts_nil) (fun _ _ _ _ _ => (pe_cmpR (op_lt) (pv 1) pe_int (nomark _)))) pa_nil)))), fn_g h fun x p => ?_⟩)
  change DS K _ (Wp.E.d _ :: (Wp.E.any :: [])) _ _ _ _
  obtain ⟨h, rfl⟩ : ∃ h, h = x := ⟨_, rfl⟩
  walk_at "d"
  refine de_new (dn_map D.int (fun n => D.bl (decide (n < 0))) ?_)
  walk_at "d"
  refine dc_g h rfl trivial ?_
  walk_at "D"
  refine ⟨h.fs, rfl, by show 7 < 16000000; decide, fun i n hn => dgw_name rfl (by decide) rfl ?_, ?_⟩
  · walk_at "d"
    rfl
  rw [show h.fs.map (fun n => D.bl (decide (n < 0))) = (h.fs.map fun n => decide (n < 0)).map D.bl by rw [List.map_map]; rfl]
  walk_at "d"
  rw [show (h.fs.map fun n => decide (n < 0)).any id = negF h by unfold negF; rw [List.any_map]; rfl]
def wtS (ms : List (Int × Int)) (ps : List Int) : Int := ((ms.filter fun p => decide (p.1 ∈ ps)).map (·.2)).sum
def totS (ms : List (Int × Int)) : Int := (ms.map (·.2)).sum
def bfM (wd chain : Int) (b : Blk) : Option Str :=
  if negF b.hd = true then some (Str.ofString "header")
  else if b.hd.chain ≠ chain then some (Str.ofString "chain")
  else match lfM wd b with
    | some x => some x
    | none => if totS b.ms * 2 < wtS b.ms (bsM wd b) * 3 then none else some (Str.ofString "votes")
def sp_block_fault (K : PySem.W.Frag) : Sp := spG K (fun x : Int × Int × Blk => [Hs K x.1, .int x.2.1, bkD K x.2.2]) (fun x => 4 ≤ x.1 ∧ x.1 ≤ 128 ∧ BkB x.2.2) fun x => sD (bfM x.1 x.2.1 x.2.2)
theorem ok_block_fault (T : Txt K mg) : FnOk P w K mg base CX0 (9) (He.fAd K ("block_fault", none)) T.fd_block_fault ["hasher", "chain", "block"] (sp_block_fault K) := by
  refine T.block_fault.F.ok sc_block_fault (fun vs H Q E h => len_g h fun _ => rfl) (fun cdv A outer s H vs Q E hr h => ⟨_, PSs.nox (pss_cons (ps_if (pt_val (pe_call (ok_has_negative T) (hr.mono (by omega)) (by rfl) T.has_negative.g T.has_negative.F.kp T.has_negative.b .nil pass0 (pa_cons (ke_fld (K := K) (pv 2)) pa_nil))) (pss_one (ps_ret pe_str)) pss_nil)
  (pss_cons (ps_if (pt_cmpR (kp_neB (K := K) hr.units) (ke_fld (K := K) (ke_fld (K := K) (pv 2))) (pv 1) (nomark _)) (pss_one (ps_ret pe_str)) pss_nil)
  (pss_cons (ps_set (i := 3) sc_block_fault.nd rfl (Or.inl rfl) (pe_call (ok_lists_fault T) (hr.mono (by omega)) (by rfl) T.lists_fault.g T.lists_fault.F.kp T.lists_fault.b .nil pass0 (pa_cons (pv 0) (pa_cons (pv 2) pa_nil))))
  (pss_cons (ps_if (pt_cmpR (op_notN1) (pv 3) pe_non (nomark _)) (pss_one (ps_ret (pv 3))) pss_nil)
  (pss_cons (ps_if (pt_not (pt_val (pe_call (ok_more_than T) (hr.mono (by omega)) (by rfl) T.more_than.g T.more_than.F.kp T.more_than.b .nil pass0 (pa_cons (ke_fld (K := K) (pv 2)) (pa_cons (pe_call (ok_block_signers T) (hr.mono (by omega)) (by rfl) T.block_signers.g T.block_signers.F.kp T.block_signers.b .nil pass0 (pa_cons (pv 0) (pa_cons (pv 2) pa_nil))) (pa_cons pe_int (pa_cons pe_int pa_nil))))))) (pss_one (ps_ret pe_str)) pss_nil)
  (pss_one (ps_ret pe_non))))))), fn_g h fun x p => ?_⟩)
  change DS K _ (Wp.E.d _ :: (Wp.E.d _ :: (Wp.E.d _ :: (Wp.E.any :: [])))) _ _ _ _
  obtain ⟨wd, ch, b⟩ := x
  obtain ⟨w4, w128, hb⟩ := p
  dsimp only at w4 w128 hb ⊢
  have c0 := T.cl_Block
  have n1 := T.n_Block_header
  have n2 := T.n_Block_members
  have c1 := T.cl_Header
  have m1 := T.n_Header_chain
  walk_at "d"
  refine dc_g b.hd rfl trivial ?_
  unfold bfM
  cases negF b.hd with
  | true =>
    walk_at "d"
    rfl
  | false =>
    rw [if_neg Bool.false_ne_true]
    walk_at "d"
    refine ifn (fun g => ?_) (fun g => ?_)
    · rw [if_pos g]
      walk_at "d"
      rfl
    · rw [if_neg (fun z : ¬ b.hd.chain = ch => z g)]
      walk_at "d"
      refine dc_g (wd, b) rfl ⟨w4, w128, hb⟩ ?_
      dsimp only
      cases lfM wd b with
      | some s =>
        dsimp only [sD]
        walk_at "d"
        rw [if_pos (show (!(D.str s).isN) = true from rfl)]
        walk_at "d"
        rfl
      | none =>
        dsimp only [sD]
        walk_at "d"
        rw [if_neg (show ¬ (!(D.non).isN) = true from Bool.false_ne_true)]
        walk_at "d"
        refine dc_g (wd, b) rfl ⟨w4, w128, hb⟩ ?_
        walk_at "d"
        refine dc_gE (b.ms, true, bsM wd b, 2, 3) rfl ⟨by show b.ms.length ≤ 100000; have := hb.ms.1; omega, ⟨show (-2 ^ 64 : Int) < 2 by decide, show (2 : Int) < 2 ^ 64 by decide⟩, ⟨show (-2 ^ 64 : Int) < 3 by decide, show (3 : Int) < 2 ^ 64 by decide⟩⟩ (d := .bl (decide (totS b.ms * 2 < wtS b.ms (bsM wd b) * 3))) rfl ?_
        walk_at "d"
        refine ifn (fun g => ?_) (fun g => ?_)
        · rw [if_neg g]
          walk_at "d"
          rfl
        · rw [if_pos g]
          walk_at "d"
          rfl

end
abbrev SgT := Int × Nat × Addr
abbrev sgDD (K : PySem.W.Frag) (wd : Int) (s : SgT) : D := sgD K wd s.1 s.2.1 s.2.2
abbrev sgC (wd : Int) (s : SgT) : Addr × (HO → Prop) := (s.2.2, NodesOk wd s.1)
def SgOk (wd : Int) (lv : Nat) (sg : List SgT) : Prop := (sg.map fun s => pubW wd s.1 s.2.1).Nodup ∧ ∀ s ∈ sg, Bd s.1 ∧ s.2.1 ≤ lv

theorem perm_mem {as bs : List Int} (ha : as.Nodup) (hb : bs.Nodup) (h : ∀ x, x ∈ as ↔ x ∈ bs) : as.Perm bs := (List.perm_ext_iff_of_nodup ha hb).mpr fun x => h x
def vtOk (wd msg a : Int) (vs : List (Int × List Int)) : Bool := vs.any fun v => decide (v.1 = a ∧ verOk wd a msg v.2)
theorem hsM_spec {wd msg : Int} {ms : List Int} : ∀ (vs : List (Int × List Int)) (acc : List Int), acc.Nodup → (hsM wd msg ms acc vs).Nodup ∧ ∀ a, a ∈ hsM wd msg ms acc vs ↔ a ∈ acc ∨ (a ∈ ms ∧ vtOk wd msg a vs = true)
  | [], acc, h => ⟨h, fun a => ⟨fun z => .inl z, fun z => z.elim id fun z => by simp [vtOk] at z⟩⟩
  | v :: vs, acc, h => by
    have e : ∀ a, vtOk wd msg a (v :: vs) = true ↔ (v.1 = a ∧ verOk wd a msg v.2) ∨ vtOk wd msg a vs = true := fun a => by
      unfold vtOk
      rw [List.any_cons, Bool.or_eq_true, decide_eq_true_iff]
    rw [hsM]
    by_cases z : v.1 ∈ ms ∧ v.1 ∉ acc ∧ verOk wd v.1 msg v.2
    · rw [if_pos z]
      obtain ⟨n, m⟩ := hsM_spec (wd := wd) (msg := msg) (ms := ms) vs (acc ++ [v.1]) (List.nodup_append.mpr ⟨h, by simp, fun a ha b hb => by rw [List.mem_singleton.mp hb]; exact fun q => z.2.1 (q ▸ ha)⟩)
      refine ⟨n, fun a => (m a).trans ?_⟩
      rw [List.mem_append, List.mem_singleton, e]
      constructor
      · rintro ((h | h) | h)
        · exact .inl h
        · exact .inr ⟨h ▸ z.1, .inl ⟨h.symm, h ▸ z.2.2⟩⟩
        · exact .inr ⟨h.1, .inr h.2⟩
      · rintro (h | ⟨h1, h | h⟩)
        · exact .inl (.inl h)
        · exact .inl (.inr h.1.symm)
        · exact .inr ⟨h1, h⟩
    · rw [if_neg z]
      obtain ⟨n, m⟩ := hsM_spec (wd := wd) (msg := msg) (ms := ms) vs acc h
      refine ⟨n, fun a => (m a).trans ?_⟩
      rw [e]
      constructor
      · rintro (h | h)
        · exact .inl h
        · exact .inr ⟨h.1, .inr h.2⟩
      · rintro (h | ⟨h1, h | h⟩)
        · exact .inl h
        · by_cases q : v.1 ∈ acc
          · exact .inl (h.1 ▸ q)
          · exact absurd ⟨by rw [h.1]; exact h1, q, by rw [h.1]; exact h.2⟩ z
        · exact .inr ⟨h1, h⟩
def MsOk (ms : List (Int × Int)) : Prop := (1 ≤ ms.length ∧ ms.length ≤ 4) ∧ (∀ p ∈ ms, (0 ≤ p.1 ∧ p.1 < 2 ^ 128) ∧ 1 ≤ p.2 ∧ p.2 ≤ 9) ∧ ms.Pairwise fun p q => p.1 < q.1
def mbL (wd x : Int) (sg : List SgT) : List (Int × Int) := sg.map fun s => (pubW wd s.1 s.2.1, 1 + x / (7 + pubW wd s.1 s.2.1) % 9)
theorem pub_rng {wd : Int} (h4 : 4 ≤ wd) (h : wd ≤ 128) (sec : Int) (lv : Nat) : 0 ≤ pubW wd sec lv ∧ pubW wd sec lv < 2 ^ 128 := by
  obtain ⟨h1, h2⟩ := dgst_rng h4 h 6 [(lv : Int), nodeW wd sec lv 0]
  refine ⟨h1, Int.lt_of_lt_of_le h2 ?_⟩
  rw [← PySem.W.kbt_cast, ← PySem.W.kbt_cast]
  exact Int.ofNat_le.mpr (Nat.pow_le_pow_right (by decide) (by omega))
theorem mbL_prb {wd x : Int} (h4 : 4 ≤ wd) (h : wd ≤ 128) {sg : List SgT} : ∀ p ∈ mbL wd x sg, ((0 ≤ p.1 ∧ p.1 < 2 ^ 128) ∧ 1 ≤ p.2 ∧ p.2 ≤ 9) := fun p hp => by
  obtain ⟨s, hs, rfl⟩ := List.mem_map.mp hp
  have h1 := Int.emod_nonneg (x / (7 + pubW wd s.1 s.2.1)) (b := 9) (by decide)
  have h2 := Int.emod_lt_of_pos (x / (7 + pubW wd s.1 s.2.1)) (b := 9) (by decide)
  exact ⟨pub_rng h4 h s.1 s.2.1, by show 1 ≤ 1 + x / (7 + pubW wd s.1 s.2.1) % 9; omega, by show 1 + x / (7 + pubW wd s.1 s.2.1) % 9 ≤ 9; omega⟩
theorem prb_of {p : Int × Int} (h : (0 ≤ p.1 ∧ p.1 < 2 ^ 128) ∧ 1 ≤ p.2 ∧ p.2 ≤ 9) : PrB p := ⟨h.1.1, Int.lt_trans h.1.2 (by decide), by omega, Int.lt_of_le_of_lt h.2.2 (by decide)⟩
theorem ms_ok {wd x : Int} (h4 : 4 ≤ wd) (h : wd ≤ 128) {sg : List SgT} (l1 : 1 ≤ sg.length) (l4 : sg.length ≤ 4) (hn : (sg.map fun s => pubW wd s.1 s.2.1).Nodup) {qs : List (Int × Int)} (hp : qs.Perm (mbL wd x sg)) (hw : qs.Pairwise fun p q => p.1 ≤ q.1) : MsOk qs := by
  have hl : qs.length = sg.length := by rw [hp.length_eq]; unfold mbL; rw [List.length_map]
  refine ⟨⟨by omega, by omega⟩, fun p m => mbL_prb h4 h p (hp.mem_iff.mp m), ?_⟩
  have hn1 : (qs.map (·.1)).Nodup := by
    rw [(hp.map _).nodup_iff]
    unfold mbL
    rw [List.map_map]
    exact hn
  have hn2 : qs.Pairwise fun p q => p.1 ≠ q.1 := List.pairwise_map.mp hn1
  exact (hw.and hn2).imp fun ⟨a, b⟩ => by omega
theorem ordM_ok : ∀ (ps : List (Int × Int)) (b : Int), (∀ p ∈ ps, b < p.1) → (ps.Pairwise fun p q => p.1 < q.1) → ordM b ps = true
  | [], _, _, _ => rfl
  | p :: ps, b, h, hw => by
    have hp := h p List.mem_cons_self
    rw [List.pairwise_cons] at hw
    rw [ordM, if_neg (by omega)]
    exact ordM_ok ps p.1 hw.1 hw.2
theorem mf_ok {ms : List (Int × Int)} (h : MsOk ms) : mfD ms = .non := by
  obtain ⟨⟨h1, h4⟩, hb, hw⟩ := h
  unfold mfD
  rw [if_pos ⟨h1, by omega⟩, if_pos (ordM_ok ms (-1) (fun p hp => by have := (hb p hp).1.1; omega) hw), if_pos ?_]
  unfold wtM
  rw [List.all_eq_true]
  exact fun p hp => decide_eq_true ⟨(hb p hp).2.1, by have := (hb p hp).2.2; omega⟩

theorem nm_limbs {ms : List (Int × Int)} (h : MsOk ms) : (limbs (nmM ms)).length ≤ 99000 := by
  obtain ⟨⟨h1, h4⟩, hb, hw⟩ := h
  refine limbs_bd (by rw [nmM_len]; omega) fun n hn => ?_
  unfold nmM at hn
  rcases List.mem_cons.mp hn with rfl | hn
  · exact bd_small (by omega) (by omega)
  obtain ⟨p, hp, hn⟩ := List.mem_flatMap.mp hn
  have := hb p hp
  rcases List.mem_cons.mp hn with rfl | hn
  · exact bd_rng (k := 128) this.1.1 this.1.2 (by decide)
  · rw [List.mem_singleton.mp hn]
    exact bd_small (by omega) (by omega)
/-- the members with a right vote -/
def dueL (wd msg : Int) (vs : List (Int × List Int)) (kn : List (Int × Int)) : List Int := (kn.filter fun p => vtOk wd msg p.1 vs).map (·.1)
theorem due_signers {wd msg : Int} {vs : List (Int × List Int)} {kn : List (Int × Int)} (hw : kn.Pairwise fun p q => p.1 < q.1) : srt (hsM wd msg (kn.map (·.1)) [] vs) = dueL wd msg vs kn := by
  obtain ⟨n, m⟩ := hsM_spec (wd := wd) (msg := msg) (ms := kn.map (·.1)) vs [] List.nodup_nil
  have hf : (dueL wd msg vs kn).Pairwise fun p q => p < q := List.pairwise_map.mpr (hw.sublist List.filter_sublist)
  refine (srt_of (perm_mem (hf.imp fun h => by omega) n fun a => ?_) (hf.imp fun h => by omega)).symm
  rw [m]
  unfold dueL
  constructor
  · intro h
    obtain ⟨p, hp, rfl⟩ := List.mem_map.mp h
    rw [List.mem_filter] at hp
    exact .inr ⟨List.mem_map.mpr ⟨p, hp.1, rfl⟩, hp.2⟩
  · rintro (h | ⟨h1, h2⟩)
    · cases h
    · obtain ⟨p, hp, rfl⟩ := List.mem_map.mp h1
      exact List.mem_map.mpr ⟨p, List.mem_filter.mpr ⟨hp, h2⟩, rfl⟩
theorem vt_any {wd msg a : Int} {vs : List (Int × List Int)} : (vs.filter fun v => decide (v.1 = a ∧ verOk wd a msg v.2)) = [] ↔ vtOk wd msg a vs = false := by
  unfold vtOk
  rw [List.filter_eq_nil_iff, List.any_eq_false]
theorem vt_plain (vs : List (Int × List Int)) : D.plain (.lst (vs.map vtT)) = true ∧ D.dep (.lst (vs.map vtT)) ≤ 60 := by
  constructor
  · show D.plains (vs.map vtT) = true
    refine plains_map (fun v => ?_) vs
    show (true && (D.plains (v.2.map D.int) && true)) = true
    rw [plains_map (f := D.int) (fun _ => rfl)]
    rfl
  · show D.deps (vs.map vtT) + 1 ≤ 60
    have := deps_map (f := vtT) (n := 2) (fun v => by
      show max 0 (max (D.deps (v.2.map D.int) + 1) 0) + 1 ≤ 2
      have := deps_map (f := D.int) (n := 0) (fun _ => Nat.le_refl _) v.2
      omega) vs
    omega
theorem vt_nil {wd msg a : Int} {vs : List (Int × List Int)} : D.lst ((vs.filter fun v => decide (v.1 = a ∧ verOk wd a msg v.2)).map vtT) = D.lst [] ↔ vtOk wd msg a vs = false := by
  rw [← vt_any]
  constructor
  · intro h
    injection h with h
    exact List.map_eq_nil_iff.mp h
  · intro h
    rw [h]; rfl
theorem due_step {wd msg : Int} {vs : List (Int × List Int)} {kn : List (Int × Int)} {i : Nat} {q : Int × Int} (h : kn[i]? = some q) : dueL wd msg vs (kn.take (i + 1)) = dueL wd msg vs (kn.take i) ++ (if vtOk wd msg q.1 vs = true then [q.1] else []) := by
  unfold dueL
  rw [List.take_add_one, h, List.filter_append, List.map_append]
  congr 1
  cases hv : vtOk wd msg q.1 vs with
  | true => rw [show (some q).toList = [q] from rfl, List.filter_cons, hv]; rfl
  | false => rw [show (some q).toList = [q] from rfl, List.filter_cons, hv]; rfl
theorem due_len (wd msg : Int) (vs : List (Int × List Int)) (kn : List (Int × Int)) : (dueL wd msg vs kn).length ≤ kn.length := by
  unfold dueL
  rw [List.length_map]
  exact List.length_filter_le _ _

section
/-- who signed both of two blocks of one height -/
def dsM (wd : Int) (a b : Blk) : List Int := if a.hd.height ≠ b.hd.height then [] else if a.hd.fs = b.hd.fs then [] else (bsM wd a).filter fun p => decide (p ∈ bsM wd b)
def sp_double_signers (K : PySem.W.Frag) : Sp := spG K (fun x : Int × Blk × Blk => [Hs K x.1, bkD K x.2.1, bkD K x.2.2]) (fun x => 4 ≤ x.1 ∧ x.1 ≤ 128 ∧ BkB x.2.1 ∧ BkB x.2.2) fun x => tI (dsM x.1 x.2.1 x.2.2)
theorem bs_len {wd : Int} {b : Blk} (h : BkB b) : (bsM wd b).length ≤ 10 := by
  unfold bsM
  rw [srt_len]
  obtain ⟨n, m⟩ := hsM_spec (wd := wd) (msg := vmW wd b.hd) (ms := b.ms.map (·.1)) b.vs [] List.nodup_nil
  have := n.length_le_of_subset (l₂ := b.ms.map (·.1)) fun x hx => ((m x).mp hx).elim (fun z => by cases z) fun z => z.1
  rw [List.length_map] at this
  exact Nat.le_trans this h.ms.1
theorem ok_double_signers (T : Txt K mg) : FnOk P w K mg base CX0 (9) (He.fAd K ("double_signers", none)) T.fd_double_signers ["hasher", "first", "second"] (sp_double_signers K) := by
  refine T.double_signers.F.ok sc_double_signers (fun vs H Q E h => len_g h fun _ => rfl) (fun cdv A outer s H vs Q E hr h => ⟨_, PSs.nox (pss_cons (ps_if (PW.pt (pw_or (pt_cmpR (kp_neB (K := K) hr.units) (ke_fld (K := K) (ke_fld (K := K) (pv 1))) (ke_fld (K := K) (ke_fld (K := K) (pv 2))) (nomark _)) (pw_or1 (pt_cmpR (op_oe (K := K) (ok_Header___eq__ T) T.me_Header___eq__ T.Header___eq__.b (hr.mono (by omega))) (ke_fld (K := K) (pv 1)) (ke_fld (K := K) (pv 2)) (nomark _))))) (pss_one (ps_ret (pe_tup pa_nil))) pss_nil)
  (pss_cons (ps_set (i := 3) sc_double_signers.nd rfl (Or.inr rfl) (pe_call (ok_block_signers T) (hr.mono (by omega)) (by rfl) T.block_signers.g T.block_signers.F.kp T.block_signers.b .nil pass0 (pa_cons (pv 0) (pa_cons (pv 2) pa_nil))))
  (pss_one (ps_ret (pe_callTy (kq_tuple (K := K)) (by rfl) T.z_tuple (by decide +kernel) (pa_cons (pe_lc (own := [("public", 4)]) rfl sc_double_signers.nd (ki_sq (K := K) (pe_call (ok_block_signers T) (hr.mono (by omega)) (by rfl) T.block_signers.g T.block_signers.F.kp T.block_signers.b .nil pass0 (pa_cons (pv 0) (pa_cons (pv 1) pa_nil)))) (blkOk_by (own := [("public", 4)]) (N := ["hasher", "first", "second", "others", "public"]) (sc := defScope s_double_signers) (by decide +kernel)) (fun _ _ _ _ _ => pg_name (i := 4) sc_double_signers.nd rfl (Or.inl rfl)) (fun _ _ _ _ _ => (pts_one (pt_cmpR (kp_in (K := K)) (pv 4) (pv 3) rfl))) (fun _ _ _ _ _ => (pv 4))) pa_nil)))))), fn_g h fun x p => ?_⟩)
  change DS K _ (Wp.E.d _ :: (Wp.E.d _ :: (Wp.E.d _ :: (Wp.E.any :: (Wp.E.any :: []))))) _ _ _ _
  obtain ⟨wd, a, b⟩ := x
  obtain ⟨w4, w128, ha, hb⟩ := p
  dsimp only at w4 w128 ha hb ⊢
  have c0 := T.cl_Block
  have n1 := T.n_Block_header
  have c1 := T.cl_Header
  have m1 := T.n_Header_height
  walk_at "d"
  unfold dsM
  refine ifn (fun g => ?_) (fun g => ?_)
  · rw [if_pos g]
    walk_at "d"
    rfl
  rw [if_neg (fun z : ¬ a.hd.height = b.hd.height => z g)]
  walk_at "d"
  refine dr_oe rfl rfl ?_
  refine dc_gE (a.hd, .inl b.hd) rfl (fun d z => by cases z) (d := .bl (decide (a.hd.fs = b.hd.fs))) rfl ?_
  refine ⟨_, rfl, ?_⟩
  walk_at "d"
  refine ifd (fun g2 => ?_) (fun g2 => ?_)
  · rw [if_pos g2]
    walk_at "d"
    rfl
  rw [if_neg g2]
  walk_at "d"
  refine dc_g (wd, b) rfl ⟨w4, w128, hb⟩ ?_
  walk_at "D"
  refine de_new (dn_filt D.int D.int (fun p => decide (p ∈ bsM wd b)) ?_)
  walk_at "d"
  refine dc_g (wd, a) rfl ⟨w4, w128, ha⟩ ?_
  walk_at "D"
  refine ⟨bsM wd a, rfl, by have := bs_len (wd := wd) ha; omega, fun i q hq => dgw_name rfl (by decide) rfl ?_, ?_⟩
  · walk_at "d"
    refine dr_inI (ns := bsM wd b) (.inl rfl) ?_
    rw [if_neg Bool.false_ne_true]
    walk_at "d"
    refine ⟨rfl, fun _ => ?_⟩
    walk_at "d"
    rfl
  walk_at "d"
  rfl

end
section
theorem de_isIntI {K : PySem.W.Frag} {ρ : List Wp.E} {te : TE} {Q : Wp.E → Prop} (h : DE K te ρ fun e => ∃ i : Int, e = .d (.int i) ∧ Q (.d (.bl true))) : DE K (tCB (rIsi K) (tCons te (tCons (tC (.ty "int")) tNil))) ρ Q := fun U σ L G o =>
  em_cb (am_cons ((h U σ L G o).w fun v G1 ⟨e1, e, se, i, ed, k⟩ => am_cons (em_c (am_nil (by
    subst ed
    cases (se : Rp K G1 v (.int i))
    exact fun H j _ q => ⟨_, .ty "int", .type "int", .type "int", true, rfl, .ty "int", .base (.int i), kit_ty (by decide +kernel), q _ _ _ j ⟨e1, .d (.bl true), Rp.bl _, k⟩⟩)))))
theorem de_isIntB {K : PySem.W.Frag} {ρ : List Wp.E} {te : TE} {Q : Wp.E → Prop} (h : DE K te ρ fun e => ∃ i : Int, e = .d (.int i) ∧ Q (.d (.bl false))) : DE K (tCB (rIsi K) (tCons te (tCons (tC (.ty "bool")) tNil))) ρ Q := fun U σ L G o =>
  em_cb (am_cons ((h U σ L G o).w fun v G1 ⟨e1, e, se, i, ed, k⟩ => am_cons (em_c (am_nil (by
    subst ed
    cases (se : Rp K G1 v (.int i))
    exact fun H j _ q => ⟨_, .ty "bool", .type "int", .type "bool", false, rfl, .ty "bool", .base (.int i), kit_ty (by decide +kernel), q _ _ _ j ⟨e1, .d (.bl false), Rp.bl _, k⟩⟩)))))
theorem de_isBlB {K : PySem.W.Frag} {ρ : List Wp.E} {te : TE} {Q : Wp.E → Prop} (h : DE K te ρ fun e => ∃ i : Bool, e = .d (.bl i) ∧ Q (.d (.bl true))) : DE K (tCB (rIsi K) (tCons te (tCons (tC (.ty "bool")) tNil))) ρ Q := fun U σ L G o =>
  em_cb (am_cons ((h U σ L G o).w fun v G1 ⟨e1, e, se, i, ed, k⟩ => am_cons (em_c (am_nil (by
    subst ed
    cases (se : Rp K G1 v (.bl i))
    exact fun H j _ q => ⟨_, .ty "bool", .type "bool", .type "bool", true, rfl, .ty "bool", .base (.bl i), kit_ty (by decide +kernel), q _ _ _ j ⟨e1, .d (.bl true), Rp.bl _, k⟩⟩)))))
local macro_rules | `(tactic| walk_at "d1") => `(tactic| first
  | with_reducible refine de_isIntI ?_
  | with_reducible refine de_isIntB ?_
  | with_reducible refine de_isBlB ?_)
def lnM (c k : Int) : Int := if 10 ^ 18 ≤ c then c else (((c * 48271 + k * 69621 + 11) % 2147483647) * ((c * 48271 + k * 69621 + 11) % 2147483647) + k * 40692) % 2147483399
theorem lnM_nn (c k : Int) : 0 ≤ lnM c k := by
  unfold lnM
  split
  · omega
  · exact Int.emod_nonneg _ (by decide)
def sp__law_number (K : PySem.W.Frag) : Sp := spG K (fun x : Int × Int => [.int x.1, .int x.2]) (fun x => 0 ≤ x.2 ∧ x.2 ≤ 100000) fun x => .int (lnM x.1 x.2)
theorem ok__law_number (T : Txt K mg) : FnOk P w K mg base CX0 (1) (He.fAd K ("_law_number", none)) T.fd__law_number ["cell", "k"] (sp__law_number K) := by
  refine T._law_number.F.ok sc__law_number (fun vs H Q E h => len_g h fun _ => rfl) (fun cdv A outer s H vs Q E hr h => ⟨_, PSs.nox (pss_cons (ps_if (pt_cmpR (op_ge) (pv 0) (pe_op op_pow pe_int pe_int) (nomark _)) (pss_one (ps_ret (pv 0))) pss_nil)
  (pss_cons (ps_set (i := 2) sc__law_number.nd rfl (Or.inl rfl) (pe_op op_mod (pe_callTy cq_int (by rfl) T.z_int (by decide +kernel) (pa_cons (pe_op (kp_addA (K := K)) (pe_op (kp_addA (K := K)) (pe_op op_mul (pv 0) pe_int) (pe_op op_mul (pv 1) pe_int)) pe_int) pa_nil)) pe_int))
  (pss_one (ps_ret (pe_op op_mod (pe_callTy cq_int (by rfl) T.z_int (by decide +kernel) (pa_cons (pe_op (kp_addA (K := K)) (pe_op op_mul (pv 2) (pv 2)) (pe_op op_mul (pv 1) pe_int)) pa_nil)) pe_int))))), fn_g h fun x p => ?_⟩)
  change DS K _ (Wp.E.d _ :: (Wp.E.d _ :: (Wp.E.any :: []))) _ _ _ _
  obtain ⟨c, k⟩ := x
  obtain ⟨k0, k1⟩ := p
  dsimp only at k0 k1 ⊢
  walk_at "d"
  unfold lnM
  rw [show (10 : Int) ^ Int.toNat 18 = 10 ^ 18 from rfl]
  have hm0 : 0 ≤ (c * 48271 + k * 69621 + 11) % 2147483647 := Int.emod_nonneg _ (by decide)
  have hm1 : (c * 48271 + k * 69621 + 11) % 2147483647 < 2147483647 := Int.emod_lt_of_pos _ (by decide)
  refine ifd (fun g => ?_) (fun g => ?_)
  · rw [if_pos g]
    walk_at "d"
    rfl
  · rw [if_neg g]
    walk_at "d"
    rfl

end
section
def spCells (K : PySem.W.Frag) : Sp := spA (fun (x : Addr × List Int × Nat) vs G => vs = [.ref x.1, .int (x.2.2 : Int)] ∧ SqL K G x.1 (x.2.1.map V.int) ∧ x.2.1.length ≤ 63 ∧ x.2.2 ≤ 63) fun x v G' => ∃ (p : Addr) (cs : List Int), v = .ref p ∧ G' p = some (.lst (cs.map V.int)) ∧ x.2.2 ≤ cs.length ∧ cs.length ≤ 63
def sp__law_cells (K : PySem.W.Frag) : Sp := spCells K
theorem ok__law_cells (T : Txt K mg) : FnOk P w K mg base CX0 1 (He.fAd K ("_law_cells", none)) T.fd__law_cells ["script", "count"] (sp__law_cells K) := by
  refine T._law_cells.F.ok sc__law_cells (fun vs H Q E h => ?_) (fun cdv A outer s H vs Q E hr h => ?_)
  · obtain ⟨_, _, _, ⟨rfl, _⟩, _⟩ := h
    rfl
  · obtain ⟨⟨sc, ns, cnt⟩, G, e0, ⟨rfl, hS, hn, hc⟩, q⟩ := h
    replace hS : SqL K G sc (ns.map V.int) := hS
    refine ⟨_, PSs.nox (pss_cons (ps_setLc (i := 2) (own := [("cell", 3)]) rfl sc__law_cells.nd rfl rfl (sw_true rfl rfl rfl (by decide +kernel)) (ki_list (K := K) (pv 0)) (blkOk_by (own := [("cell", 3)]) (N := ["script", "count", "cells", "cell"]) (sc := defScope s__law_cells) (by decide +kernel)) (fun _ _ _ _ _ => pg_name (i := 3) sc__law_cells.nd rfl (Or.inl rfl)) (fun _ _ _ _ _ => pts_nil) (fun _ _ _ _ _ => (pe_callTy cq_int (by rfl) T.z_int (by decide +kernel) (pa_cons (pv 3) pa_nil))))
  (pss_cons (ps_while PassesOwn.never (pt_cmpR (op_lt) (pe_callB (kq_len (K := K)) (by rfl) T.z_len (by decide +kernel) (pa_cons (pv 2) pa_nil)) (pv 1) (nomark _)) (pss_one (ps_expr (pe_bm PySem.F.plainAttrs_list PySem.F.slot_list_append PySem.F.type_list_append mt_append (pv 2) (pa_cons (pe_op op_add (pe_callB (kq_len (K := K)) (by rfl) T.z_len (by decide +kernel) (pa_cons (pv 2) pa_nil)) pe_int) pa_nil)))))
  (pss_one (ps_ret (pv 2))))), ?_⟩
    refine (show SM (V0 H G) _ _ _ G from ?_) H (J.start e0)
    walk_at "go"
    replace hn : ns.length ≤ 63 := hn
    replace hc : cnt ≤ 63 := hc
    refine em_mapL (v := fun x => x) ?_
    walk_at "go"
    refine ⟨sc, ns.map V.int, rfl, hS, by rw [List.length_map]; omega, fun i x G' U' e hx => ?_, fun p G2 e np gp => ?_⟩
    · obtain ⟨n, rfl, hn'⟩ := int_at hx
      walk_at "go"
      refine ⟨rfl, Ex.refl _, ?_⟩
      walk_at "go"
      exact ⟨rfl, Ex.refl _⟩
    walk_at "go"
    rw [List.map_id'] at gp
    have key : DS K (tWhile (tTest (tOp (rI0 fun i j => V.bl (decide (i < j))) (tCB (rLenQ K) (tCons (tVar 2) tNil)) (tVar 1))) (tDrop (tBM K "list" rAppend (tVar 2) (tCons (tOp (rI0 fun i j => V.int (i + j)) (tCB (rLenQ K) (tCons (tVar 2) tNil)) (tC (V.int 5))) tNil)))) [.any, .d (.int (cnt : Int)), .own (ns.map D.int), .any] (fun ρ' => DS K (tRet (tVar 2)) ρ' (fun _ => False) (fun _ => False) (fun _ => False) (fun d => ∃ cs : List Int, d = lI cs ∧ cnt ≤ cs.length ∧ cs.length ≤ 63)) (fun _ => False) (fun _ => False) (fun d => ∃ cs : List Int, d = lI cs ∧ cnt ≤ cs.length ∧ cs.length ≤ 63) := by
      refine ds_while (fun v ρ => ∃ cs : List Int, v = 63 - cs.length ∧ cs.length ≤ 63 ∧ ρ = [.any, .d (.int (cnt : Int)), .own (cs.map D.int), .any]) (63 - ns.length) ⟨_, EnvLe.refl _, ns, rfl, hn, rfl⟩ ?_
      rintro v ρ ⟨cs, rfl, hcs, rfl⟩
      walk_at "d"
      rw [List.length_map]
      refine ifd (fun g => ?_) (fun g => ?_)
      · walk_at "d"
        rw [List.length_map]
        refine ⟨Nat.lt_of_le_of_lt hcs (by decide), ?_⟩
        walk_at "d"
        refine' ⟨_, EnvLe.refl _, 63 - (cs.length + 1), by omega, cs ++ [(cs.length : Int) + 5], by rw [List.length_append]; rfl, by rw [List.length_append]; show cs.length + 1 ≤ 63; omega, by rw [List.map_append]; exact rfl⟩
      · walk_at "d"
        exact ⟨cs, rfl, by omega, hcs⟩
    have o0 : EnvOk K (V0 H G) [.any, .d (.int (cnt : Int)), .any, .any] [some (.ref sc), some (.int (cnt : Int)), none, none] [] G := env_flat rfl (fun i e hi => by
      match i, hi with
      | 0, hi => cases hi; exact ⟨_, rfl, .inl rfl⟩
      | 1, hi => cases hi; exact ⟨_, rfl, .inr ⟨_, rfl, rfl, Rp.int _⟩⟩
      | 2, hi => cases hi; exact ⟨_, rfl, .inl rfl⟩
      | 3, hi => cases hi; exact ⟨_, rfl, .inl rfl⟩) (Ex.refl G)
    intro H' j
    have hg : (V0 H G).Ge p = none := np
    have hh : (V0 H G).He p = none := j.new p (by rw [gp]; exact fun z => by cases z) hg
    have o1 := o0.own (i := 2) (p := p) (u := HI.ex (.lst (ns.map V.int))) (e := .own (ns.map D.int)) np e (fun _ => .own List.mem_cons_self (rpa_of_ints ns)) (fun ws z => by cases z) (fun z => z) hh hg
    have j1 := j.hides_nil.own (I := HI.ex (.lst (ns.map V.int))) gp rfl hg
    have eo := woEx (G' := G2) np e
    have kr : ∀ Gx, Ex G Gx → KR K (V0 H G) Q Gx (fun d => ∃ cs : List Int, d = lI cs ∧ cnt ≤ cs.length ∧ cs.length ≤ 63) := fun Gx ex d v L' G' ⟨cs, hd, h1, h2⟩ rp e lo H' j => by
      subst hd
      refine q v H' G' j.keep (ex.trans e) j.unhides.up j.new ?_
      cases (rp : Rp K G' v (lI cs)) with
      | lst a b =>
        have := rpa_ints b
        subst this
        exact ⟨_, cs, rfl, a, h1, h2⟩
    refine key (V0 H G) _ _ _ ⟨tRet (tVar 2) { nx := fun x H' => Q V.non H', rt := Q }, Q, fun _ _ => False, fun _ _ => False⟩ o1 (fun ρ' σ' L' G' k o' e' => k (V0 H G) σ' L' G' ⟨fun x H' => Q V.non H', Q, fun _ _ => False, fun _ _ => False⟩ o' (fun _ _ _ _ z => z.elim) (fun _ _ _ _ z => z.elim) (fun _ _ _ _ z => z.elim) (kr G' (eo.trans e'))) (fun _ _ _ _ z => z.elim) (fun _ _ _ _ z => z.elim) (kr _ eo) H' j1

end
/-! ### a list that holds a list, both the def's own -/
theorem ds_loNew {K : PySem.W.Frag} {ρ : List Wp.E} {N B C : List Wp.E → Prop} {R : D → Prop} {i : Nat} (h : SetTo ρ i (.lo [.own []]) N) : DS K (tAsg (tLst (tCons (tLst tNil) tNil)) (gName i)) ρ N B C R := fun U σ L G Dn o n b c r H j => by
  have m : EM (U.hides L) (tLst (tCons (tLst tNil) tNil)) σ G fun v G2 => ∃ p1 p2 G1, v = .ref p2 ∧ G p1 = none ∧ Ex G G1 ∧ G1 p1 = some (.lst []) ∧ G1 p2 = none ∧ Ex G1 G2 ∧ G2 p2 = some (.lst [.ref p1]) :=
    em_lst (am_cons (em_lst (am_nil ⟨Nat.zero_le _, fun p1 G1 h1 h2 h3 => am_nil ⟨show 1 ≤ sizeLine from by decide, fun p2 G2 h4 h5 h6 => ⟨p1, p2, G1, rfl, h1, h2, h3, h4, h5, h6⟩⟩⟩)))
  refine m H j _ fun v H1 G2 j1 ⟨p1, p2, G1, ev, np1, e1, g1, np2, e2, g2⟩ => ?_
  obtain ⟨ρ', hr, kn⟩ := h
  subst ev hr
  have g1' := e2 _ _ g1
  have ne : p2 ≠ p1 := fun z => by rw [z, g1] at np2; cases np2
  have gp1 : U.Ge p1 = none := none_of_ex o.ge np1
  have gp2 : U.Ge p2 = none := none_of_ex o.ge (none_of_ex e1 np2)
  have hl : ∀ (p : Addr) (u : HO), G2 p = some u → (∀ ws, (p, ws) ∉ L) ∧ ¬ U.m p := by
    intro p u g
    constructor
    · intro ws hw
      have := (j1.msk p (.inr ⟨ws, hw⟩)).1
      rw [g] at this; cases this
    · intro z
      have := (j1.msk p (.inl z)).1
      rw [g] at this; cases this
  have hn1 : U.He p1 = none := j1.new p1 (by rw [g1']; exact fun q => by cases q) gp1
  have hn2 : U.He p2 = none := j1.new p2 (by rw [g2]; exact fun q => by cases q) gp2
  have ja := j1.own g1' (I := .ex (.lst [])) rfl gp1
  have g2' : wo p1 G2 p2 = some (.lst [.ref p1]) := by rw [wo_ne ne]; exact g2
  have jb := ja.own g2' (I := .ex (.lst [.ref p1])) rfl gp2
  have x : Ex G (wo p2 (wo p1 G2)) := fun a u g => by
    have n1 : a ≠ p1 := fun z => by rw [z, np1] at g; cases g
    have n2 : a ≠ p2 := fun z => by rw [z, none_of_ex e1 np2] at g; cases g
    rw [wo_ne n2, wo_ne n1]; exact (e1.trans e2) _ _ g
  have lo1 : LOk U ((p1, HI.ex (.lst [])) :: L) := o.lo.cons (hl _ _ g1').1 (hl _ _ g1').2 hn1 gp1
  have nl2 : ∀ ws, (p2, ws) ∉ (p1, HI.ex (.lst [])) :: L := fun ws hw => by
    rcases List.mem_cons.mp hw with z | z
    · cases z; exact ne rfl
    · exact (hl _ _ g2).1 _ z
  have lo2 := lo1.cons (o := HI.ex (.lst [.ref p1])) nl2 (hl _ _ g2).2 hn2 gp2
  refine n _ _ _ _ kn (o.put (L' := (p2, HI.ex (.lst [.ref p1])) :: (p1, HI.ex (.lst [])) :: L) x (fun q hq => List.mem_cons_of_mem _ (List.mem_cons_of_mem _ hq)) lo2 (F := [p2, p1]) (.lo (F := [p1]) List.mem_cons_self (.cons (F := [p1]) (F' := []) (.own (List.mem_cons_of_mem _ List.mem_cons_self) .nil) .nil)) (by simp [ne]) (fun a ha u hu => ?_)) x H1 jb
  simp at ha
  rcases ha with rfl | rfl
  · exact (hl _ _ g2).1 _ hu
  · exact (hl _ _ g1').1 _ hu
theorem ds_appendLo {K : PySem.W.Frag} {ρ : List Wp.E} {N B C : List Wp.E → Prop} {R : D → Prop} {i : Nat} {te : TE} (h : ∃ ds, ρ[i]? = some (.lo [.own ds]) ∧ DE K te ρ fun e => DD e fun d => ds.length < sizeLine ∧ SetTo ρ i (.lo [.own (ds ++ [d])]) N) : DS K (tDrop (tBM K "list" rAppend (tOp (Wp.rIxS K) (tVar i) (tC (V.int 0))) (tCons te tNil))) ρ N B C R := fun U σ L G Dn o n b c r H j => by
  obtain ⟨ds, hi, h⟩ := h
  obtain ⟨v, F, h3, hs, hnd, hup⟩ := o.upd hi rfl
  cases hs with
  | @lo a _ _ _ m s =>
    cases s with
    | cons s1 s2 =>
      cases s2
      cases s1 with
      | @own p vs _ m2 k =>
        have ne : a ≠ p := fun z => by subst z; simp at hnd
        obtain ⟨n1, n2, _⟩ := o.lo.nm _ m2
        refine ⟨_, h3, .inl ⟨a, [.ref p], 0, .ref p, rfl, rfl, sq_of (j.at m), rfl, .inl ⟨rfl, vs, sq_of (j.at m2)⟩, h U σ L G o H j _ fun y H1 G1 j1 ⟨e1, x, sx, d, ed, hz, ρ', hr, kn⟩ => ⟨p, vs, y, rfl, rfl, j1.at m2, by rw [k.len]; exact hz, ?_⟩⟩⟩
        subst ed hr
        exact n _ _ _ _ kn (hup _ G1 _ (a :: ([p] ++ [])) e1 (fun q I hq => mem_setO (o.lo.nce hq m2) hq) (fun q u nq hq => mem_setO (fun z => nq (by rw [z]; simp)) hq) (o.lo.setO _ _) (.lo (mem_setO ne m) (.cons (.own (mem_setO_self m2) ((RpA.one sx).app (k.mono e1))) .nil)) hnd (fun _ h => .inl h)) e1 _ (j1.chg m2 rfl n1 n2)
theorem ds_freezeLo {K : PySem.W.Frag} {ρ ρ' : List Wp.E} {N B C : List Wp.E → Prop} {R : D → Prop} {ts : TS} (i : Nat) {ds : List D} (hi : ρ[i]? = some (.lo [.own ds])) (hr : ρ.set i (.own [.lst ds]) = ρ') (h : DS K ts ρ' N B C R) : DS K ts ρ N B C R := fun U σ L G Dn o n b c r H j => by
  obtain ⟨v, F, h3, hs, hnd, hup⟩ := o.upd hi rfl
  cases hs with
  | @lo a _ _ _ m s =>
    cases s with
    | cons s1 s2 =>
      cases s2
      cases s1 with
      | @own p vs _ m2 k =>
        have ne : a ≠ p := fun z => by subst z; simp at hnd
        have na : G p = none := (j.msk p (.inr ⟨_, m2⟩)).1
        have e : Ex G (upd G p (.lst vs)) := Ex.new na
        obtain ⟨n1, n2, _⟩ := o.lo.nm _ m2
        subst hr
        exact h U σ _ _ Dn (hup (L.filter fun q => decide (q.1 ≠ p)) (upd G p (.lst vs)) (.own [.lst ds]) [a] e (fun q I hq => List.mem_filter.mpr ⟨hq, by simpa using o.lo.nce hq m2⟩) (fun q u nq hq => List.mem_filter.mpr ⟨hq, by simp; exact fun z => nq (by rw [z]; simp)⟩) (o.lo.filter _) (.own (List.mem_filter.mpr ⟨m, by simpa using ne⟩) (RpA.one (.lst upd_same (k.mono e)))) (by simp) (fun q hq => .inl (by simp at hq; rw [hq]; simp))) (n.mono e) (b.mono e) (c.mono e) (r.mono e) H (j.show m2 n1 n2)
theorem rgs_at {n i : Nat} {l : Int} (h : (rgI 0 1 n)[i]? = some l) : l = (i : Int) ∧ i < n := by
  have h1 : i < n := by have := (List.getElem?_eq_some_iff.mp h).1; rwa [rgI_len] at this
  rw [rgI_at h1] at h
  have := Option.some.inj h
  exact ⟨by omega, h1⟩

/-! ### an own list, lent to an expression that answers no list -/
mutual
def noL : D → Bool
  | .non => true
  | .bl _ => true
  | .int _ => true
  | .str _ => true
  | .lst _ => false
  | .tup ds => noLs ds
  | .obj _ _ _ => false
  | .dct _ _ => false
  | .adr _ => true
def noLs : List D → Bool
  | [] => true
  | d :: ds => noL d && noLs ds
end
theorem rp_wo {K : PySem.W.Frag} {F : Hp} {a : Addr} {ws : List V} (h : F a = some (.lst ws)) : ∀ (d : D) (v : V), noL d = true → Rp K F v d → Rp K (wo a F) v d
  | .non, v, _, r => by cases r; exact .non
  | .bl b, v, _, r => by cases r; exact .bl b
  | .int b, v, _, r => by cases r; exact .int b
  | .str b, v, _, r => by cases r; exact .str b
  | .lst ds, v, n, r => by cases n
  | .tup ds, v, n, r => by
    cases r with
    | tup x b =>
      refine .tup ?_ (all ds _ n b)
      rcases x with (x | ⟨o, x⟩) | x
      · exact .inl (.inl (by rw [wo_ne (fun z => by rw [z, h] at x; cases x)]; exact x))
      · exact .inl (.inr ⟨o, by rw [wo_ne (fun z => by rw [z, h] at x; cases x)]; exact x⟩)
      · exact .inr x
  | .obj C ks ds, v, n, r => by cases n
  | .dct ks ds, v, n, r => by cases n
  | .adr a, v, _, r => by cases r; exact .adr a
where
  all : ∀ (ds : List D) (vs : List V), noLs ds = true → RpA K F vs ds → RpA K (wo a F) vs ds
  | [], vs, _, r => by cases r; exact .nil
  | d :: ds, vs, n, r => by
    have n1 : (noL d && noLs ds) = true := n
    rw [Bool.and_eq_true] at n1
    cases r with | cons x b => exact .cons (rp_wo h d _ n1.1 x) (all ds _ n1.2 b)
theorem de_lendL {K : PySem.W.Frag} {ρ : List Wp.E} {Q : Wp.E → Prop} {te : TE} (i : Nat) {ds : List D} {ρ' : List Wp.E} (hi : ρ[i]? = some (.own ds)) (hr : ρ.set i (.d (.lst ds)) = ρ') (h : DE K te ρ' fun y => ∃ d, y = .d d ∧ noL d = true ∧ Q (.d d)) : DE K te ρ Q := fun U σ L G o H j QH q => by
  obtain ⟨v, h3, a, vs, rfl, hm, k⟩ := o.at hi rfl
  have na : G a = none := (j.msk a (.inr ⟨_, hm⟩)).1
  have e : Ex G (upd G a (.lst vs)) := Ex.new na
  obtain ⟨n1, n2, n3⟩ := o.lo.nm _ hm
  subst hr
  refine h U σ _ _ (o.shown hi rfl own1 h3 hm na fun x => .lst upd_same (k.mono x)) H (j.show hm n1 n2) QH fun v H1 G1 j1 ⟨e1, y, sy, d, ey, nd, k2⟩ => ?_
  have g1 : G1 a = some (.lst vs) := e1 _ _ upd_same
  have j2 := (j1.own (I := .ex (.lst vs)) g1 rfl n3).same (own_back o.lo hm)
  subst ey
  exact q _ _ _ j2 ⟨woEx na (e.trans e1), .d d, rp_wo g1 d v nd sy, k2⟩

theorem fn_lawC {K : PySem.W.Frag} {Nm : List Str} {ts : TS} {vs : List V} {H : Hp} {QV : VK} {E' E2 : XK} {i : Nat} {n : Int} (h : sp_lawD K vs H QV E') (hi : 1 ≤ i) (hl : i < Nm.length) (h0 : 0 ≤ n) (h1 : n ≤ 63) (hb : ∀ cs : List Int, n.toNat ≤ cs.length → cs.length ≤ 63 → DS K ts ((List.replicate Nm.length Wp.E.any).set i (.d (lI cs))) (fun _ => False) (fun _ => False) (fun _ => False) (fun d => d = .bl true)) :
    (tSeq (tAsg (tCall (spCells K) [] E2 (tCons (tVar 0) (tCons (tC (.int n)) tNil))) (gName i)) ts) { nx := fun _ H' => QV .non H', rt := QV } (L2.start Nm vs) H := by
  obtain ⟨sc, ns, rfl, hS, hn, q⟩ := h
  refine (show SM (V0 H H) _ _ _ H from ?_) H (J.start (Ex.refl H))
  refine sm_seq (sm_asg (em_call (am_cons (em_var (show (L2.start Nm [V.ref sc])[0]? = some (some (V.ref sc)) from rfl) (am_cons (em_c (am_nil ?_)))))))
  refine cm_a (sc, ns, n.toNat) ⟨by rw [Int.toNat_of_nonneg h0], hS, hn, by show n.toNat ≤ 63; omega⟩ fun v G2 e2 ⟨p, cs, ev, gp, hlo, hhi⟩ => ?_
  subst ev
  refine gm_name (km_next ?_)
  intro H' j
  refine hb cs hlo hhi (V0 H H) _ [] G2 ⟨fun _ H' => QV .non H', QV, fun _ _ => False, fun _ _ => False⟩ ?_ (fun _ _ _ _ z => z.elim) (fun _ _ _ _ z => z.elim) (fun _ _ _ _ z => z.elim) (fun d v L' G' r s' e lo H' j => by subst r; cases s'; exact q H') H' j.hides_nil
  refine env_flat (by show ((L2.start Nm [V.ref sc]).set i (some (.ref p))).length = _; unfold L2.start; simp; omega) (fun j e h => ?_) e2
  show ∃ o, ((L2.start Nm [V.ref sc]).set i (some (.ref p)))[j]? = some o ∧ _
  have hlen : (L2.start Nm [V.ref sc]).length = Nm.length := by unfold L2.start; simp; omega
  by_cases z : i = j
  · subst z
    rw [List.getElem?_set_self (by simp; omega)] at h
    cases h
    exact ⟨_, List.getElem?_set_self (by rw [hlen]; exact hl), .inr ⟨_, rfl, rfl, Rp.lst gp (rpa_of_ints cs)⟩⟩
  · rw [List.getElem?_set_ne z] at h ⊢
    rw [List.getElem?_replicate] at h
    split at h
    · rename_i hj
      cases h
      obtain ⟨o, ho⟩ : ∃ o, (L2.start Nm [V.ref sc])[j]? = some o := ⟨_, List.getElem?_eq_getElem (by rw [hlen]; exact hj)⟩
      exact ⟨o, ho, .inl rfl⟩
    · cases h
theorem sum_bd : ∀ {l : List Int}, (∀ y ∈ l, 1 ≤ y ∧ y ≤ 9) → 0 ≤ l.sum ∧ l.sum ≤ 9 * l.length
  | [], _ => ⟨Int.le_refl 0, Int.le_refl 0⟩
  | y :: l, h => by
    have h1 := h y List.mem_cons_self
    have h2 := sum_bd fun z hz => h z (List.mem_cons_of_mem _ hz)
    rw [List.sum_cons, List.length_cons]
    omega
def sp_law (K : PySem.W.Frag) : Sp := sp_lawD K
theorem law_starts (K : PySem.W.Frag) (H : Hp) (a : Addr) (ns : List Int) (hl : ns.length ≤ 63) (hS : SqL K H a (ns.map V.int)) : sp_law K [.ref a] H (fun v _ => v = .bl true) fun _ _ _ => False := ⟨a, ns, rfl, hS, hl, fun _ => rfl⟩

theorem de_header {K : PySem.W.Frag} {ρ : List Wp.E} {Q : Wp.E → Prop} {E' : XK} {tas : TA} (h : DA K tas ρ fun as => ∃ h : Hdr, as = hdV h ∧ Q (.d (hdD K h))) : DE K (tMake (He.ga K "Header") (sp_Header___init__ K) [] E' tas) ρ Q :=
  de_makeO (fun _ => rfl) (fun _ => rfl) fun U σ L G o => (h U σ L G o).w fun vs G1 ⟨e1, ds, sd, x, ed, k⟩ => ⟨e1, ds, sd, x, ed, trivial, fun d w' h => h.1, fun w' h => ⟨_, _, h.2, k⟩⟩
theorem de_block {K : PySem.W.Frag} {ρ : List Wp.E} {Q : Wp.E → Prop} {E' : XK} {tas : TA} (h : DA K tas ρ fun as => ∃ (h : Hdr) (b1 b2 b3 : Bool) (ms fo : List (Int × Int)) (vs : List (Int × List Int)), as = [hdD K h, sqP prT b1 ms, sqP prT b2 fo, sqP vtT b3 vs] ∧ Q (.d (bkD K ⟨h, ms, fo, vs⟩))) : DE K (tMake (He.ga K "Block") (sp_Block___init__ K) [] E' tas) ρ Q :=
  de_makeO (fun _ => rfl) (fun _ => rfl) fun U σ L G o => (h U σ L G o).w fun vs G1 ⟨e1, ds, sd, x, b1, b2, b3, ms, fo, vs', ed, k⟩ => ⟨e1, ds, sd, (x, (b1, ms), (b2, fo), (b3, vs')), ed, trivial, fun d w' h => h.1, fun w' h => ⟨_, _, h.2, k⟩⟩

section
theorem pubW_bd {wd : Int} (h4 : 4 ≤ wd) (h : wd ≤ 128) (sec : Int) (lv : Nat) : Bd (pubW wd sec lv) := bd_rng (k := 128) (pub_rng h4 h sec lv).1 (pub_rng h4 h sec lv).2 (by decide)
def sp__law_block (K : PySem.W.Frag) : Sp := spC K (fun x : Int × List SgT × List Int × Int => [Hs K x.1, .lst (x.2.1.map (sgDD K x.1)), lI x.2.2.1, .int x.2.2.2]) (fun x => x.2.1.map (sgC x.1)) (fun x => 4 ≤ x.1 ∧ x.1 ≤ 128 ∧ 1 ≤ x.2.1.length ∧ x.2.1.length ≤ 5 ∧ SgOk x.1 2 x.2.1 ∧ (∀ s ∈ x.2.1, s.2.1 = 2) ∧ x.2.2.1.length = x.2.1.length ∧ (∀ v ∈ x.2.2.1, 1 ≤ v ∧ v ≤ 4) ∧ 0 ≤ x.2.2.2) fun x d ns => ns = [] ∧ ∃ b : Blk, d = bkD K b ∧ BkB b
local macro_rules | `(tactic| walk_at "d1") => `(tactic| first
  | ((with_reducible refine' de_cdv ?hicc ?_); (case hicc => exact rfl))
  | with_reducible refine de_sign ?_
  | with_reducible refine de_header ?_
  | with_reducible refine de_block ?_
  | with_reducible refine de_new (dn_sortP ?_)
  | with_reducible refine de_new (dn_sortF ?_))
local macro_rules | `(tactic| walk_at "d1") => `(tactic| with_reducible refine ds_own (dn_list ?_))
theorem ok__law_block (T : Txt K mg) : FnOk P w K mg base CX0 (21) (He.fAd K ("_law_block", none)) T.fd__law_block ["hasher", "keys", "weights", "y"] (sp__law_block K) := by
  refine T._law_block.F.ok sc__law_block (fun vs H Q E h => len_c h fun _ => rfl) (fun cdv A outer s H vs Q E hr h => ⟨_, PSs.nox (pss_cons (ps_set (i := 4) sc__law_block.nd rfl (Or.inl rfl) (pe_callTy (kq_tuple (K := K)) (by rfl) T.z_tuple (by decide +kernel) (pa_cons (pe_callB (kr_sortB (K := K)) (by rfl) T.z_sorted (by decide +kernel) (pa_cons (pe_lc (own := [("k", 11)]) rfl sc__law_block.nd (pi_range1 rfl T.z_range (pa_cons (pe_callB (kq_lenA (K := K)) (by rfl) T.z_len (by decide +kernel) (pa_cons (pv 1) pa_nil)) pa_nil)) (blkOk_by (own := [("k", 11)]) (N := ["hasher", "keys", "weights", "y", "members", "root", "header", "message", "rest", "votes", "signer", "k"]) (sc := defScope s__law_block) (by decide +kernel)) (fun _ _ _ _ _ => pg_name (i := 11) sc__law_block.nd rfl (Or.inl rfl)) (fun _ _ _ _ _ => (pts_one (PW.pt (pw_or (pt_cmpR (op_gt) (pe_op op_mod (pe_callTy cq_int (by rfl) T.z_int (by decide +kernel) (pa_cons (pv 3) pa_nil)) pe_int) pe_int (nomark _)) (pw_or1 (pt_cmpR (op_lt) (pv 11) (pe_op op_sub (pe_callB (kq_lenA (K := K)) (by rfl) T.z_len (by decide +kernel) (pa_cons (pv 1) pa_nil)) pe_int) (nomark _))))))) (fun _ _ _ _ _ => (pe_tup (pa_cons (ke_fld (K := K) (pe_ix (kx_seq (K := K)) (pv 1) (pv 11) (fun _ _ => rfl))) (pa_cons (pe_ix (kx_seq (K := K)) (pv 2) (pv 11) (fun _ _ => rfl)) pa_nil))))) pa_nil)) pa_nil)))
  (pss_cons (ps_set (i := 5) sc__law_block.nd rfl (Or.inl rfl) (pe_call (ok_members_root T) (hr.mono (by omega)) (by rfl) T.members_root.g T.members_root.F.kp T.members_root.b .nil pass0 (pa_cons (pv 0) (pa_cons (pv 4) pa_nil))))
  (pss_cons (ps_set (i := 6) sc__law_block.nd rfl (Or.inl rfl) (pe_make T.mk_Header (ok_Header___init__ T) (hr.mono (by omega)) (by rfl) T.g_Header T.Header___init__.b .nil pass0 (pa_cons pe_int (pa_cons (pe_op (kp_addA (K := K)) pe_int (pe_callTy cq_int (by rfl) T.z_int (by decide +kernel) (pa_cons (pe_cmpR (kp_eqB (K := K) hr.units) (pe_op op_mod (pe_op op_fdivW (pv 3) pe_int) pe_int) pe_int (nomark _)) pa_nil))) (pa_cons (pe_op (kp_addA (K := K)) pe_int (pe_op op_mod (pe_op op_fdivW (pv 3) pe_int) pe_int)) (pa_cons pe_int (pa_cons (pe_op op_mod (pe_op op_fdivW (pv 3) pe_int) pe_int) (pa_cons (pv 5) (pa_cons (pv 5) pa_nil)))))))))
  (pss_cons (ps_set (i := 7) sc__law_block.nd rfl (Or.inl rfl) (pe_call (ok_vote_message T) (hr.mono (by omega)) (by rfl) T.vote_message.g T.vote_message.F.kp T.vote_message.b .nil pass0 (pa_cons (pv 0) (pa_cons (pv 6) pa_nil))))
  (pss_cons (ps_set (i := 8) sc__law_block.nd rfl (Or.inl rfl) (pe_op op_fdivW (pv 3) pe_int))
  (pss_cons (ps_set (i := 9) sc__law_block.nd rfl (Or.inl rfl) (pe_lst pa_nil))
  (pss_cons (ps_for PassesOwn.never rfl (ki_sq (K := K) (pv 1)) (pg_name (i := 10) sc__law_block.nd rfl (Or.inl rfl)) (pss_cons (ps_cut (ps_if (pt_cmpR (op_gt) (pe_op op_mod (pe_callTy cq_int (by rfl) T.z_int (by decide +kernel) (pa_cons (pv 8) pa_nil)) pe_int) pe_int (nomark _)) (pss_one (ps_expr (pe_bm PySem.F.plainAttrs_list PySem.F.slot_list_append PySem.F.type_list_append mt_append (pv 9) (pa_cons (pe_tup (pa_cons (ke_fld (K := K) (pv 10)) (pa_cons (pe_meth (pv 10) T.cl_Signer T.me_Signer_sign (ok_Signer_sign T) (hr.mono (by omega)) T.Signer_sign.b .nil pass0 (pa_cons (pe_op op_mod (pe_op op_fdivW (pv 8) pe_int) pe_int) (pa_cons (pv 7) pa_nil))) pa_nil))) pa_nil)))) pss_nil))
  (pss_one (ps_set (i := 8) sc__law_block.nd rfl (Or.inl rfl) (pe_op op_fdivW (pv 8) pe_int)))))
  (pss_one (ps_ret (pe_make T.mk_Block (ok_Block___init__ T) (hr.mono (by omega)) (by rfl) T.g_Block T.Block___init__.b .nil pass0 (pa_cons (pv 6) (pa_cons (pv 4) (pa_cons (pv 4) (pa_cons (pe_callB (cr_sortF (K := K)) (by rfl) T.z_sorted (by decide +kernel) (pa_cons (pv 9) pa_nil)) pa_nil)))))))))))))), fn_c h fun x p => ?_⟩)
  change DS K _ (Wp.E.cd _ _ :: (Wp.E.d _ :: (Wp.E.d _ :: (Wp.E.d _ :: (Wp.E.any :: (Wp.E.any :: (Wp.E.any :: (Wp.E.any :: (Wp.E.any :: (Wp.E.any :: (Wp.E.any :: (Wp.E.any :: [])))))))))))) _ _ _ _
  obtain ⟨wd, sg, wt, y⟩ := x
  obtain ⟨⟨w4, w128, l1, l5, hok, hlv, hwl, hwb, y0⟩, hfn⟩ := p
  dsimp only at w4 w128 l1 l5 hok hlv hwl hwb y0 hfn ⊢
  have hcs := T.cl_Signer
  have hs3 := T.n_Signer_public
  have hs4 := T.n_Signer_levels
  walk_at "d"
  obtain ⟨P, hP⟩ : ∃ P : Int → Int × Int, ∀ (i : Nat) s, sg[i]? = some s → P (i : Int) = (pubW wd s.1 s.2.1, wt.getD i 0) := ⟨fun k => ((sg[k.toNat]?.map fun s => pubW wd s.1 s.2.1).getD 0, wt.getD k.toNat 0), fun i s h => by simp [h]⟩
  refine de_new (dn_filt D.int (fun k => prT (P k)) (fun k => decide (0 < y % 7 ∨ k < (sg.length : Int) - 1)) ?_)
  walk_at "d"
  have hPb : ∀ k ∈ rgI 0 1 sg.length, (0 ≤ (P k).1 ∧ (P k).1 < 2 ^ 128) ∧ 1 ≤ (P k).2 ∧ (P k).2 ≤ 4 := fun k hk => by
    obtain ⟨i, hi⟩ := List.getElem?_of_mem hk
    obtain ⟨rfl, hl⟩ := rgs_at hi
    obtain ⟨s, hs⟩ : ∃ s, sg[i]? = some s := ⟨_, List.getElem?_eq_getElem hl⟩
    rw [hP i s hs]
    refine ⟨pub_rng w4 w128 _ _, ?_⟩
    dsimp only
    rw [List.getD_eq_getElem?_getD, List.getElem?_eq_getElem (show i < wt.length by omega)]
    exact hwb _ (List.getElem_mem _)
  refine ⟨(sg.length : Int), rfl, by unfold Big; omega, rgI 0 1 sg.length, rfl, by rw [rgI_len]; omega, fun i k hk => dgw_name rfl (by decide) rfl ?_, ?_⟩
  · obtain ⟨rfl, hl⟩ := rgs_at hk
    obtain ⟨s, hs⟩ : ∃ s, sg[i]? = some s := ⟨_, List.getElem?_eq_getElem hl⟩
    walk_at "d"
    refine ifd (fun g => ?_) (fun g => ?_)
    · refine ⟨(decide_eq_true (.inl g)).symm, fun _ => ?_⟩
      walk_at "d"
      refine ⟨_, atI_map hs, ?_⟩
      walk_at "d"
      refine ⟨_, atI_map (List.getElem?_eq_getElem (show i < wt.length by omega)), ?_⟩
      walk_at "d"
      rw [hP i s hs, List.getD_eq_getElem?_getD, List.getElem?_eq_getElem (show i < wt.length by omega)]
      rfl
    · walk_at "d"
      refine ⟨decide_eq_decide.mpr ⟨fun z => .inr z, fun z => z.elim (fun z => absurd z g) id⟩, fun _ => ?_⟩
      walk_at "d"
      refine ⟨_, atI_map hs, ?_⟩
      walk_at "d"
      refine ⟨_, atI_map (List.getElem?_eq_getElem (show i < wt.length by omega)), ?_⟩
      walk_at "d"
      rw [hP i s hs, List.getD_eq_getElem?_getD, List.getElem?_eq_getElem (show i < wt.length by omega)]
      rfl
  generalize hms : (rgI 0 1 sg.length).filter (fun k => decide (0 < y % 7 ∨ k < (sg.length : Int) - 1)) = ks
  have hkm : ∀ k ∈ ks, k ∈ rgI 0 1 sg.length := fun k hk => by rw [← hms] at hk; exact (List.mem_filter.mp hk).1
  have hkl : ks.length ≤ sg.length := by rw [← hms]; exact Nat.le_trans (List.length_filter_le _ _) (by rw [rgI_len]; exact Nat.le_refl _)
  clear hms
  refine ⟨ks.map P, .inl (by rw [List.map_map]; rfl), by rw [List.length_map]; omega, fun p hp => ?_, fun ms hpm _ => ?_⟩
  · obtain ⟨k, hk, rfl⟩ := List.mem_map.mp hp
    obtain ⟨⟨b1, b2⟩, b3, b4⟩ := hPb k (hkm k hk)
    exact ⟨b1, Int.lt_trans b2 (by decide), by omega, Int.lt_of_le_of_lt b4 (by decide)⟩
  have hmb : MbB ms := by
    refine ⟨by rw [hpm.length_eq, List.length_map]; omega, fun p hp => ?_⟩
    obtain ⟨k, hk, rfl⟩ := List.mem_map.mp (hpm.mem_iff.mp hp)
    obtain ⟨⟨b1, b2⟩, b3, b4⟩ := hPb k (hkm k hk)
    exact ⟨bd_rng (k := 128) b1 b2 (by decide), bd_small (by omega) (by omega)⟩
  clear hpm hPb hkm hkl hP
  walk_at "d"
  refine dc_g (wd, ms) rfl ⟨by show 0 ≤ wd; omega, w128, by show ms.length ≤ 1000; have := hmb.1; omega, mb_lim hmb⟩ ?_
  dsimp only
  have hrb := bd_dgst w4 w128 9 (nmM ms)
  generalize dgst wd 9 (nmM ms) = rt at hrb ⊢
  walk_at "d"
  obtain ⟨hd, hhd, hhb⟩ : ∃ hd : Hdr, [D.int 7, D.int (3 + if decide (y / 7 % 9 = 4) = true then 1 else 0), D.int (50 + y / 63 % 2), D.int 9, D.int (y / 126 % 2), D.int rt, D.int rt] = hdV hd ∧ ∀ n ∈ hd.fs, Bd n := ⟨⟨7, _, _, 9, _, rt, rt⟩, rfl, fun n hn => by
    simp only [Hdr.fs, List.mem_cons, List.mem_nil_iff, or_false] at hn
    rcases hn with rfl | rfl | rfl | rfl | rfl | rfl | rfl
    · exact bd_small (by decide) (by decide)
    · exact bd_small (by split <;> decide) (by split <;> decide)
    · exact bd_small (by omega) (by omega)
    · exact bd_small (by decide) (by decide)
    · exact bd_small (by omega) (by omega)
    · exact hrb
    · exact hrb⟩
  refine ⟨hd, hhd, ?_⟩
  clear hhd
  walk_at "d"
  refine dc_g (wd, hd) rfl ⟨w4, w128, hhb⟩ ?_
  dsimp only
  generalize vmW wd hd = msg
  walk_at "d"
  refine ds_for ?_
  walk_at "d"
  refine ⟨fun i ρ => ∃ (vs : List (Int × List Int)) (rest : Int), vs.length ≤ i ∧ (vs.map (·.1)).Sublist ((sg.take i).map fun s => pubW wd s.1 s.2.1) ∧ ∃ e10 e11, ρ = [.cd (Hs K wd) (sg.map (sgC wd)), .d (.lst (sg.map (sgDD K wd))), .d (lI wt), .d (.int y), .d (mbD ms), .d (.int rt), .d (hdD K hd), .d (.int msg), .d (.int rest), .own (vs.map vtT), e10, e11], ⟨_, EnvLe.refl _, [], _, Nat.le_refl _, List.nil_sublist _, _, _, rfl⟩, ?_, ?_⟩
  · rintro i d ρ hd' ⟨vs, rest, hvl, hvs, e10, e11, rfl⟩
    rw [List.getElem?_map] at hd'
    obtain ⟨s, hs, rfl⟩ := Option.map_eq_some_iff.mp hd'
    have hil := (List.getElem?_eq_some_iff.mp hs).1
    have hsm : s ∈ sg := List.mem_of_getElem? hs
    have htk : (sg.take (i + 1)).map (fun s => pubW wd s.1 s.2.1) = (sg.take i).map (fun s => pubW wd s.1 s.2.1) ++ [pubW wd s.1 s.2.1] := by rw [List.take_add_one, hs, List.map_append]; rfl
    walk_at "d"
    refine ds_cut (fun ρ => ∃ (vs : List (Int × List Int)), vs.length ≤ i + 1 ∧ (vs.map (·.1)).Sublist ((sg.take (i + 1)).map fun s => pubW wd s.1 s.2.1) ∧ ∃ e10 e11, ρ = [.cd (Hs K wd) (sg.map (sgC wd)), .d (.lst (sg.map (sgDD K wd))), .d (lI wt), .d (.int y), .d (mbD ms), .d (.int rt), .d (hdD K hd), .d (.int msg), .d (.int rest), .own (vs.map vtT), e10, e11]) ?_ ?_
    · refine ds_if ?_
      walk_at "d"
      refine ifd (fun g => ?_) (fun g => ?_)
      · obtain ⟨sec, lv, dd⟩ := s
        obtain ⟨bs, l2⟩ := hok.2 _ hsm
        have hlv2 : lv = 2 := hlv _ hsm
        subst hlv2
        dsimp only at bs
        walk_at "d"
        refine ⟨wd, sec, 2, dd, rfl, ⟨0, _, _, rfl, List.mem_map.mpr ⟨_, hsm, rfl⟩⟩, w4, w128, bs, by decide, ?_⟩
        obtain ⟨b, hb, hbl⟩ : ∃ b : Nat, rest / 5 % 4 = (b : Int) ∧ b < 2 ^ 2 := ⟨(rest / 5 % 4).toNat, by omega, by omega⟩
        walk_at "d"
        refine ⟨b, msg, by rw [hb], hbl, ?_⟩
        generalize sigL wd sec 2 b msg = sig
        walk_at "d"
        refine ⟨by rw [List.length_map]; exact Nat.lt_of_le_of_lt (show vs.length ≤ 1000 by omega) (by decide), ?_⟩
        walk_at "d"
        refine' ⟨_, EnvLe.refl _, vs ++ [(pubW wd sec 2, sig)], by rw [List.length_append]; show vs.length + 1 ≤ _; omega, by rw [htk, List.map_append]; exact hvs.append (List.Sublist.refl _), _, _, by rw [List.map_append]; exact rfl⟩
      · walk_at "d"
        exact ⟨_, EnvLe.refl _, vs, by omega, by rw [htk]; exact hvs.trans (List.sublist_append_left _ _), _, _, rfl⟩
    rintro ρ ⟨vs, hvl, hvs, e10, e11, rfl⟩
    walk_at "d"
    exact ⟨_, EnvLe.refl _, vs, _, hvl, hvs, _, _, rfl⟩
  rintro ρ ⟨vs, rest, hvl, hvs, e10, e11, rfl⟩
  rw [List.length_map] at hvl hvs
  rw [List.take_length] at hvs
  walk_at "d"
  refine ⟨vs.map fun v => (v.1, tI v.2), .inr (by rw [List.map_map]; rfl), ?_, fun qs hq _ => ?_⟩
  · rw [List.map_map]
    exact (hok.1.sublist hvs : (vs.map (·.1)).Nodup)
  obtain ⟨ws, hw, rfl⟩ := perm_of_map hq.symm rfl
  rw [List.map_map, show (fsD ∘ fun v : Int × List Int => (v.1, tI v.2)) = vtT from rfl]
  walk_at "d"
  refine ⟨hd, true, true, false, ms, ms, ws, rfl, ?_⟩
  walk_at "d"
  exact ⟨rfl, ⟨hd, ms, ms, ws⟩, rfl, ⟨hhb, hmb, hmb, by rw [hw.length_eq]; omega⟩⟩

end
theorem de_hasher2 {ρ : List E} {Q : E → Prop} {E' : XK} {tas : TA} (h : DA K tas ρ fun ds => ∃ wd : Int, ds = [.int wd] ∧ Q (.d (Hs K wd))) : DE K (tMake (He.ga K "Hasher") (sp_Hasher___init__ K) [] E' tas) ρ Q := fun U σ L G o H j QH q =>
  h U σ L G o H j _ fun vs H1 G1 j1 ⟨e1, ds, sd, wd, ed, k⟩ => by
    subst ed
    obtain ⟨v, rfl, c⟩ := rpa1 sd
    cases c
    have m : EM (U.hides L) (tMake (He.ga K "Hasher") (sp_Hasher___init__ K) [] E' (fun _ H Q => Q [.int wd] H)) σ G1 (Po K U L G Q) :=
      em_makeI (fs := [("width", V.int wd)]) (fun H j QH q => q _ _ _ j ⟨fun x dx H QI EI hx q => ⟨x, dx, _, wd, rfl, rfl, hx, q⟩, fun x dx G2 n e2 g => ⟨e1.trans e2, .d (Hs K wd), .obj g rfl (.cons (.int _) .nil), k⟩⟩)
    exact m H1 j1 QH q

theorem wtS_cons (p : Int × Int) (ms : List (Int × Int)) (A : List Int) : wtS (p :: ms) A = (if p.1 ∈ A then p.2 else 0) + wtS ms A := by
  unfold wtS
  by_cases h : p.1 ∈ A
  · rw [List.filter_cons_of_pos (by simpa using h), List.map_cons, List.sum_cons, if_pos h]
  · rw [List.filter_cons_of_neg (by simpa using h), if_neg h, Int.zero_add]
theorem quorum {A B : List Int} : ∀ {ms : List (Int × Int)}, (∀ p ∈ ms, 0 ≤ p.2) → wtS ms A + wtS ms B ≤ totS ms + wtS ms (A.filter fun p => decide (p ∈ B))
  | [], _ => Int.le_refl ((0 : Int) + 0)
  | p :: ms, h => by
    have ih := quorum (A := A) (B := B) fun q hq => h q (List.mem_cons_of_mem _ hq)
    have h0 := h p List.mem_cons_self
    rw [wtS_cons, wtS_cons, wtS_cons, show totS (p :: ms) = p.2 + totS ms from List.sum_cons]
    have e : (p.1 ∈ A.filter fun q => decide (q ∈ B)) ↔ (p.1 ∈ A ∧ p.1 ∈ B) := by rw [List.mem_filter, decide_eq_true_iff]
    by_cases ha : p.1 ∈ A <;> by_cases hb : p.1 ∈ B
    · rw [if_pos ha, if_pos hb, if_pos (e.mpr ⟨ha, hb⟩)]; omega
    · rw [if_pos ha, if_neg hb, if_neg (fun z => hb (e.mp z).2)]; omega
    · rw [if_neg ha, if_pos hb, if_neg (fun z => ha (e.mp z).1)]; omega
    · rw [if_neg ha, if_neg hb, if_neg (fun z => ha (e.mp z).1)]; omega
theorem bf_none {wd c : Int} {b : Blk} (h : bfM wd c b = none) : okM b.ms = true ∧ totS b.ms * 2 < wtS b.ms (bsM wd b) * 3 := by
  unfold bfM at h
  split at h
  · cases h
  split at h
  · cases h
  split at h
  · cases h
  rename_i hl
  split at h
  · rename_i hw
    refine ⟨?_, hw⟩
    unfold lfM at hl
    split at hl
    · rename_i hr
      exact (Bool.and_eq_true_iff.mp hr).1
    · cases hl
  · cases h
theorem ok_wt {ms : List (Int × Int)} (h : okM ms = true) : ∀ p ∈ ms, 0 ≤ p.2 := fun p hp => by
  have h3 := (Bool.and_eq_true_iff.mp (Bool.and_eq_true_iff.mp h).2).2
  unfold wtM at h3
  have := of_decide_eq_true (List.all_eq_true.mp h3 p hp)
  omega
theorem ds_sorted (wd : Int) (a b : Blk) : (dsM wd a b).Pairwise (· ≤ ·) := by
  unfold dsM
  split
  · exact .nil
  split
  · exact .nil
  · exact (srt_sorted _).sublist List.filter_sublist
theorem ds_len {wd : Int} {a b : Blk} (h : BkB a) : (dsM wd a b).length ≤ 10 := by
  unfold dsM
  split
  · exact Nat.zero_le _
  split
  · exact Nat.zero_le _
  · exact Nat.le_trans (List.length_filter_le _ _) (bs_len h)
theorem mb_inj {a b : List (Int × Int)} (h : mbD a = mbD b) : a = b := by
  injection h with h
  induction a generalizing b with
  | nil => cases b with | nil => rfl | cons y b => simp at h
  | cons x a ih =>
    cases b with
    | nil => simp at h
    | cons y b =>
      rw [List.map_cons, List.map_cons] at h
      injection h with h1 h2
      injection h1 with h1
      simp only [List.cons.injEq, D.int.injEq, and_true] at h1
      rw [ih h2, show x = y from Prod.ext h1.1 h1.2]
theorem mb_plain (a : List (Int × Int)) : (mbD a).plain = true := by
  show D.plains (a.map prT) = true
  exact plains_map (fun _ => rfl) a
theorem mb_dep (a : List (Int × Int)) : (mbD a).dep ≤ 60 := by
  show D.deps (a.map prT) + 1 ≤ 60
  have := deps_map (f := prT) (n := 1) (fun _ => Nat.le_refl _) a
  omega
theorem dr_eqMb {K : PySem.W.Frag} {Q : Wp.E → Prop} {a b : List (Int × Int)} (k : Q (.d (.bl (decide (a = b))))) : DR K (rEqB K) (.d (mbD a)) (.d (mbD b)) Q := dr_eqBX (decide (a = b)) (by rw [decide_eq_true_iff]; exact ⟨fun z => by rw [z], mb_inj⟩) (mb_plain a) (mb_plain b) (mb_dep a) (mb_dep b) k

section
theorem deC_block39 {K : PySem.W.Frag} {ρ : List Wp.E} {Q : Wp.E → Prop} {tas : TA} {E' : XK} (h : DA K tas ρ fun ds => ∃ (wd : Int) (sg : List SgT) (wt : List Int) (y : Int), ds = [Hs K wd, .lst (sg.map (sgDD K wd)), lI wt, .int y] ∧ (4 ≤ wd ∧ wd ≤ 128 ∧ 1 ≤ sg.length ∧ sg.length ≤ 5 ∧ SgOk wd 2 sg ∧ (∀ s ∈ sg, s.2.1 = 2) ∧ wt.length = sg.length ∧ (∀ v ∈ wt, 1 ≤ v ∧ v ≤ 4) ∧ 0 ≤ y) ∧ (∀ c ∈ sg.map (sgC wd), InEnv ρ c) ∧ CFn (sg.map (sgC wd)) ∧ ∀ b : Blk, BkB b → Q (.d (bkD K b))) : DE K (tCall (sp__law_block K) [] E' tas) ρ Q :=
  de_callC rfl fun U σ L G o => (h U σ L G o).w fun v G1 ⟨e1, ds, sd, wd, sg, wt, y, ed, hp, hi, hf, k⟩ => ⟨e1, ds, sd, (wd, sg, wt, y), ed, hp, hi, hf, fun d ns ⟨_, b, hd, hb⟩ => by subst hd; exact k b hb⟩
theorem lnd_39 {K : PySem.W.Frag} {t1 : TE} {wi : TI} {g : TG} {tt : TT} {te : TE} {vs : List Nat} {ρ ρ' : List Wp.E} {Q : Wp.E → Prop} {ds : List D} (hi : ρ[4]? = some (.own ds)) (hr : ρ.set 4 (.d (.lst ds)) = ρ') (h : DE K (tOp (rIn K true) t1 (tLc wi g tt te vs)) ρ' fun y => ∃ d, y = .d d ∧ noL d = true ∧ Q (.d d)) : DE K (tOp (rIn K true) t1 (tLc wi g tt te vs)) ρ Q := de_lendL 4 hi hr h
local macro_rules | `(tactic| walk_at "d1") => `(tactic| first
  | ((with_reducible refine' lnd_39 ?hicc ?hrcc ?_); (case hicc => exact rfl); (case hrcc => first | (dsimp only [List.set]; done) | (dsimp only [List.set]; exact rfl)))
  | with_reducible refine deC_block39 ?_
  | with_reducible refine ds_signerF ?_
  | with_reducible refine dr_eqMb ?_
  | with_reducible refine de_new (dn_sortTI ?_)
  | ((with_reducible refine' de_cdv ?hicc ?_); (case hicc => exact rfl)))
theorem ok_law (T : Txt K mg) : FnOk P w K mg base CX0 (22) (He.fAd K ("law", none)) T.fd_law ["script"] (sp_law K) := by
  refine T.law.F.ok sc_law (fun vs H Q E h => len_law h) (fun cdv A outer s H vs Q E hr h => ⟨_, PSs.nox (pss_cons (ps_set (i := 1) sc_law.nd rfl (Or.inl rfl) (pe_call (ok__law_cells T) (hr.mono (by omega)) (by rfl) T._law_cells.g T._law_cells.F.kp T._law_cells.b .nil pass0 (pa_cons (pv 0) (pa_cons pe_int pa_nil))))
  (pss_cons (ps_set (i := 2) sc_law.nd rfl (Or.inr rfl) (pe_call (ok__law_number T) (hr.mono (by omega)) (by rfl) T._law_number.g T._law_number.F.kp T._law_number.b .nil pass0 (pa_cons (pe_ix (kx_seq (K := K)) (pv 1) pe_int (fun _ _ => rfl)) (pa_cons pe_int pa_nil))))
  (pss_cons (ps_set (i := 3) sc_law.nd rfl (Or.inr rfl) (pe_make T.mk_Hasher (ok_Hasher___init__ T) (hr.mono (by omega)) (by rfl) T.g_Hasher T.Hasher___init__.b .nil pass0 (pa_cons (pe_ix (kx_seq (K := K)) (pe_lst (pa_cons pe_int (pa_cons pe_int (pa_cons pe_int (pa_cons pe_int pa_nil))))) (pe_op op_mod (pe_callTy cq_int (by rfl) T.z_int (by decide +kernel) (pa_cons (pv 2) pa_nil)) pe_int) (fun _ _ => rfl)) pa_nil)))
  (pss_cons (ps_set (i := 4) sc_law.nd rfl (Or.inl rfl) (pe_lst pa_nil))
  (pss_cons (ps_for PassesOwn.never rfl (pi_range1 rfl T.z_range (pa_cons (pe_op (kp_addA (K := K)) pe_int (pe_op op_mod (pe_op op_fdivW (pv 2) pe_int) pe_int)) pa_nil)) (pg_name (i := 5) sc_law.nd rfl (Or.inl rfl)) (pss_cons (ps_set (i := 6) sc_law.nd rfl (Or.inl rfl) (pe_make T.mk_Signer (ok_Signer___init__ T) (hr.mono (by omega)) (by rfl) T.g_Signer T.Signer___init__.b .nil pass0 (pa_cons (pv 3) (pa_cons (pe_op (kp_addA (K := K)) (pe_op op_mod (pe_op op_fdivW (pv 2) pe_int) pe_int) (pe_op op_mul pe_int (pv 5))) (pa_cons pe_int pa_nil)))))
  (pss_one (ps_if (pt_cmpR (kp_notIn (K := K)) (ke_fld (K := K) (pv 6)) (pe_lc (own := [("one", 14)]) rfl sc_law.nd (ki_sq (K := K) (pv 4)) (blkOk_by (own := [("one", 14)]) (N := ["script", "cells", "x", "hasher", "keys", "k", "signer", "weights", "first", "second", "told", "due", "sound", "weight", "one", "public"]) (sc := defScope s_law) (by decide +kernel)) (fun _ _ _ _ _ => pg_name (i := 14) sc_law.nd rfl (Or.inl rfl)) (fun _ _ _ _ _ => pts_nil) (fun _ _ _ _ _ => (ke_fld (K := K) (pv 14)))) rfl) (pss_one (ps_expr (pe_bm PySem.F.plainAttrs_list PySem.F.slot_list_append PySem.F.type_list_append mt_append (pv 4) (pa_cons (pv 6) pa_nil)))) pss_nil))))
  (pss_cons (ps_setLc (i := 7) (own := [("k", 5)]) rfl sc_law.nd rfl rfl (sw_true rfl rfl rfl (by decide +kernel)) (pi_range1 rfl T.z_range (pa_cons (pe_callB (kq_lenA (K := K)) (by rfl) T.z_len (by decide +kernel) (pa_cons (pv 4) pa_nil)) pa_nil)) (blkOk_by (own := [("k", 5)]) (N := ["script", "cells", "x", "hasher", "keys", "k", "signer", "weights", "first", "second", "told", "due", "sound", "weight", "one", "public"]) (sc := defScope s_law) (by decide +kernel)) (fun _ _ _ _ _ => pg_name (i := 5) sc_law.nd rfl (Or.inl rfl)) (fun _ _ _ _ _ => pts_nil) (fun _ _ _ _ _ => (pe_op (kp_addA (K := K)) pe_int (pe_op op_mod (pe_op op_fdivW (pv 2) (pe_op (kp_addA (K := K)) pe_int (pe_op op_mul pe_int (pv 5)))) pe_int))))
  (pss_cons (ps_for PassesOwn.never rfl (pi_range2 rfl T.z_range (pa_cons pe_int (pa_cons (pe_callB cq_min (by rfl) T.z_min (by decide +kernel) (pa_cons (pe_op op_sub (pe_callB (kq_lenA (K := K)) (by rfl) T.z_len (by decide +kernel) (pa_cons (pv 1) pa_nil)) pe_int) (pa_cons pe_int pa_nil))) pa_nil))) (pg_name (i := 5) sc_law.nd rfl (Or.inl rfl)) (pss_cons (ps_set (i := 8) sc_law.nd rfl (Or.inl rfl) (pe_call (ok__law_block T) (hr.mono (by omega)) (by rfl) T._law_block.g T._law_block.F.kp T._law_block.b .nil pass0 (pa_cons (pv 3) (pa_cons (pv 4) (pa_cons (pv 7) (pa_cons (pe_call (ok__law_number T) (hr.mono (by omega)) (by rfl) T._law_number.g T._law_number.F.kp T._law_number.b .nil pass0 (pa_cons (pe_ix (kx_seq (K := K)) (pv 1) (pv 5) (fun _ _ => rfl)) (pa_cons (pv 5) pa_nil))) pa_nil))))))
  (pss_cons (ps_set (i := 9) sc_law.nd rfl (Or.inr rfl) (pe_call (ok__law_block T) (hr.mono (by omega)) (by rfl) T._law_block.g T._law_block.F.kp T._law_block.b .nil pass0 (pa_cons (pv 3) (pa_cons (pv 4) (pa_cons (pv 7) (pa_cons (pe_call (ok__law_number T) (hr.mono (by omega)) (by rfl) T._law_number.g T._law_number.F.kp T._law_number.b .nil pass0 (pa_cons (pe_ix (kx_seq (K := K)) (pv 1) (pe_op (kp_addA (K := K)) (pv 5) pe_int) (fun _ _ => rfl)) (pa_cons (pe_op (kp_addA (K := K)) (pv 5) pe_int) pa_nil))) pa_nil))))))
  (pss_cons (ps_set (i := 10) sc_law.nd rfl (Or.inr rfl) (pe_call (ok_double_signers T) (hr.mono (by omega)) (by rfl) T.double_signers.g T.double_signers.F.kp T.double_signers.b .nil pass0 (pa_cons (pv 3) (pa_cons (pv 8) (pa_cons (pv 9) pa_nil)))))
  (pss_cons (ps_setLc (i := 11) (own := [("public", 15)]) rfl sc_law.nd rfl rfl (sw_true rfl rfl rfl (by decide +kernel)) (ki_sq (K := K) (pe_call (ok_block_signers T) (hr.mono (by omega)) (by rfl) T.block_signers.g T.block_signers.F.kp T.block_signers.b .nil pass0 (pa_cons (pv 3) (pa_cons (pv 8) pa_nil)))) (blkOk_by (own := [("public", 15)]) (N := ["script", "cells", "x", "hasher", "keys", "k", "signer", "weights", "first", "second", "told", "due", "sound", "weight", "one", "public"]) (sc := defScope s_law) (by decide +kernel)) (fun _ _ _ _ _ => pg_name (i := 15) sc_law.nd rfl (Or.inl rfl)) (fun _ _ _ _ _ => (pts_one (pt_cmpR (kp_in (K := K)) (pv 15) (pe_call (ok_block_signers T) (hr.mono (by omega)) (by rfl) T.block_signers.g T.block_signers.F.kp T.block_signers.b .nil pass0 (pa_cons (pv 3) (pa_cons (pv 9) pa_nil))) rfl))) (fun _ _ _ _ _ => (pv 15)))
  (pss_cons (ps_cut (ps_if (PW.pt (pw_or (pt_cmpR (kp_neB (K := K) hr.units) (ke_fld (K := K) (ke_fld (K := K) (pv 8))) (ke_fld (K := K) (ke_fld (K := K) (pv 9))) (nomark _)) (pw_or1 (pt_cmpR (op_oe (K := K) (ok_Header___eq__ T) T.me_Header___eq__ T.Header___eq__.b (hr.mono (by omega))) (ke_fld (K := K) (pv 8)) (ke_fld (K := K) (pv 9)) (nomark _))))) (pss_one (ps_set (i := 11) sc_law.nd rfl (Or.inl rfl) (pe_lst pa_nil))) pss_nil))
  (pss_cons (ps_if (PW.pt (pw_or (pt_cmpR (kp_neB (K := K) hr.units) (pv 10) (pe_callTy (kq_tuple (K := K)) (by rfl) T.z_tuple (by decide +kernel) (pa_cons (pv 11) pa_nil)) (nomark _)) (pw_or1 (pt_cmpR (kp_neB (K := K) hr.units) (pv 10) (pe_callTy (kq_tuple (K := K)) (by rfl) T.z_tuple (by decide +kernel) (pa_cons (pe_callB (cr_sortTI (K := K)) (by rfl) T.z_sorted (by decide +kernel) (pa_cons (pv 10) pa_nil)) pa_nil)) (nomark _))))) (pss_one (ps_ret pe_bl)) pss_nil)
  (pss_cons (ps_set (i := 12) sc_law.nd rfl (Or.inl rfl) (pe_and (pe_cmpR (op_isN1) (pe_call (ok_block_fault T) (hr.mono (by omega)) (by rfl) T.block_fault.g T.block_fault.F.kp T.block_fault.b .nil pass0 (pa_cons (pv 3) (pa_cons pe_int (pa_cons (pv 8) pa_nil)))) pe_non (nomark _)) (pe_one (pe_cmpR (op_isN1) (pe_call (ok_block_fault T) (hr.mono (by omega)) (by rfl) T.block_fault.g T.block_fault.F.kp T.block_fault.b .nil pass0 (pa_cons (pv 3) (pa_cons pe_int (pa_cons (pv 9) pa_nil)))) pe_non (nomark _)))))
  (pss_one (ps_if (PW.pt (pw_and (pt_val (pv 12)) (pw_and (pt_cmpR (kp_eqB (K := K) hr.units) (ke_fld (K := K) (pv 8)) (ke_fld (K := K) (pv 9)) (nomark _)) (pw_and (pt_cmpR (kp_eqB (K := K) hr.units) (ke_fld (K := K) (ke_fld (K := K) (pv 8))) (ke_fld (K := K) (ke_fld (K := K) (pv 9))) (nomark _)) (pw_and1 (pt_cmpR (op_one (K := K) (ok_Header___eq__ T) T.me_Header___eq__ T.eq_Header T.Header___eq__.b (hr.mono (by omega))) (ke_fld (K := K) (pv 8)) (ke_fld (K := K) (pv 9)) (nomark _))))))) (pss_cons (ps_set (i := 13) sc_law.nd rfl (Or.inl rfl) (pe_callB (kr_sum (K := K)) (by rfl) T.z_sum (by decide +kernel) (pa_cons (pe_lc (own := [("one", 14)]) rfl sc_law.nd (ki_sq (K := K) (ke_fld (K := K) (pv 8))) (blkOk_by (own := [("one", 14)]) (N := ["script", "cells", "x", "hasher", "keys", "k", "signer", "weights", "first", "second", "told", "due", "sound", "weight", "one", "public"]) (sc := defScope s_law) (by decide +kernel)) (fun _ _ _ _ _ => pg_name (i := 14) sc_law.nd rfl (Or.inl rfl)) (fun _ _ _ _ _ => (pts_one (pt_cmpR (kp_in (K := K)) (pe_ix (kx_seq (K := K)) (pv 14) pe_int (fun _ _ => rfl)) (pv 10) rfl))) (fun _ _ _ _ _ => (pe_ix (kx_seq (K := K)) (pv 14) pe_int (fun _ _ => rfl)))) pa_nil)))
  (pss_one (ps_if (pt_cmpR (op_le) (pe_op op_mul pe_int (pv 13)) (pe_callB (kr_sum (K := K)) (by rfl) T.z_sum (by decide +kernel) (pa_cons (pe_lc (own := [("one", 14)]) rfl sc_law.nd (ki_sq (K := K) (ke_fld (K := K) (pv 8))) (blkOk_by (own := [("one", 14)]) (N := ["script", "cells", "x", "hasher", "keys", "k", "signer", "weights", "first", "second", "told", "due", "sound", "weight", "one", "public"]) (sc := defScope s_law) (by decide +kernel)) (fun _ _ _ _ _ => pg_name (i := 14) sc_law.nd rfl (Or.inl rfl)) (fun _ _ _ _ _ => pts_nil) (fun _ _ _ _ _ => (pe_ix (kx_seq (K := K)) (pv 14) pe_int (fun _ _ => rfl)))) pa_nil)) (nomark _)) (pss_one (ps_ret pe_bl)) pss_nil))) pss_nil))))))))))
  (pss_one (ps_ret pe_bl))))))))), fn_lawC h (by decide) (by decide) (by decide) (by decide) fun cs hc1 hc2 => ?_⟩)
  change DS K _ (Wp.E.any :: (Wp.E.d _ :: (Wp.E.any :: (Wp.E.any :: (Wp.E.any :: (Wp.E.any :: (Wp.E.any :: (Wp.E.any :: (Wp.E.any :: (Wp.E.any :: (Wp.E.any :: (Wp.E.any :: (Wp.E.any :: (Wp.E.any :: (Wp.E.any :: (Wp.E.any :: [])))))))))))))))) _ _ _ _
  obtain ⟨c0, c1, c2, cr, rfl⟩ : ∃ c0 c1 c2 cr, cs = c0 :: c1 :: c2 :: cr := by
    match cs, hc1 with
    | c0 :: c1 :: c2 :: cr, _ => exact ⟨_, _, _, _, rfl⟩
    | [], h => exact absurd h (by decide)
    | [_], h => exact absurd h (show ¬ (3 ≤ 1) by decide)
    | [_, _], h => exact absurd h (show ¬ (3 ≤ 2) by decide)
  have hcl := T.cl_Hasher
  have hcs := T.cl_Signer
  have hs3 := T.n_Signer_public
  have hcb := T.cl_Block
  have hb1 := T.n_Block_header
  have hb2 := T.n_Block_members
  have hch := T.cl_Header
  have hh1 := T.n_Header_height
  walk_at "d"
  refine ⟨_, atI_map (k := 0) rfl, ?_⟩
  walk_at "d"
  refine dc_g (c0, 0) rfl ⟨Int.le_refl 0, show (0 : Int) ≤ 100000 by decide⟩ ?_
  walk_at "D"
  have x0 := lnM_nn c0 0
  generalize lnM c0 0 = x at x0 ⊢
  refine de_hasher2 ?_
  walk_at "d"
  have hx4 : 0 ≤ x % 4 ∧ x % 4 < 4 := ⟨Int.emod_nonneg _ (by decide), Int.emod_lt_of_pos _ (by decide)⟩
  refine at_some hx4.1 (by simpa using hx4.2) fun dw hdw => ?_
  obtain ⟨wd, w4, w24, rfl⟩ : ∃ wd : Int, 4 ≤ wd ∧ wd ≤ 24 ∧ dw = .int wd := by
    simp only [List.mem_cons, List.mem_nil_iff, or_false] at hdw
    rcases hdw with rfl | rfl | rfl | rfl <;> exact ⟨_, by decide, by decide, rfl⟩
  clear hdw
  have w128 : wd ≤ 128 := by omega
  walk_at "d"
  refine ⟨wd, rfl, ?_⟩
  walk_at "d"
  refine ds_cell 3 [] rfl rfl (fun c hc => by cases hc) ?_
  dsimp only [List.set]
  refine ds_for ?_
  walk_at "d"
  have h5 : 0 ≤ x / 4 % 5 ∧ x / 4 % 5 < 5 := ⟨Int.emod_nonneg _ (by decide), Int.emod_lt_of_pos _ (by decide)⟩
  refine ⟨1 + x / 4 % 5, rfl, by unfold Big; omega, ?_⟩
  refine ⟨fun i ρ => ∃ sg : List SgT, (i = 0 → sg = []) ∧ (1 ≤ i → 1 ≤ sg.length) ∧ sg.length ≤ i ∧ SgOk wd 2 sg ∧ (∀ s ∈ sg, s.2.1 = 2) ∧ CFn (sg.map (sgC wd)) ∧ ∃ e5 e6 e14, ρ = [.any, .d (lI (c0 :: c1 :: c2 :: cr)), .d (.int x), .cd (Hs K wd) (sg.map (sgC wd)), .own (sg.map (sgDD K wd)), e5, e6, .any, .any, .any, .any, .any, .any, .any, e14, .any], ?_, ?_, ?_⟩
  · exact ⟨_, EnvLe.refl _, [], fun _ => rfl, fun z => absurd z (by decide), Nat.le_refl _, ⟨List.nodup_nil, fun s hs => by cases hs⟩, (fun s hs => by cases hs), cfn0, _, _, _, rfl⟩
  · rintro i d ρ hd ⟨sg, hz, hi1, hsl, hok, hlv, hcf, e5, e6, e14, rfl⟩
    rw [List.getElem?_map] at hd
    obtain ⟨l, hl', rfl⟩ := Option.map_eq_some_iff.mp hd
    obtain ⟨rfl, hi⟩ := rgs_at hl'
    walk_at "d"
    obtain ⟨sec, hsec⟩ : ∃ sec, sec = x / 24 % 100003 + 5 * (i : Int) := ⟨_, rfl⟩
    rw [← hsec]
    have bs : Bd sec := bd_small (by omega) (by omega)
    refine ⟨wd, sec, 2, rfl, w4, w128, bs, by decide, fun dd hdd => ?_⟩
    walk_at "d"
    refine de_new (dn_map (sgDD K wd) (fun s => D.int (pubW wd s.1 s.2.1)) ?_)
    walk_at "d"
    refine ⟨sg, rfl, by omega, fun j s hs => dgw_name rfl (by decide) rfl ?_, ?_⟩
    · walk_at "d"
      rfl
    rw [show sg.map (fun s => D.int (pubW wd s.1 s.2.1)) = (sg.map fun s => pubW wd s.1 s.2.1).map D.int by rw [List.map_map]; rfl]
    walk_at "d"
    obtain ⟨ps, hps⟩ : ∃ ps, ps = sg.map fun s => pubW wd s.1 s.2.1 := ⟨_, rfl⟩
    obtain ⟨pb, hpb⟩ : ∃ pb, pb = pubW wd sec 2 := ⟨_, rfl⟩
    rw [← hps, ← hpb]
    refine dr_inI (ns := ps) (.inr rfl) ?_
    rw [if_pos rfl]
    refine ⟨_, rfl, rfl, ?_⟩
    walk_at "d"
    refine ifn (fun g => ?_) (fun g => ?_)
    · refine ds_cell' 3 (sg.map (sgC wd) ++ [(dd, NodesOk wd sec)]) rfl rfl (fun c hc => ?_) ?_
      · rcases List.mem_append.mp hc with hc | hc
        · exact ⟨3, _, _, rfl, hc⟩
        · exact ⟨6, _, _, rfl, hc⟩
      walk_at "d"
      refine ⟨by rw [List.length_map]; exact Nat.lt_of_le_of_lt (show sg.length ≤ 1000 by omega) (by decide), ?_⟩
      walk_at "d"
      refine' ⟨_, EnvLe.refl _, sg ++ [(sec, 2, dd)], fun z => by omega, fun _ => by rw [List.length_append]; simp, by rw [List.length_append]; show sg.length + 1 ≤ _; omega, ⟨?_, fun s hs => ?_⟩, fun s hs => ?_, ?_, _, _, _, by rw [List.map_append, List.map_append]; exact rfl⟩
      · rw [List.map_append]
        refine List.nodup_append.mpr ⟨hok.1, by simp, fun a ha b hb => ?_⟩
        rw [List.mem_singleton.mp hb]
        exact fun z => g (by rw [hps, hpb, ← show a = pubW wd sec 2 from z]; exact ha)
      · rcases List.mem_append.mp hs with hs | hs
        · exact hok.2 s hs
        · rw [List.mem_singleton.mp hs]; exact ⟨bs, Nat.le_refl _⟩
      · rcases List.mem_append.mp hs with hs | hs
        · exact hlv s hs
        · rw [List.mem_singleton.mp hs]
      · rw [List.map_append]
        have nd : ∀ c ∈ sg.map (sgC wd), c.1 ≠ dd := fun c hc => hdd c ⟨3, _, _, rfl, hc⟩
        intro c e hc he z
        rcases List.mem_append.mp hc with hc | hc <;> rcases List.mem_append.mp he with he | he
        · exact hcf c e hc he z
        · rw [List.mem_singleton.mp he] at z ⊢; exact absurd z (nd c hc)
        · rw [List.mem_singleton.mp hc] at z ⊢; exact absurd z.symm (nd e he)
        · rw [List.mem_singleton.mp hc, List.mem_singleton.mp he]
    · walk_at "d"
      have hne : 1 ≤ sg.length := by
        subst hps
        cases sg with
        | nil => simp at g
        | cons a l => rw [List.length_cons]; omega
      exact ⟨_, EnvLe.refl _, sg, fun z => by omega, fun _ => hne, by omega, hok, hlv, hcf, _, _, _, rfl⟩
  rintro ρ ⟨sg, hz, hi1, hsl, hok, hlv, hcf, e5, e6, e14, rfl⟩
  rw [List.length_map, rgI_len] at hsl hi1
  have l1 : 1 ≤ sg.length := hi1 (by omega)
  have l5 : sg.length ≤ 5 := by omega
  clear hz hi1 hsl
  refine ds_freeze 4 rfl rfl ?_
  dsimp only [List.set]
  walk_at "d"
  refine de_new (dn_map D.int (fun k => D.int (1 + x / (5 + 3 * k) % 4)) ?_)
  walk_at "d"
  refine ⟨(sg.length : Int), rfl, by unfold Big; omega, rgI 0 1 sg.length, rfl, by rw [rgI_len]; omega, fun i k hk => dgw_name rfl (by decide) rfl ?_, ?_⟩
  · obtain ⟨rfl, hl⟩ := rgs_at hk
    have hcd : CDivW x (5 + 3 * (i : Int)) := wide_div (b := 60) (by omega) (show (5 + 3 * (i : Int)).natAbs < 2 ^ 60 by omega) (by decide) (by decide)
    walk_at "d"
    rfl
  obtain ⟨wt, hwt⟩ : ∃ wt, wt = (rgI 0 1 sg.length).map fun k => 1 + x / (5 + 3 * k) % 4 := ⟨_, rfl⟩
  have hwl : wt.length = sg.length := by rw [hwt, List.length_map, rgI_len]
  have hwb : ∀ v ∈ wt, 1 ≤ v ∧ v ≤ 4 := fun v hv => by
    rw [hwt] at hv
    obtain ⟨k, _, rfl⟩ := List.mem_map.mp hv
    have h1 := Int.emod_nonneg (x / (5 + 3 * k)) (b := 4) (by decide)
    have h2 := Int.emod_lt_of_pos (x / (5 + 3 * k)) (b := 4) (by decide)
    omega
  rw [show (rgI 0 1 sg.length).map (fun k => D.int (1 + x / (5 + 3 * k) % 4)) = wt.map D.int by rw [hwt, List.map_map]; rfl]
  clear hwt
  walk_at "d"
  obtain ⟨cells, hcells⟩ : ∃ cells, cells = c0 :: c1 :: c2 :: cr := ⟨_, rfl⟩
  rw [← hcells] at hc1 hc2 ⊢
  replace hc1 : 3 ≤ cells.length := hc1
  clear hcells
  refine ds_for ?_
  walk_at "d"
  obtain ⟨M, hM, hM1, hM2⟩ : ∃ M : Int, (if 5 < (cells.length : Int) - 1 then 5 else (cells.length : Int) - 1) = M ∧ M ≤ 5 ∧ M ≤ (cells.length : Int) - 1 := ⟨_, rfl, by split <;> omega, by split <;> omega⟩
  rw [hM]
  have hM3 : 2 ≤ M := by rw [← hM]; split <;> omega
  refine ⟨1, M, rfl, by unfold Big; decide, by unfold Big; omega, fun i ρ => ∃ e5 e6 e8 e9 e10 e11 e12 e13 e14 e15, ρ = [.any, .d (lI cells), .d (.int x), .cd (Hs K wd) (sg.map (sgC wd)), .d (.lst (sg.map (sgDD K wd))), e5, e6, .d (lI wt), e8, e9, e10, e11, e12, e13, e14, e15], ⟨_, EnvLe.refl _, _, _, _, _, _, _, _, _, _, _, rfl⟩, ?_, ?_⟩
  · rintro i d ρ hd ⟨e5, e6, e8, e9, e10, e11, e12, e13, e14, e15, rfl⟩
    rw [List.getElem?_map] at hd
    obtain ⟨l, hl', rfl⟩ := Option.map_eq_some_iff.mp hd
    obtain ⟨k, rfl, hk⟩ : ∃ k : Nat, l = (k : Int) ∧ k + 1 < cells.length := by
      have hil := (List.getElem?_eq_some_iff.mp hl').1
      rw [rgI_len] at hil
      rw [rgI_at hil] at hl'
      injection hl' with hl'
      exact ⟨1 + i, by rw [← hl']; omega, by omega⟩
    walk_at "d"
    refine ⟨_, atI_map (List.getElem?_eq_getElem (show k < cells.length by omega)), ?_⟩
    walk_at "d"
    refine dc_g (cells[k], (k : Int)) rfl ⟨show (0 : Int) ≤ (k : Int) by omega, show (k : Int) ≤ 100000 by omega⟩ ?_
    walk_at "D"
    have hpre : ∀ y : Int, 0 ≤ y → (4 ≤ wd ∧ wd ≤ 128 ∧ 1 ≤ sg.length ∧ sg.length ≤ 5 ∧ SgOk wd 2 sg ∧ (∀ s ∈ sg, s.2.1 = 2) ∧ wt.length = sg.length ∧ (∀ v ∈ wt, 1 ≤ v ∧ v ≤ 4) ∧ 0 ≤ y) := fun y hy => ⟨w4, w128, l1, l5, hok, hlv, hwl, hwb, hy⟩
    refine ⟨wd, sg, wt, _, rfl, hpre _ (lnM_nn _ _), fun c hc => ⟨3, _, _, rfl, hc⟩, hcf, fun a ha => ?_⟩
    walk_at "d"
    rw [show (k : Int) + 1 = ((k + 1 : Nat) : Int) by omega]
    refine ⟨_, atI_map (List.getElem?_eq_getElem hk), ?_⟩
    walk_at "d"
    refine dc_g (cells[k + 1], ((k + 1 : Nat) : Int)) rfl ⟨show (0 : Int) ≤ ((k + 1 : Nat) : Int) by omega, show ((k + 1 : Nat) : Int) ≤ 100000 by omega⟩ ?_
    walk_at "D"
    refine ⟨wd, sg, wt, _, rfl, hpre _ (lnM_nn _ _), fun c hc => ⟨3, _, _, rfl, hc⟩, hcf, fun b hb => ?_⟩
    clear hpre
    walk_at "d"
    refine dc_g (wd, a, b) rfl ⟨w4, w128, ha, hb⟩ ?_
    walk_at "D"
    refine de_new (dn_filt D.int D.int (fun p => decide (p ∈ bsM wd b)) ?_)
    walk_at "d"
    refine dc_g (wd, a) rfl ⟨w4, w128, ha⟩ ?_
    walk_at "D"
    refine ⟨bsM wd a, rfl, by have := bs_len (wd := wd) ha; omega, fun i q hq => dgw_name rfl (by decide) rfl ?_, ?_⟩
    · walk_at "d"
      refine dc_g (wd, b) rfl ⟨w4, w128, hb⟩ ?_
      walk_at "D"
      refine dr_inI (ns := bsM wd b) (.inl rfl) ?_
      rw [if_neg Bool.false_ne_true]
      walk_at "d"
      refine ⟨rfl, fun _ => ?_⟩
      walk_at "d"
      rfl
    walk_at "d"
    refine ds_cut (fun ρ => ∃ e12 e13 e14 e15, ρ = [.any, .d (lI cells), .d (.int x), .cd (Hs K wd) (sg.map (sgC wd)), .d (.lst (sg.map (sgDD K wd))), .d (.int (k : Int)), e6, .d (lI wt), .d (bkD K a), .d (bkD K b), .d (tI (dsM wd a b)), .d (lI (dsM wd a b)), e12, e13, e14, e15]) ?_ ?_
    · refine ds_if ?_
      walk_at "d"
      refine ifn (fun g => ?_) (fun g => ?_)
      · refine ds_asg (de_new (dn_lst ?_))
        walk_at "d"
        refine' ⟨_, EnvLe.refl _, _, _, _, _, by rw [show dsM wd a b = [] by unfold dsM; rw [if_pos g]]; exact rfl⟩
      walk_at "d"
      refine dr_oe rfl rfl ?_
      refine dc_gE (a.hd, .inl b.hd) rfl (fun d z => by cases z) (d := .bl (decide (a.hd.fs = b.hd.fs))) rfl ?_
      refine ⟨_, rfl, ?_⟩
      walk_at "d"
      refine ifd (fun g2 => ?_) (fun g2 => ?_)
      · refine ds_asg (de_new (dn_lst ?_))
        walk_at "d"
        refine' ⟨_, EnvLe.refl _, _, _, _, _, by rw [show dsM wd a b = [] by unfold dsM; rw [if_neg (fun z : ¬ a.hd.height = b.hd.height => z g), if_pos g2]]; exact rfl⟩
      · walk_at "d"
        refine' ⟨_, EnvLe.refl _, _, _, _, _, by rw [show dsM wd a b = (bsM wd a).filter fun p => decide (p ∈ bsM wd b) by unfold dsM; rw [if_neg (fun z : ¬ a.hd.height = b.hd.height => z g), if_neg g2]]⟩
    rintro ρ ⟨e12, e13, e14, e15, rfl⟩
    walk_at "d"
    refine dr_neBX true ⟨fun _ => rfl, fun _ => rfl⟩ (tI_plain _) (tI_plain _) (tI_dep _) (tI_dep _) ?_
    walk_at "d"
    refine ⟨_, rfl, fun qs hq hpw => ?_⟩
    have hqe : qs = dsM wd a b := sorted_uniq hq hpw (ds_sorted wd a b)
    subst hqe
    walk_at "d"
    refine dr_neBX true ⟨fun _ => rfl, fun _ => rfl⟩ (tI_plain _) (tI_plain _) (tI_dep _) (tI_dep _) ?_
    walk_at "d"
    refine dc_gE (wd, 7, a) rfl ⟨w4, w128, ha⟩ (d := sD (bfM wd 7 a)) rfl ?_
    cases hfa : bfM wd 7 a with
    | some s =>
      dsimp only [sD]
      walk_at "d"
      rw [if_neg (show ¬ (D.str s).isN = true from Bool.false_ne_true)]
      walk_at "d"
      exact ⟨_, EnvLe.refl _, _, _, _, _, _, _, _, _, _, _, rfl⟩
    | none =>
    dsimp only [sD]
    walk_at "d"
    rw [if_pos (show (D.non).isN = true from rfl)]
    walk_at "d"
    refine dc_gE (wd, 7, b) rfl ⟨w4, w128, hb⟩ (d := sD (bfM wd 7 b)) rfl ?_
    cases hfb : bfM wd 7 b with
    | some s =>
      dsimp only [sD]
      walk_at "d"
      rw [show (D.str s).isN = false from rfl]
      walk_at "d"
      exact ⟨_, EnvLe.refl _, _, _, _, _, _, _, _, _, _, _, rfl⟩
    | none =>
    dsimp only [sD]
    walk_at "d"
    rw [show (D.non).isN = true from rfl]
    walk_at "d"
    refine ifd (fun g1 => ?_) (fun g1 => ?_)
    rotate_left
    · walk_at "d"
      exact ⟨_, EnvLe.refl _, _, _, _, _, _, _, _, _, _, _, rfl⟩
    walk_at "d"
    refine ifd (fun g2 => ?_) (fun g2 => ?_)
    rotate_left
    · walk_at "d"
      exact ⟨_, EnvLe.refl _, _, _, _, _, _, _, _, _, _, _, rfl⟩
    walk_at "d"
    refine dr_one rfl rfl ?_
    refine dc_gE (a.hd, .inl b.hd) rfl (fun d z => by cases z) (d := .bl (decide (a.hd.fs = b.hd.fs))) rfl ?_
    refine ⟨_, rfl, ?_⟩
    walk_at "d"
    refine ifn (fun g3 => ?_) (fun g3 => ?_)
    rotate_left
    · walk_at "d"
      exact ⟨_, EnvLe.refl _, _, _, _, _, _, _, _, _, _, _, rfl⟩
    walk_at "d"
    have hdsm : dsM wd a b = (bsM wd a).filter fun p => decide (p ∈ bsM wd b) := by unfold dsM; rw [if_neg (fun z : ¬ a.hd.height = b.hd.height => z g2), if_neg g3]
    have key : totS a.ms < 3 * wtS a.ms (dsM wd a b) := by
      obtain ⟨ka, wa⟩ := bf_none hfa
      obtain ⟨_, wb⟩ := bf_none hfb
      have q := quorum (A := bsM wd a) (B := bsM wd b) (ok_wt ka)
      rw [← hdsm] at q
      rw [← g1] at wb
      omega
    have hal := ha.ms.1
    refine de_new (dn_filt prT (fun p => D.int p.2) (fun p => decide (p.1 ∈ dsM wd a b)) ?_)
    walk_at "d"
    refine ⟨a.ms, rfl, by omega, fun i q hq => dgw_name rfl (by decide) rfl ?_, ?_⟩
    · walk_at "d"
      refine dr_inI (ns := dsM wd a b) (.inl rfl) ?_
      rw [if_neg Bool.false_ne_true]
      walk_at "d"
      refine ⟨rfl, fun _ => ?_⟩
      walk_at "d"
      rfl
    rw [show (a.ms.filter fun p => decide (p.1 ∈ dsM wd a b)).map (fun p => D.int p.2) = ((a.ms.filter fun p => decide (p.1 ∈ dsM wd a b)).map (·.2)).map D.int by rw [List.map_map]; rfl]
    walk_at "d"
    refine de_new (dn_map prT (fun p => D.int p.2) ?_)
    walk_at "d"
    refine ⟨a.ms, rfl, by omega, fun i q hq => dgw_name rfl (by decide) rfl ?_, ?_⟩
    · walk_at "d"
      rfl
    rw [show a.ms.map (fun p => D.int p.2) = (a.ms.map (·.2)).map D.int by rw [List.map_map]; rfl]
    walk_at "d"
    refine ifdF (fun z => ?_) ?_
    · exact absurd (show 3 * wtS a.ms (dsM wd a b) ≤ totS a.ms from z) (by omega)
    walk_at "d"
    exact ⟨_, EnvLe.refl _, _, _, _, _, _, _, _, _, _, _, rfl⟩
  · rintro ρ ⟨e5, e6, e8, e9, e10, e11, e12, e13, e14, e15, rfl⟩
    walk_at "d"
    rfl

end
end
end
theorem facts {P : Program} {w : World} {K : PySem.W.Frag} {h : Heap} {mg : Str → Option Value} {f : Addr} (X : K.In h) (G : h.Ns mainGlobals mg) (hfa : mg ("law" : Str) = some (.ref f)) (cE : SaysE fa fn exK K) :
    ∃ fd : FuncData, (∀ (s : Shared) (v : Value), BindsTo s fd ⟨[v], []⟩ [("script", v)]) ∧ ∀ base : Heap, K.In base → base.Ns mainGlobals mg → FnOk P w K mg base CX0 22 f fd ["script"] (sp_law K) := by
  obtain ⟨c, cx⟩ := cE
  have ex_Block : EqC K (He.ga K "Block") := L2.eqcB_ok ((Bool.and_eq_true_iff.mp cx).1)
  have ex_Header : EqC K (He.ga K "Header") := L2.eqcB_ok ((Bool.and_eq_true_iff.mp cx).2)
  obtain ⟨fd0, F0⟩ := c.def_ 0 (d := dd_Hasher___init__) rfl
  obtain ⟨fd1, F1⟩ := c.def_ 1 (d := dd_Hasher_digest) rfl
  obtain ⟨fd2, F2⟩ := c.def_ 2 (d := dd_Hasher_is_digest) rfl
  obtain ⟨fd3, F3⟩ := c.def_ 3 (d := dd_are_digests) rfl
  obtain ⟨fd4, F4⟩ := c.def_ 4 (d := dd_limbs_of) rfl
  obtain ⟨fd5, F5⟩ := c.def_ 5 (d := dd_mixed) rfl
  obtain ⟨fd6, F6⟩ := c.def_ 6 (d := dd_digits_of) rfl
  obtain ⟨fd7, F7⟩ := c.def_ 7 (d := dd_base_digits) rfl
  obtain ⟨fd8, F8⟩ := c.def_ 8 (d := dd_message_digits) rfl
  obtain ⟨fd9, F9⟩ := c.def_ 9 (d := dd_check_digits) rfl
  obtain ⟨fd10, F10⟩ := c.def_ 10 (d := dd_chain_count) rfl
  obtain ⟨fd11, F11⟩ := c.def_ 11 (d := dd_next_word) rfl
  obtain ⟨fd12, F12⟩ := c.def_ 12 (d := dd_followed) rfl
  obtain ⟨fd13, F13⟩ := c.def_ 13 (d := dd_Signer___init__) rfl
  obtain ⟨fd14, F14⟩ := c.def_ 14 (d := dd_Signer_sign) rfl
  obtain ⟨fd15, F15⟩ := c.def_ 15 (d := dd_Signer_word) rfl
  obtain ⟨fd16, F16⟩ := c.def_ 16 (d := dd_Signer__node) rfl
  obtain ⟨fd17, F17⟩ := c.def_ 17 (d := dd_Signer__made_node) rfl
  obtain ⟨fd18, F18⟩ := c.def_ 18 (d := dd_verify) rfl
  obtain ⟨fd19, F19⟩ := c.def_ 19 (d := dd_has_shape) rfl
  obtain ⟨fd20, F20⟩ := c.def_ 20 (d := dd_told_inputs) rfl
  obtain ⟨fd21, F21⟩ := c.def_ 21 (d := dd_members_fault) rfl
  obtain ⟨fd22, F22⟩ := c.def_ 22 (d := dd_members_numbers) rfl
  obtain ⟨fd23, F23⟩ := c.def_ 23 (d := dd_members_root) rfl
  obtain ⟨fd24, F24⟩ := c.def_ 24 (d := dd_total) rfl
  obtain ⟨fd25, F25⟩ := c.def_ 25 (d := dd_weight_of) rfl
  obtain ⟨fd26, F26⟩ := c.def_ 26 (d := dd_more_than) rfl
  obtain ⟨fd27, F27⟩ := c.def_ 27 (d := dd_signers) rfl
  obtain ⟨fd28, F28⟩ := c.def_ 28 (d := dd_Header___init__) rfl
  obtain ⟨fd29, F29⟩ := c.def_ 29 (d := dd_Header___eq__) rfl
  obtain ⟨fd30, F30⟩ := c.def_ 30 (d := dd_Header_fields) rfl
  obtain ⟨fd31, F31⟩ := c.def_ 31 (d := dd_Block___init__) rfl
  obtain ⟨fd32, F32⟩ := c.def_ 32 (d := dd_Block___eq__) rfl
  obtain ⟨fd33, F33⟩ := c.def_ 33 (d := dd_header_digest) rfl
  obtain ⟨fd34, F34⟩ := c.def_ 34 (d := dd_vote_message) rfl
  obtain ⟨fd35, F35⟩ := c.def_ 35 (d := dd_block_signers) rfl
  obtain ⟨fd36, F36⟩ := c.def_ 36 (d := dd_is_root_of) rfl
  obtain ⟨fd37, F37⟩ := c.def_ 37 (d := dd_lists_fault) rfl
  obtain ⟨fd38, F38⟩ := c.def_ 38 (d := dd_has_negative) rfl
  obtain ⟨fd39, F39⟩ := c.def_ 39 (d := dd_block_fault) rfl
  obtain ⟨fd40, F40⟩ := c.def_ 40 (d := dd_double_signers) rfl
  obtain ⟨fd41, F41⟩ := c.def_ 41 (d := dd__law_number) rfl
  obtain ⟨fd42, F42⟩ := c.def_ 42 (d := dd__law_cells) rfl
  obtain ⟨fd43, F43⟩ := c.def_ 43 (d := dd__law_block) rfl
  obtain ⟨fd44, F44⟩ := c.def_ 44 (d := dd_law) rfl
  let T : Txt K mg := {
    fd_Hasher___init__ := fd0,
    Hasher___init__ := ⟨F0, (F0.bindsN (ps := ["self", "width"]) fun _ _ _ _ _ _ us hl => match us, hl with | [_, _], _ => rfl)⟩,
    fd_Hasher_digest := fd1,
    Hasher_digest := ⟨F1, (F1.bindsN (ps := ["self", "tag", "numbers"]) fun _ _ _ _ _ _ us hl => match us, hl with | [_, _, _], _ => rfl)⟩,
    fd_Hasher_is_digest := fd2,
    Hasher_is_digest := ⟨F2, (F2.bindsN (ps := ["self", "number"]) fun _ _ _ _ _ _ us hl => match us, hl with | [_, _], _ => rfl)⟩,
    fd_are_digests := fd3,
    are_digests := ⟨F3, He.glo_ok X G (c.fact 0 (f := .glo "are_digests") rfl), (F3.bindsN (ps := ["hasher", "numbers"]) fun _ _ _ _ _ _ us hl => match us, hl with | [_, _], _ => rfl)⟩,
    fd_limbs_of := fd4,
    limbs_of := ⟨F4, He.glo_ok X G (c.fact 1 (f := .glo "limbs_of") rfl), (F4.bindsN (ps := ["numbers"]) fun _ _ _ _ _ _ us hl => match us, hl with | [_], _ => rfl)⟩,
    fd_mixed := fd5,
    mixed := ⟨F5, He.glo_ok X G (c.fact 2 (f := .glo "mixed") rfl), (F5.bindsN (ps := ["limbs"]) fun _ _ _ _ _ _ us hl => match us, hl with | [_], _ => rfl)⟩,
    fd_digits_of := fd6,
    digits_of := ⟨F6, He.glo_ok X G (c.fact 3 (f := .glo "digits_of") rfl), (F6.bindsN (ps := ["width", "message"]) fun _ _ _ _ _ _ us hl => match us, hl with | [_, _], _ => rfl)⟩,
    fd_base_digits := fd7,
    base_digits := ⟨F7, He.glo_ok X G (c.fact 4 (f := .glo "base_digits") rfl), (F7.bindsN (ps := ["number", "many"]) fun _ _ _ _ _ _ us hl => match us, hl with | [_, _], _ => rfl)⟩,
    fd_message_digits := fd8,
    message_digits := ⟨F8, He.glo_ok X G (c.fact 5 (f := .glo "message_digits") rfl), (F8.bindsN (ps := ["width"]) fun _ _ _ _ _ _ us hl => match us, hl with | [_], _ => rfl)⟩,
    fd_check_digits := fd9,
    check_digits := ⟨F9, He.glo_ok X G (c.fact 6 (f := .glo "check_digits") rfl), (F9.bindsN (ps := ["width"]) fun _ _ _ _ _ _ us hl => match us, hl with | [_], _ => rfl)⟩,
    fd_chain_count := fd10,
    chain_count := ⟨F10, He.glo_ok X G (c.fact 7 (f := .glo "chain_count") rfl), (F10.bindsN (ps := ["width"]) fun _ _ _ _ _ _ us hl => match us, hl with | [_], _ => rfl)⟩,
    fd_next_word := fd11,
    next_word := ⟨F11, He.glo_ok X G (c.fact 8 (f := .glo "next_word") rfl), (F11.bindsN (ps := ["hasher", "index", "chain", "step", "word"]) fun _ _ _ _ _ _ us hl => match us, hl with | [_, _, _, _, _], _ => rfl)⟩,
    fd_followed := fd12,
    followed := ⟨F12, He.glo_ok X G (c.fact 9 (f := .glo "followed") rfl), (F12.bindsN (ps := ["hasher", "index", "chain", "step", "word", "last"]) fun _ _ _ _ _ _ us hl => match us, hl with | [_, _, _, _, _, _], _ => rfl)⟩,
    fd_Signer___init__ := fd13,
    Signer___init__ := ⟨F13, (F13.bindsN (ps := ["self", "hasher", "secret", "levels"]) fun _ _ _ _ _ _ us hl => match us, hl with | [_, _, _, _], _ => rfl)⟩,
    fd_Signer_sign := fd14,
    Signer_sign := ⟨F14, (F14.bindsN (ps := ["self", "index", "message"]) fun _ _ _ _ _ _ us hl => match us, hl with | [_, _, _], _ => rfl)⟩,
    fd_Signer_word := fd15,
    Signer_word := ⟨F15, (F15.bindsN (ps := ["self", "index", "chain", "step"]) fun _ _ _ _ _ _ us hl => match us, hl with | [_, _, _, _], _ => rfl)⟩,
    fd_Signer__node := fd16,
    Signer__node := ⟨F16, (F16.bindsN (ps := ["self", "level", "place"]) fun _ _ _ _ _ _ us hl => match us, hl with | [_, _, _], _ => rfl)⟩,
    fd_Signer__made_node := fd17,
    Signer__made_node := ⟨F17, (F17.bindsN (ps := ["self", "level", "place"]) fun _ _ _ _ _ _ us hl => match us, hl with | [_, _, _], _ => rfl)⟩,
    fd_verify := fd18,
    verify := ⟨F18, He.glo_ok X G (c.fact 10 (f := .glo "verify") rfl), (F18.bindsN (ps := ["hasher", "public", "message", "signature"]) fun _ _ _ _ _ _ us hl => match us, hl with | [_, _, _, _], _ => rfl)⟩,
    fd_has_shape := fd19,
    has_shape := ⟨F19, He.glo_ok X G (c.fact 11 (f := .glo "has_shape") rfl), (F19.bindsN (ps := ["hasher", "signature"]) fun _ _ _ _ _ _ us hl => match us, hl with | [_, _], _ => rfl)⟩,
    fd_told_inputs := fd20,
    told_inputs := ⟨F20, He.glo_ok X G (c.fact 12 (f := .glo "told_inputs") rfl), (F20.bindsN (ps := ["hasher", "message", "signature"]) fun _ _ _ _ _ _ us hl => match us, hl with | [_, _, _], _ => rfl)⟩,
    fd_members_fault := fd21,
    members_fault := ⟨F21, He.glo_ok X G (c.fact 13 (f := .glo "members_fault") rfl), (F21.bindsN (ps := ["members"]) fun _ _ _ _ _ _ us hl => match us, hl with | [_], _ => rfl)⟩,
    fd_members_numbers := fd22,
    members_numbers := ⟨F22, He.glo_ok X G (c.fact 14 (f := .glo "members_numbers") rfl), (F22.bindsN (ps := ["members"]) fun _ _ _ _ _ _ us hl => match us, hl with | [_], _ => rfl)⟩,
    fd_members_root := fd23,
    members_root := ⟨F23, He.glo_ok X G (c.fact 15 (f := .glo "members_root") rfl), (F23.bindsN (ps := ["hasher", "members"]) fun _ _ _ _ _ _ us hl => match us, hl with | [_, _], _ => rfl)⟩,
    fd_total := fd24,
    total := ⟨F24, He.glo_ok X G (c.fact 16 (f := .glo "total") rfl), (F24.bindsN (ps := ["members"]) fun _ _ _ _ _ _ us hl => match us, hl with | [_], _ => rfl)⟩,
    fd_weight_of := fd25,
    weight_of := ⟨F25, He.glo_ok X G (c.fact 17 (f := .glo "weight_of") rfl), (F25.bindsN (ps := ["members", "publics"]) fun _ _ _ _ _ _ us hl => match us, hl with | [_, _], _ => rfl)⟩,
    fd_more_than := fd26,
    more_than := ⟨F26, He.glo_ok X G (c.fact 18 (f := .glo "more_than") rfl), (F26.bindsN (ps := ["members", "publics", "parts", "whole"]) fun _ _ _ _ _ _ us hl => match us, hl with | [_, _, _, _], _ => rfl)⟩,
    fd_signers := fd27,
    signers := ⟨F27, He.glo_ok X G (c.fact 19 (f := .glo "signers") rfl), (F27.bindsN (ps := ["hasher", "message", "members", "votes"]) fun _ _ _ _ _ _ us hl => match us, hl with | [_, _, _, _], _ => rfl)⟩,
    fd_Header___init__ := fd28,
    Header___init__ := ⟨F28, (F28.bindsN (ps := ["self", "chain", "height", "time", "previous", "state", "members", "following"]) fun _ _ _ _ _ _ us hl => match us, hl with | [_, _, _, _, _, _, _, _], _ => rfl)⟩,
    fd_Header___eq__ := fd29,
    Header___eq__ := ⟨F29, (F29.bindsN (ps := ["self", "other"]) fun _ _ _ _ _ _ us hl => match us, hl with | [_, _], _ => rfl)⟩,
    fd_Header_fields := fd30,
    Header_fields := ⟨F30, (F30.bindsN (ps := ["self"]) fun _ _ _ _ _ _ us hl => match us, hl with | [_], _ => rfl)⟩,
    fd_Block___init__ := fd31,
    Block___init__ := ⟨F31, (F31.bindsN (ps := ["self", "header", "members", "following", "votes"]) fun _ _ _ _ _ _ us hl => match us, hl with | [_, _, _, _, _], _ => rfl)⟩,
    fd_Block___eq__ := fd32,
    Block___eq__ := ⟨F32, (F32.bindsN (ps := ["self", "other"]) fun _ _ _ _ _ _ us hl => match us, hl with | [_, _], _ => rfl)⟩,
    fd_header_digest := fd33,
    header_digest := ⟨F33, He.glo_ok X G (c.fact 20 (f := .glo "header_digest") rfl), (F33.bindsN (ps := ["hasher", "header"]) fun _ _ _ _ _ _ us hl => match us, hl with | [_, _], _ => rfl)⟩,
    fd_vote_message := fd34,
    vote_message := ⟨F34, He.glo_ok X G (c.fact 21 (f := .glo "vote_message") rfl), (F34.bindsN (ps := ["hasher", "header"]) fun _ _ _ _ _ _ us hl => match us, hl with | [_, _], _ => rfl)⟩,
    fd_block_signers := fd35,
    block_signers := ⟨F35, He.glo_ok X G (c.fact 22 (f := .glo "block_signers") rfl), (F35.bindsN (ps := ["hasher", "block"]) fun _ _ _ _ _ _ us hl => match us, hl with | [_, _], _ => rfl)⟩,
    fd_is_root_of := fd36,
    is_root_of := ⟨F36, He.glo_ok X G (c.fact 23 (f := .glo "is_root_of") rfl), (F36.bindsN (ps := ["hasher", "root", "members"]) fun _ _ _ _ _ _ us hl => match us, hl with | [_, _, _], _ => rfl)⟩,
    fd_lists_fault := fd37,
    lists_fault := ⟨F37, He.glo_ok X G (c.fact 24 (f := .glo "lists_fault") rfl), (F37.bindsN (ps := ["hasher", "block"]) fun _ _ _ _ _ _ us hl => match us, hl with | [_, _], _ => rfl)⟩,
    fd_has_negative := fd38,
    has_negative := ⟨F38, He.glo_ok X G (c.fact 25 (f := .glo "has_negative") rfl), (F38.bindsN (ps := ["header"]) fun _ _ _ _ _ _ us hl => match us, hl with | [_], _ => rfl)⟩,
    fd_block_fault := fd39,
    block_fault := ⟨F39, He.glo_ok X G (c.fact 26 (f := .glo "block_fault") rfl), (F39.bindsN (ps := ["hasher", "chain", "block"]) fun _ _ _ _ _ _ us hl => match us, hl with | [_, _, _], _ => rfl)⟩,
    fd_double_signers := fd40,
    double_signers := ⟨F40, He.glo_ok X G (c.fact 27 (f := .glo "double_signers") rfl), (F40.bindsN (ps := ["hasher", "first", "second"]) fun _ _ _ _ _ _ us hl => match us, hl with | [_, _, _], _ => rfl)⟩,
    fd__law_number := fd41,
    _law_number := ⟨F41, He.glo_ok X G (c.fact 28 (f := .glo "_law_number") rfl), (F41.bindsN (ps := ["cell", "k"]) fun _ _ _ _ _ _ us hl => match us, hl with | [_, _], _ => rfl)⟩,
    fd__law_cells := fd42,
    _law_cells := ⟨F42, He.glo_ok X G (c.fact 29 (f := .glo "_law_cells") rfl), (F42.bindsN (ps := ["script", "count"]) fun _ _ _ _ _ _ us hl => match us, hl with | [_, _], _ => rfl)⟩,
    fd__law_block := fd43,
    _law_block := ⟨F43, He.glo_ok X G (c.fact 30 (f := .glo "_law_block") rfl), (F43.bindsN (ps := ["hasher", "keys", "weights", "y"]) fun _ _ _ _ _ _ us hl => match us, hl with | [_, _, _, _], _ => rfl)⟩,
    fd_law := fd44,
    law := ⟨F44, He.glo_ok X G (c.fact 31 (f := .glo "law") rfl), (F44.bindsN (ps := ["script"]) fun _ _ _ _ _ _ us hl => match us, hl with | [_], _ => rfl)⟩,
    cl_Block := He.cls_ok (c.fact 32 (f := .cls "Block") rfl),
    g_Block := He.glo_ok X G (c.fact 33 (f := .glo "Block") rfl),
    cl_Hasher := He.cls_ok (c.fact 34 (f := .cls "Hasher") rfl),
    g_Hasher := He.glo_ok X G (c.fact 35 (f := .glo "Hasher") rfl),
    cl_Header := He.cls_ok (c.fact 36 (f := .cls "Header") rfl),
    g_Header := He.glo_ok X G (c.fact 37 (f := .glo "Header") rfl),
    cl_Signer := He.cls_ok (c.fact 38 (f := .cls "Signer") rfl),
    g_Signer := He.glo_ok X G (c.fact 39 (f := .glo "Signer") rfl),
    z_all := He.free_ok X G (c.fact 40 (f := .free "all") rfl),
    z_any := He.free_ok X G (c.fact 41 (f := .free "any") rfl),
    z_enumerate := He.free_ok X G (c.fact 42 (f := .free "enumerate") rfl),
    z_int := He.free_ok X G (c.fact 43 (f := .free "int") rfl),
    z_isinstance := He.free_ok X G (c.fact 44 (f := .free "isinstance") rfl),
    z_len := He.free_ok X G (c.fact 45 (f := .free "len") rfl),
    z_list := He.free_ok X G (c.fact 46 (f := .free "list") rfl),
    z_max := He.free_ok X G (c.fact 47 (f := .free "max") rfl),
    z_min := He.free_ok X G (c.fact 48 (f := .free "min") rfl),
    z_range := He.free_ok X G (c.fact 49 (f := .free "range") rfl),
    z_sorted := He.free_ok X G (c.fact 50 (f := .free "sorted") rfl),
    z_sum := He.free_ok X G (c.fact 51 (f := .free "sum") rfl),
    z_tuple := He.free_ok X G (c.fact 52 (f := .free "tuple") rfl),
    c_DIGIT_BITS := He.int_ok X G (c.fact 53 (f := .int "DIGIT_BITS" 4) rfl),
    c_FIRST_FACTOR := He.int_ok X G (c.fact 54 (f := .int "FIRST_FACTOR" 15241578750190521011) rfl),
    c_FIRST_SHIFT := He.int_ok X G (c.fact 55 (f := .int "FIRST_SHIFT" 31) rfl),
    c_FIRST_START := He.int_ok X G (c.fact 56 (f := .int "FIRST_START" 7263541890216354987) rfl),
    c_GREATEST_DIGIT := He.int_ok X G (c.fact 57 (f := .int "GREATEST_DIGIT" 15) rfl),
    c_GREATEST_LEVELS := He.int_ok X G (c.fact 58 (f := .int "GREATEST_LEVELS" 6) rfl),
    c_GREATEST_WEIGHT := He.int_ok X G (c.fact 59 (f := .int "GREATEST_WEIGHT" 1000000) rfl),
    c_HEADER_TAG := He.int_ok X G (c.fact 60 (f := .int "HEADER_TAG" 8) rfl),
    c_KEY_TAG := He.int_ok X G (c.fact 61 (f := .int "KEY_TAG" 5) rfl),
    c_LAST_STEP := He.int_ok X G (c.fact 62 (f := .int "LAST_STEP" 15) rfl),
    c_LIMB_BITS := He.int_ok X G (c.fact 63 (f := .int "LIMB_BITS" 32) rfl),
    c_LIMB_MASK := He.int_ok X G (c.fact 64 (f := .int "LIMB_MASK" 4294967295) rfl),
    c_MEMBERS_TAG := He.int_ok X G (c.fact 65 (f := .int "MEMBERS_TAG" 9) rfl),
    c_MIX_BITS := He.int_ok X G (c.fact 66 (f := .int "MIX_BITS" 128) rfl),
    c_MOST_MEMBERS := He.int_ok X G (c.fact 67 (f := .int "MOST_MEMBERS" 64) rfl),
    c_NODE_TAG := He.int_ok X G (c.fact 68 (f := .int "NODE_TAG" 6) rfl),
    c_SECOND_FACTOR := He.int_ok X G (c.fact 69 (f := .int "SECOND_FACTOR" 9764318250173649287) rfl),
    c_SECOND_SHIFT := He.int_ok X G (c.fact 70 (f := .int "SECOND_SHIFT" 29) rfl),
    c_SECOND_START := He.int_ok X G (c.fact 71 (f := .int "SECOND_START" 12985647301928374651) rfl),
    c_SECRET_TAG := He.int_ok X G (c.fact 72 (f := .int "SECRET_TAG" 7) rfl),
    c_STEP_TAG := He.int_ok X G (c.fact 73 (f := .int "STEP_TAG" 4) rfl),
    c_VOTE_TAG := He.int_ok X G (c.fact 74 (f := .int "VOTE_TAG" 10) rfl),
    c_WORD_MASK := He.int_ok X G (c.fact 75 (f := .int "WORD_MASK" 18446744073709551615) rfl),
    me_Hasher_digest := He.meth_ok (c.fact 76 (f := .meth "Hasher" "digest") rfl),
    me_Hasher_is_digest := He.meth_ok (c.fact 77 (f := .meth "Hasher" "is_digest") rfl),
    me_Header___eq__ := He.meth_ok (c.fact 78 (f := .meth "Header" "__eq__") rfl),
    me_Header_fields := He.meth_ok (c.fact 79 (f := .meth "Header" "fields") rfl),
    me_Signer__made_node := He.meth_ok (c.fact 80 (f := .meth "Signer" "_made_node") rfl),
    me_Signer__node := He.meth_ok (c.fact 81 (f := .meth "Signer" "_node") rfl),
    me_Signer_sign := He.meth_ok (c.fact 82 (f := .meth "Signer" "sign") rfl),
    me_Signer_word := He.meth_ok (c.fact 83 (f := .meth "Signer" "word") rfl),
    mk_Block := He.mkr_ok (c.fact 84 (f := .mkr "Block") rfl),
    mk_Hasher := He.mkr_ok (c.fact 85 (f := .mkr "Hasher") rfl),
    mk_Header := He.mkr_ok (c.fact 86 (f := .mkr "Header") rfl),
    mk_Signer := He.mkr_ok (c.fact 87 (f := .mkr "Signer") rfl),
    n_Block_following := He.noat_ok (c.fact 88 (f := .noat "Block" "following") rfl),
    n_Block_header := He.noat_ok (c.fact 89 (f := .noat "Block" "header") rfl),
    n_Block_members := He.noat_ok (c.fact 90 (f := .noat "Block" "members") rfl),
    n_Block_votes := He.noat_ok (c.fact 91 (f := .noat "Block" "votes") rfl),
    n_Hasher_width := He.noat_ok (c.fact 92 (f := .noat "Hasher" "width") rfl),
    n_Header_chain := He.noat_ok (c.fact 93 (f := .noat "Header" "chain") rfl),
    n_Header_following := He.noat_ok (c.fact 94 (f := .noat "Header" "following") rfl),
    n_Header_height := He.noat_ok (c.fact 95 (f := .noat "Header" "height") rfl),
    n_Header_members := He.noat_ok (c.fact 96 (f := .noat "Header" "members") rfl),
    n_Header_previous := He.noat_ok (c.fact 97 (f := .noat "Header" "previous") rfl),
    n_Header_state := He.noat_ok (c.fact 98 (f := .noat "Header" "state") rfl),
    n_Header_time := He.noat_ok (c.fact 99 (f := .noat "Header" "time") rfl),
    n_Signer__nodes := He.noat_ok (c.fact 100 (f := .noat "Signer" "_nodes") rfl),
    n_Signer_hasher := He.noat_ok (c.fact 101 (f := .noat "Signer" "hasher") rfl),
    n_Signer_levels := He.noat_ok (c.fact 102 (f := .noat "Signer" "levels") rfl),
    n_Signer_public := He.noat_ok (c.fact 103 (f := .noat "Signer" "public") rfl),
    n_Signer_secret := He.noat_ok (c.fact 104 (f := .noat "Signer" "secret") rfl),
    eq_Block := ex_Block,
    eq_Header := ex_Header }
  have e := hfa.symm.trans T.law.g
  have e2 : f = He.fAd K ("law", none) := by injection e with e1; injection e1
  subst e2
  exact ⟨T.fd_law, fun s v => FunD.bindsA (ps := ["script"]) T.law.F (fun _ _ _ _ _ _ us hl => match us, hl with | [_], _ => rfl) s [v] rfl, fun base _ _ => ok_law T⟩
end Pf
theorem PySem.Challenge.cw_offing_k39_double_signers_holds : PySem.Challenge.rw_offing_k39_double_signers.Holds :=
  Pf.early Pf.sp_law (fun K H a ns hl hS => Pf.law_starts K H a ns hl hS) (fun P w K h mg f X G hfa c => Pf.facts X G hfa c)

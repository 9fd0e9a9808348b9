import PyProof.Rows.All
import Wide.All
import OpenK.AllK
import Wide.FinOn
import KE.KStateDown
import HandS.Base
import HandS.Call
import HandS.List
import HandS.Comp
import HandS.Ends
import HandS.Dict
import HandS.Iter
import HandS.Text
import HandS.More
import HandS.Words
import HandS.WordsList
import HandS.WordsExc
import HandS.Defaults
import HandS.Wide
import HandS.IsInst
import HandS.Flow
import HandS.TupAny
import HandS.Head0
import HandS.Head1
import HandS.Head2
import HandS.HeadEnd
import HandS.HeadHook1
import HandS.HeadHook2
import HandS.HeadHook3
import HandS.HeadHook4
import HandS.Style
import HandS.Steps
import KE.KOpsOwn
import HandS.OwnEq
import HandS.SortOrd
import HandS.DictTup
import HandS.DictComp
import HandS.Conv
import PyProof.TupleOfGen
import HandS.Deep
import PyProof.InstNe
import HandS.Codes
import KE.KOwnIter
import HandS.IterVal
import KE.KTupTruth
import PyProof.Rows.Range3
import HandS.ClsMeth
import HandS.HeadNt
import HandS.Property
import HandS.Head4
import HandS.FStr
import HandS.EndBits
import HandS.WideBits
import PyProof.DictMoreH
import KE.KDictCopyH
import KE.KDictWalk
import HandS.ListItems
import HandS.SetBool
import HandS.Strs
import KE.KAssignIn
import HandS.Star
import HandS.SortInts
import HandS.CallLocal
import HandS.Exc
import KE.KExcIs
import KE.KIsAll
import HandS.ExcOwn
import HandS.ExcInit
import HandS.ExcIs
import HandS.ExcField
import HandS.MakeKwOnly
import HandS.TryMany
import HandS.Lambda
import KE.KDictOf
import KE.KDictDisplayH
import KE.SortData
import HandS.ExcBuiltin
import HandS.Records
import PySem.Challenge.RW_keptcoin_k73_strict_reading
set_option Elab.async false
set_option linter.all false
set_option maxRecDepth 100000
/-! Reading rules: each reading of the hand layer as one step towards what follows. -/
namespace Rd
open PySem PySem.Spec PyProof.Rows L2

/-! ### heaps -/
theorem same_new {H : Hp} {p : Addr} {o : HO} (h : H p = none) : Same H (upd H p o) := fun b x e => by
  rw [upd_ne (ne_of_none e h)]
  exact e
/-- an object that H does not know may change -/
theorem same_mut {H H' : Hp} {p : Addr} {o : HO} (e : Same H H') (h : H p = none) : Same H (upd H' p o) := fun a u ha => by
  rw [upd_ne (ne_of_none ha h)]
  exact e a u ha
theorem same_tup {K : PySem.W.Frag} {H H' : Hp} {a : Addr} {xs : List V} (e : Same H H') (h : SqT K H a xs) : SqT K H' a xs := by
  rcases h with (h | ⟨o, h⟩) | h
  · exact .inl (.inl (e _ _ h))
  · exact .inl (.inr ⟨o, e _ _ h⟩)
  · exact .inr h
theorem nl {K : PySem.W.Frag} {H : Hp} {p a : Addr} {o : HO} {xs : List V} (hp : H p = none) (h : SqL K H a xs) : SqL K (upd H p o) a xs := (same_new hp).seq h
theorem nt {K : PySem.W.Frag} {H : Hp} {p a : Addr} {o : HO} {xs : List V} (hp : H p = none) (h : SqT K H a xs) : SqT K (upd H p o) a xs := same_tup (same_new hp) h
theorem nh {H : Hp} {p a : Addr} {o u : HO} (hp : H p = none) (h : H a = some u) : upd H p o a = some u := same_new hp _ _ h
theorem slT {K : PySem.W.Frag} {H : Hp} {p : Addr} {xs : List V} : SqT K (upd H p (.tup xs)) p xs := SqT.of upd_same
theorem slL {K : PySem.W.Frag} {H : Hp} {p : Addr} {xs : List V} : SqL K (upd H p (.lst xs)) p xs := SqL.of upd_same
theorem small {n : Nat} (h : n ≤ 100000) : n ≤ sizeLine := Nat.le_trans h (by decide)
theorem smallT {n : Nat} (h : n < 100000) : n < sizeLine := Nat.lt_of_lt_of_le h (by decide)

theorem ul {K : PySem.W.Frag} {H : Hp} {p a : Addr} {o : HO} {xs : List V} (hp : a ≠ p) (h : SqL K H a xs) : SqL K (upd H p o) a xs := by
  rcases h with (h | ⟨u, h⟩) | h
  · exact .inl (.inl ((upd_ne hp).trans h))
  · exact .inl (.inr ⟨u, (upd_ne hp).trans h⟩)
  · exact .inr h
theorem ut {K : PySem.W.Frag} {H : Hp} {p a : Addr} {o : HO} {xs : List V} (hp : a ≠ p) (h : SqT K H a xs) : SqT K (upd H p o) a xs := by
  rcases h with (h | ⟨u, h⟩) | h
  · exact .inl (.inl ((upd_ne hp).trans h))
  · exact .inl (.inr ⟨u, (upd_ne hp).trans h⟩)
  · exact .inr h
theorem uh {H : Hp} {p a : Addr} {o u : HO} (hp : a ≠ p) (h : H a = some u) : upd H p o a = some u := (upd_ne hp).trans h
/-! ### expressions -/
section
variable {σ : L2.St} {H : Hp} {Q : VK} {ta tb te tc : TE} {K : PySem.W.Frag}
theorem var {i : Nat} {v : V} (h : σ[i]? = some (some v)) (k : Q v H) : tVar i σ H Q := ⟨v, h, k⟩
theorem cst {v : V} (k : Q v H) : tC v σ H Q := k
theorem op {r : R2} (k : ta σ H fun x H1 => tb σ H1 fun y H2 => r x y H2 Q) : tOp r ta tb σ H Q := k
theorem un {r : V → Hp → VK → Prop} (k : ta σ H fun x H1 => r x H1 Q) : tUn r ta σ H Q := k
theorem opI0 {g : Int → Int → V} {i j : Int} (k : Q (g i j) H) : rI0 g (.int i) (.int j) H Q := ⟨i, j, rfl, rfl, k⟩
theorem opI {C : Int → Int → Prop} {g : Int → Int → V} {i j : Int} (c : C i j) (k : Q (g i j) H) : rI C g (.int i) (.int j) H Q := ⟨i, j, rfl, rfl, c, k⟩
theorem opU {g : Int → V} {i : Int} (k : Q (g i) H) : rU g (.int i) H Q := ⟨i, rfl, k⟩
theorem eqI {i j : Int} (k : Q (.bl (decide (i = j))) H) : rEq (.int i) (.int j) H Q := ⟨rfl, by
  have e : decide (V.int i = V.int j) = decide (i = j) := by simp
  rw [e]; exact k⟩
theorem neI {i j : Int} (k : Q (.bl (!decide (i = j))) H) : rNe (.int i) (.int j) H Q := ⟨rfl, by
  have e : decide (V.int i = V.int j) = decide (i = j) := by simp
  rw [e]; exact k⟩
theorem eqS {i j : Str} (k : Q (.bl (decide (i = j))) H) : rEq (.str i) (.str j) H Q := ⟨rfl, by
  have e : decide (V.str i = V.str j) = decide (i = j) := by simp
  rw [e]; exact k⟩
theorem neS {i j : Str} (k : Q (.bl (!decide (i = j))) H) : rNe (.str i) (.str j) H Q := ⟨rfl, by
  have e : decide (V.str i = V.str j) = decide (i = j) := by simp
  rw [e]; exact k⟩
theorem eqB {i j : Bool} (k : Q (.bl (decide (i = j))) H) : rEq (.bl i) (.bl j) H Q := ⟨rfl, by
  have e : decide (V.bl i = V.bl j) = decide (i = j) := by simp
  rw [e]; exact k⟩
theorem neB {i j : Bool} (k : Q (.bl (!decide (i = j))) H) : rNe (.bl i) (.bl j) H Q := ⟨rfl, by
  have e : decide (V.bl i = V.bl j) = decide (i = j) := by simp
  rw [e]; exact k⟩
theorem chain {r r' : R2} (k : ta σ H fun x H1 => tb σ H1 fun y H2 => r x y H2 fun z H3 => ∃ k, z = .bl k ∧ (if k = true then tc σ H3 fun w' H4 => r' y w' H4 Q else Q (.bl false) H3)) : tChain r r' ta tb tc σ H Q := k
theorem bl {b : Bool} {P : Bool → Prop} (k : P b) : ∃ c, V.bl b = V.bl c ∧ P c := ⟨b, rfl, k⟩
theorem andV (k : ta σ H fun x H1 => ∃ c, x = .bl c ∧ if c = true then tb σ H1 Q else Q (.bl false) H1) : tAndV ta tb σ H Q := k
theorem orV (k : ta σ H fun x H1 => ∃ c, x = .bl c ∧ if c = true then Q (.bl true) H1 else tb σ H1 Q) : tOrV ta tb σ H Q := k
theorem notV (k : ta σ H fun x H1 => ∃ c, x = .bl c ∧ Q (.bl (!c)) H1) : tNotV ta σ H Q := k
theorem ifE {t : TT} (k : t σ H fun c H1 => if c = true then ta σ H1 Q else tb σ H1 Q) : tIf t ta tb σ H Q := k
theorem nil {Q : List V → Hp → Prop} (k : Q [] H) : tNil σ H Q := k
theorem cons {tr : TA} {Q : List V → Hp → Prop} (k : ta σ H fun x H1 => tr σ H1 fun xs H2 => Q (x :: xs) H2) : tCons ta tr σ H Q := k
theorem callN {sp : Sp} {E : XK} {t : TA} (k : t σ H fun vs H1 => sp vs H1 Q E) : tCall sp [] E t σ H Q := by
  unfold tCall
  simp only [List.append_nil]
  exact k
theorem cb {r : List V → Hp → VK → Prop} {t : TA} (k : t σ H fun vs H1 => r vs H1 Q) : tCB r t σ H Q := k
theorem tup {t : TA} (k : t σ H fun xs H1 => xs.length ≤ sizeLine ∧ ∀ p, H1 p = none → Q (.ref p) (upd H1 p (.tup xs))) : tTup t σ H Q := k
theorem lst {t : TA} (k : t σ H fun xs H1 => xs.length ≤ sizeLine ∧ ∀ p, H1 p = none → Q (.ref p) (upd H1 p (.lst xs))) : tLst t σ H Q := k
theorem ixL {p : Addr} {xs : List V} {i : Int} {v : V} (h : SqL K H p xs) (a : atI xs i = some v) (k : Q v H) : rIxL K (.ref p) (.int i) H Q := ⟨p, xs, i, v, rfl, rfl, h, a, k⟩
theorem ixT {p : Addr} {xs : List V} {i : Int} {v : V} (h : SqT K H p xs) (a : atI xs i = some v) (k : Q v H) : rIxT K (.ref p) (.int i) H Q := ⟨p, xs, i, v, rfl, rfl, h, a, k⟩
theorem sl {r : V → Option Int → Option Int → Hp → VK → Prop} {tl th : TO} (k : te σ H fun x H1 => tl σ H1 fun lo H2 => th σ H2 fun hi H3 => r x lo hi H3 Q) : tSl r te tl th σ H Q := k
/-! built-ins whose readings are written out: each by a name -/
def LenK (K : PySem.W.Frag) (xs : List V) (H : Hp) (Q : VK) : Prop := ∃ p ys, xs = [.ref p] ∧ (SqL K H p ys ∨ SqT K H p ys) ∧ Q (.int ys.length) H
def LenSK (xs : List V) (H : Hp) (Q : VK) : Prop := ∃ z : Str, xs = [.str z] ∧ z.length ≤ sizeLine ∧ Q (.int z.length) H
def IntK (xs : List V) (H : Hp) (Q : VK) : Prop := (∃ i, xs = [.int i] ∧ Q (.int i) H) ∨ ∃ k, xs = [.bl k] ∧ Q (.int (if k then 1 else 0)) H
def AbsK (xs : List V) (H : Hp) (Q : VK) : Prop := ∃ i, xs = [.int i] ∧ Q (.int (if i < 0 then -i else i)) H
def StrIK (xs : List V) (H : Hp) (Q : VK) : Prop := ∃ i, xs = [.int i] ∧ i.natAbs.log2 < 1920 ∧ Q (.str (toString i)) H
def LstK (K : PySem.W.Frag) (xs : List V) (H : Hp) (Q : VK) : Prop := ∃ p ys, xs = [.ref p] ∧ (SqL K H p ys ∨ SqT K H p ys) ∧ ∀ l, H l = none → Q (.ref l) (upd H l (.lst ys))
def TupK (K : PySem.W.Frag) (xs : List V) (H : Hp) (Q : VK) : Prop := ∃ p ys, xs = [.ref p] ∧ ((SqL K H p ys ∧ ∀ l, H l = none → Q (.ref l) (upd H l (.tup ys))) ∨ (SqT K H p ys ∧ Q (.ref p) H))
def Max2K (xs : List V) (H : Hp) (Q : VK) : Prop := ∃ i j, xs = [.int i, .int j] ∧ Q (.int (if j > i then j else i)) H
def Min2K (xs : List V) (H : Hp) (Q : VK) : Prop := ∃ i j, xs = [.int i, .int j] ∧ Q (.int (if j < i then j else i)) H
theorem cbLen {t : TA} (k : t σ H fun vs H1 => LenK K vs H1 Q) : tCB (fun xs H Q => ∃ p ys, xs = [V.ref p] ∧ (SqL K H p ys ∨ SqT K H p ys) ∧ Q (.int ys.length) H) t σ H Q := k
theorem cbLenS {t : TA} (k : t σ H fun vs H1 => LenSK vs H1 Q) : tCB (fun xs H Q => ∃ z, xs = [V.str z] ∧ z.length ≤ sizeLine ∧ Q (.int z.length) H) t σ H Q := k
theorem cbInt {t : TA} (k : t σ H fun vs H1 => IntK vs H1 Q) : tCB (fun xs H Q => (∃ i, xs = [V.int i] ∧ Q (.int i) H) ∨ ∃ k, xs = [V.bl k] ∧ Q (.int (if k then 1 else 0)) H) t σ H Q := k
theorem cbAbs {t : TA} (k : t σ H fun vs H1 => AbsK vs H1 Q) : tCB (fun xs H Q => ∃ i, xs = [V.int i] ∧ Q (.int (if i < 0 then -i else i)) H) t σ H Q := k
theorem cbStrI {t : TA} (k : t σ H fun vs H1 => StrIK vs H1 Q) : tCB (fun xs H Q => ∃ i, xs = [V.int i] ∧ i.natAbs.log2 < 1920 ∧ Q (.str (toString i)) H) t σ H Q := k
theorem cbLst {t : TA} (k : t σ H fun vs H1 => LstK K vs H1 Q) : tCB (fun xs H Q => ∃ p ys, xs = [V.ref p] ∧ (SqL K H p ys ∨ SqT K H p ys) ∧ ∀ l, H l = none → Q (.ref l) (upd H l (.lst ys))) t σ H Q := k
theorem cbTup {t : TA} (k : t σ H fun vs H1 => TupK K vs H1 Q) : tCB (fun xs H Q => ∃ p ys, xs = [V.ref p] ∧ ((SqL K H p ys ∧ ∀ l, H l = none → Q (.ref l) (upd H l (.tup ys))) ∨ (SqT K H p ys ∧ Q (.ref p) H))) t σ H Q := k
theorem cbMax2 {t : TA} (k : t σ H fun vs H1 => Max2K vs H1 Q) : tCB (fun xs H Q => ∃ i j, xs = [V.int i, V.int j] ∧ Q (.int (if j > i then j else i)) H) t σ H Q := k
theorem cbMin2 {t : TA} (k : t σ H fun vs H1 => Min2K vs H1 Q) : tCB (fun xs H Q => ∃ i j, xs = [V.int i, V.int j] ∧ Q (.int (if j < i then j else i)) H) t σ H Q := k
def IsNK (x y : V) (H : Hp) (Q : VK) : Prop := y = .non ∧ Q (.bl (decide (x = .non))) H
def NotNK (x y : V) (H : Hp) (Q : VK) : Prop := y = .non ∧ Q (.bl (!decide (x = .non))) H
def AddSK (x y : V) (H : Hp) (Q : VK) : Prop := ∃ i j, x = .str i ∧ y = .str j ∧ i.length + j.length ≤ sizeLine ∧ Q (.str (i ++ j)) H
theorem opIsN (k : ta σ H fun x H1 => tb σ H1 fun y H2 => IsNK x y H2 Q) : tOp (fun x y H Q => y = V.non ∧ Q (.bl (decide (x = .non))) H) ta tb σ H Q := k
theorem opNotN (k : ta σ H fun x H1 => tb σ H1 fun y H2 => NotNK x y H2 Q) : tOp (fun x y H Q => y = V.non ∧ Q (.bl (!decide (x = .non))) H) ta tb σ H Q := k
theorem opAddS (k : ta σ H fun x H1 => tb σ H1 fun y H2 => AddSK x y H2 Q) : tOp (fun x y H Q => ∃ i j, x = V.str i ∧ y = V.str j ∧ i.length + j.length ≤ sizeLine ∧ Q (.str (i ++ j)) H) ta tb σ H Q := k
theorem addS {i j : Str} (h : i.length + j.length ≤ 100000) (k : Q (.str (i ++ j)) H) : AddSK (.str i) (.str j) H Q := ⟨i, j, rfl, rfl, small h, k⟩
theorem isN' {x : V} (k : Q (.bl (decide (x = .non))) H) : IsNK x .non H Q := ⟨rfl, k⟩
theorem notN' {x : V} (k : Q (.bl (!decide (x = .non))) H) : NotNK x .non H Q := ⟨rfl, k⟩
theorem lenS {z : Str} (h : z.length ≤ 100000) (k : Q (.int z.length) H) : LenSK [.str z] H Q := ⟨z, rfl, small h, k⟩
theorem intB {b : Bool} (k : Q (.int (if b then 1 else 0)) H) : IntK [.bl b] H Q := .inr ⟨b, rfl, k⟩
theorem lstL {p : Addr} {ys : List V} (h : SqL K H p ys) (k : ∀ l, H l = none → Q (.ref l) (upd H l (.lst ys))) : LstK K [.ref p] H Q := ⟨p, ys, rfl, .inl h, k⟩
theorem lstT {p : Addr} {ys : List V} (h : SqT K H p ys) (k : ∀ l, H l = none → Q (.ref l) (upd H l (.lst ys))) : LstK K [.ref p] H Q := ⟨p, ys, rfl, .inr h, k⟩
theorem tupL {p : Addr} {ys : List V} (h : SqL K H p ys) (k : ∀ l, H l = none → Q (.ref l) (upd H l (.tup ys))) : TupK K [.ref p] H Q := ⟨p, ys, rfl, .inl ⟨h, k⟩⟩
theorem tupT {p : Addr} {ys : List V} (h : SqT K H p ys) (k : Q (.ref p) H) : TupK K [.ref p] H Q := ⟨p, ys, rfl, .inr ⟨h, k⟩⟩
theorem max2 {i j : Int} (k : ∀ z : Int, i ≤ z → j ≤ z → (z = i ∨ z = j) → Q (.int z) H) : Max2K [.int i, .int j] H Q := ⟨i, j, rfl, k _ (by split <;> omega) (by split <;> omega) (by split <;> omega)⟩
theorem min2 {i j : Int} (k : ∀ z : Int, z ≤ i → z ≤ j → (z = i ∨ z = j) → Q (.int z) H) : Min2K [.int i, .int j] H Q := ⟨i, j, rfl, k _ (by split <;> omega) (by split <;> omega) (by split <;> omega)⟩
theorem lenL {p : Addr} {ys : List V} {n : Nat} (h : SqL K H p ys) (e : ys.length = n) (k : Q (.int n) H) : LenK K [.ref p] H Q := ⟨p, ys, rfl, .inl h, by rw [e]; exact k⟩
theorem lenT {p : Addr} {ys : List V} {n : Nat} (h : SqT K H p ys) (e : ys.length = n) (k : Q (.int n) H) : LenK K [.ref p] H Q := ⟨p, ys, rfl, .inr h, by rw [e]; exact k⟩
theorem int1 {i : Int} (k : Q (.int i) H) : IntK [.int i] H Q := .inl ⟨i, rfl, k⟩
theorem abs1 {i : Int} (k : ∀ z : Int, 0 ≤ z → (z = i ∨ z = -i) → Q (.int z) H) : AbsK [.int i] H Q := ⟨i, rfl, k _ (by split <;> omega) (by split <;> omega)⟩
theorem len {xs : List V} {P : Prop} (h : xs.length ≤ 100000) (k : P) : xs.length ≤ sizeLine ∧ P := ⟨small h, k⟩
theorem pw {a e z : Int} (c : CPow a e) (h : a ^ e.toNat = z) (k : Q (.int z) H) : rI CPow (fun i j => .int (i ^ j.toNat)) (.int a) (.int e) H Q := ⟨a, e, rfl, rfl, c, by subst h; exact k⟩
theorem isi {x c : V} {t u : Value} {b : Bool} (hc : ClsV c u) (ht : TyX K H x t) (e : PySem.W.kitOne K t u = some b) (k : Q (.bl b) H) : rIsi K [x, c] H Q := ⟨x, c, t, u, b, rfl, hc, ht, e, k⟩
/-- a new value of a kind at the end of a derivation -/
theorem fresh {P : Addr → Hp → Prop} {o : HO} (k : ∀ p H', H p = none → H' = upd H p o → P p H') : ∀ p, H p = none → P p (upd H p o) := fun p hp => k p _ hp rfl
end

/-! ### tests, statements -/
section
variable {σ : L2.St} {H : Hp} {n b c : L2.St → Hp → Prop} {r : VK} {ta te : TE} {t u : TS} {D : Ends} {tc td : TT}
theorem tst {Q : Bool → Hp → Prop} (k : te σ H fun x H' => ∃ c, x = .bl c ∧ Q c H') : tTest te σ H Q := k
theorem tB_ {Q : Bool → Hp → Prop} (k : te σ H fun x H' => ∃ c, x = .bl c ∧ Q c H') : tB te σ H Q := k
theorem and_ {Q : Bool → Hp → Prop} (k : tc σ H fun c H1 => if c = true then td σ H1 Q else Q false H1) : tAnd tc td σ H Q := k
theorem or_ {Q : Bool → Hp → Prop} (k : tc σ H fun c H1 => if c = true then Q true H1 else td σ H1 Q) : tOr tc td σ H Q := k
theorem not_ {Q : Bool → Hp → Prop} (k : tc σ H fun c H1 => Q (!c) H1) : tNot tc σ H Q := k
theorem seq (k : t ⟨u ⟨n, r, b, c⟩, r, b, c⟩ σ H) : tSeq t u ⟨n, r, b, c⟩ σ H := k
theorem asg {i : Nat} (k : te σ H fun x H1 => n (σ.set i (some x)) H1) : tAsg te (gName i) ⟨n, r, b, c⟩ σ H := k
theorem asgS {to ti : TE} {ts : TSet} (k : te σ H fun x H1 => to σ H1 fun o H2 => ti σ H2 fun i H3 => ts o i x H3 fun H4 => n σ H4) : tAsg te (gSub to ti ts) ⟨n, r, b, c⟩ σ H := k
theorem ret (k : te σ H r) : tRet te ⟨n, r, b, c⟩ σ H := k
theorem retN (k : r .non H) : tRetN ⟨n, r, b, c⟩ σ H := k
theorem drop (k : te σ H fun _ H1 => n σ H1) : tDrop te ⟨n, r, b, c⟩ σ H := k
theorem next (k : n σ H) : tNext ⟨n, r, b, c⟩ σ H := k
theorem brk (k : b σ H) : tBreak ⟨n, r, b, c⟩ σ H := k
theorem cont (k : c σ H) : tCont ⟨n, r, b, c⟩ σ H := k
theorem ifS (k : tc σ H fun x H1 => if x = true then t D σ H1 else u D σ H1) : tIfS tc t u D σ H := k
theorem aug {i : Nat} {ti : TIp} {x : V} (h : σ[i]? = some (some x)) (k : te σ H fun y H1 => ti x y H1 fun z H2 => n (σ.set i (some z)) H2) : tAug i te ti ⟨n, r, b, c⟩ σ H := ⟨x, h, k⟩
theorem augI {f : Int → Int → Int} {i j : Int} {Q : VK} (k : Q (.int (f i j)) H) : ipI f (.int i) (.int j) H Q := ⟨i, j, rfl, rfl, k⟩
theorem iteT {A B : Prop} (h : A) : if true = true then A else B := by rw [if_pos rfl]; exact h
theorem iteF {A B : Prop} (h : B) : if false = true then A else B := by rw [if_neg Bool.false_ne_true]; exact h
theorem iteD {p : Prop} [Decidable p] {A B : Prop} (h1 : p → A) (h2 : ¬ p → B) : if decide p = true then A else B := by
  by_cases h : p
  · rw [decide_eq_true h]; exact iteT (h1 h)
  · rw [decide_eq_false h]; exact iteF (h2 h)
theorem iteN {p : Prop} [Decidable p] {A B : Prop} (h1 : ¬ p → A) (h2 : p → B) : if (!decide p) = true then A else B := by
  by_cases h : p
  · rw [decide_eq_true h]; exact iteF (h2 h)
  · rw [decide_eq_false h]; exact iteT (h1 h)
theorem iteB {x : Bool} {A B : Prop} (h1 : x = true → A) (h2 : x = false → B) : if x = true then A else B := by
  cases x
  · exact iteF (h2 rfl)
  · exact iteT (h1 rfl)
/-- xs.append(v) -/
theorem app {K : PySem.W.Frag} {to : TE} {t : TA} {Q : VK} (k : to σ H fun x H1 => tyV K "list" x H1 ∧ t σ H1 fun xs H2 => rAppend x xs H2 Q) : tBM K "list" rAppend to t σ H Q := k
theorem tyL {K : PySem.W.Frag} {p : Addr} {xs : List V} {P : Prop} (h : H p = some (.lst xs)) (k : P) : tyV K "list" (.ref p) H ∧ P := ⟨.inl ⟨rfl, _, SqL.of h⟩, k⟩
theorem appd {l : Addr} {xs : List V} {v : V} {Q : VK} (h : H l = some (.lst xs)) (hz : xs.length < 100000) (k : Q .non (upd H l (.lst (xs ++ [v])))) : rAppend (.ref l) [v] H Q := ⟨l, xs, v, rfl, rfl, h, smallT hz, k⟩
theorem setL {p : Addr} {xs : List V} {i : Int} {j : Nat} {v : V} {Q : Hp → Prop} (h : H p = some (.lst xs)) (e : ixN xs.length i = some j) (k : Q (upd H p (.lst (xs.set j v)))) : rSetL (.ref p) (.int i) v H Q := ⟨p, xs, i, j, rfl, rfl, h, e, k⟩
theorem ixN_nat {n j : Nat} (hj : j < n) : ixN n (j : Int) = some j := by
  unfold ixN
  rw [if_pos (by omega), if_pos (by omega)]
  simp
theorem ixN_lit {n : Nat} {i : Int} (h0 : 0 ≤ i) (h : i < n) : ixN n i = some i.toNat := by
  have := @ixN_nat n i.toNat (by omega)
  rwa [Int.toNat_of_nonneg h0] at this
theorem atI_of {α : Type} {xs : List α} {i : Int} {v : α} (h0 : 0 ≤ i) (h : xs[i.toNat]? = some v) : atI xs i = some v := by
  have e := atI_nat (xs := xs) (j := i.toNat) h
  rwa [Int.toNat_of_nonneg h0] at e

theorem atI_ints {ns : List Int} {i : Int} (h0 : 0 ≤ i) (h : i < (ns.length : Int)) : atI (ns.map V.int) i = some (.int (ns.getD i.toNat 0)) := atI_of h0 (by
  have h1 : i.toNat < ns.length := by omega
  rw [List.getElem?_map, List.getD_eq_getElem?_getD, List.getElem?_eq_getElem h1]
  rfl)
theorem getD_bd {ns : List Int} {i : Nat} {lo hi : Int} (hb : ∀ x ∈ ns, lo ≤ x ∧ x < hi) (h : i < ns.length) : lo ≤ ns.getD i 0 ∧ ns.getD i 0 < hi := by
  rw [List.getD_eq_getElem?_getD, List.getElem?_eq_getElem h]
  exact hb _ (List.getElem_mem h)
theorem bd_app {ns : List Int} {x lo hi : Int} (hb : ∀ x ∈ ns, lo ≤ x ∧ x < hi) (hx : lo ≤ x ∧ x < hi) : ∀ y ∈ ns ++ [x], lo ≤ y ∧ y < hi := fun y hy => by
  rcases List.mem_append.mp hy with h | h
  · exact hb y h
  · rw [List.mem_singleton.mp h]; exact hx
theorem cxK {CX : CXT} {P : Program} {w : World} {K : PySem.W.Frag} {mg : Str → Option Value} {base : Heap} {N : List Str} {q : Str} {sc : Scope} {f : Addr} {cdv : Value} {A : Around} {outer : List Env} {s : Shared} {H : Hp} {E : XK} : (cxOf CX P w K mg base N q sc f cdv A outer s H E).K = K := rfl

theorem finT {p : Prop} [Decidable p] {Q : VK} {H : Hp} (k : Q (.bl true) H) (hp : p) : Q (.bl (decide p)) H := by rw [decide_eq_true hp]; exact k
theorem pushInts {H' : Hp} {p : Addr} {nums : List Int} {x : Int} : upd H' p (.lst (nums.map V.int ++ [.int x])) p = some (.lst ((nums ++ [x]).map V.int)) := by rw [upd_same, List.map_append]; rfl

/-! ### loops -/
/-- what a for asks of what it walks -/
def ForJ (g : TG) (tb : TS) (D : Ends) (σ : L2.St) (J : It) (H1 : Hp) : Prop := ∃ W : Nat → Nat → L2.St → Hp → Prop, (∃ m, W 0 m σ H1) ∧ ∀ i m σ H, W i m σ H →
  (J.stop i H ∧ D.nx σ H) ∨ (J.go i H ∧ ∃ N : L2.St → Hp → Prop, (∀ σ' H', N σ' H' → ∃ m', m' < m ∧ W (i + 1) m' σ' H') ∧ ∀ x H', J.yld i H x H' → g x σ H' fun σ2 H2 => tb { D with nx := N, ct := N, bk := D.nx } σ2 H2)
theorem for_ {wi : TI} {g : TG} {tb : TS} (k : wi σ H fun J H1 => ForJ g tb D σ J H1) : tFor wi g tb D σ H := k
theorem iR1 {tl : TA} {R : It → Hp → Prop} (k : tl σ H fun vs H1 => ∃ j : Int, vs = [.int j] ∧ -(2 ^ 62) ≤ j ∧ j < 2 ^ 62 ∧ R (Itr 0 j.toNat) H1) : iRng1 tl σ H R := k
theorem iR2 {tl : TA} {R : It → Hp → Prop} (k : tl σ H fun vs H1 => ∃ i j : Int, vs = [.int i, .int j] ∧ (-(2 ^ 62) ≤ i ∧ i < 2 ^ 62 ∧ -(2 ^ 62) ≤ j ∧ j < 2 ^ 62) ∧ R (Itr i (j - i).toNat) H1) : iRng2 tl σ H R := k
theorem iL {K : PySem.W.Frag} {tl : TE} {R : It → Hp → Prop} (k : tl σ H fun x H1 => ∃ a, x = .ref a ∧ (∃ xs, SqL K H1 a xs) ∧ R (Itl K a) H1) : iList K tl σ H R := k
theorem iT {K : PySem.W.Frag} {tl : TE} {R : It → Hp → Prop} (k : tl σ H fun x H1 => ∃ a, x = .ref a ∧ (∃ xs, SqT K H1 a xs) ∧ R (Itt K a) H1) : iTup K tl σ H R := k
/-- for name in range(m), the argument known -/
theorem rng1 {m : Int} {tb : TS} {j : Nat} (Pv : Nat → L2.St → Hp → Prop) (hb : -1000000 ≤ m ∧ m ≤ 1000000) (h0 : Pv 0 σ H)
    (hs : ∀ (i : Nat) (σ' : L2.St) (H' : Hp), (i : Int) < m → Pv i σ' H' → tb ⟨Pv (i + 1), r, n, Pv (i + 1)⟩ (σ'.set j (some (.int (i : Int)))) H') (hd : ∀ σ' H', Pv m.toNat σ' H' → n σ' H') :
    ∃ q : Int, [V.int m] = [V.int q] ∧ -(2 ^ 62) ≤ q ∧ q < 2 ^ 62 ∧ ForJ (gName j) tb ⟨n, r, b, c⟩ σ (Itr 0 q.toNat) H := by
  obtain ⟨hb1, hb2⟩ := hb
  have p62 : (2 : Int) ^ 62 = 4611686018427387904 := by decide
  refine ⟨m, rfl, by omega, by omega, for_range (lo := 0) (n := m.toNat) Pv h0 (fun i σ' H' hi p => ?_) hd⟩
  have e0 : (0 : Int) + (i : Int) = (i : Int) := Int.zero_add _
  show tb _ (σ'.set j (some (.int ((0 : Int) + (i : Int))))) H'
  rw [e0]
  exact hs i σ' H' (by omega) p
theorem rng2 {lo m : Int} {tb : TS} {j : Nat} (Pv : Nat → L2.St → Hp → Prop) (hb : -1000000 ≤ lo ∧ lo ≤ 1000000 ∧ -1000000 ≤ m ∧ m ≤ 1000000) (h0 : Pv 0 σ H)
    (hs : ∀ (i : Nat) (σ' : L2.St) (H' : Hp), lo + (i : Int) < m → Pv i σ' H' → tb ⟨Pv (i + 1), r, n, Pv (i + 1)⟩ (σ'.set j (some (.int (lo + (i : Int))))) H') (hd : ∀ σ' H', Pv (m - lo).toNat σ' H' → n σ' H') :
    ∃ p q : Int, [V.int lo, V.int m] = [V.int p, V.int q] ∧ (-(2 ^ 62) ≤ p ∧ p < 2 ^ 62 ∧ -(2 ^ 62) ≤ q ∧ q < 2 ^ 62) ∧ ForJ (gName j) tb ⟨n, r, b, c⟩ σ (Itr p (q - p).toNat) H := by
  obtain ⟨hb1, hb2, hb3, hb4⟩ := hb
  have p62 : (2 : Int) ^ 62 = 4611686018427387904 := by decide
  refine ⟨lo, m, rfl, ⟨by omega, by omega, by omega, by omega⟩, for_range (lo := lo) (n := (m - lo).toNat) Pv h0 (fun i σ' H' hi p => ?_) hd⟩
  exact hs i σ' H' (by omega) p
/-- for .. in a list, a tuple -/
theorem forL {K : PySem.W.Frag} {a : Addr} {xs : List V} {g : TG} {tb : TS} (Pv : Nat → L2.St → Hp → Prop) (h : SqL K H a xs) (h0 : Pv 0 σ H) (hl : ∀ i σ H, i ≤ xs.length → Pv i σ H → SqL K H a xs)
    (hs : ∀ (i : Nat) (x : V) (σ' : L2.St) (H' : Hp), xs[i]? = some x → Pv i σ' H' → g x σ' H' fun σ2 H2 => tb ⟨Pv (i + 1), r, n, Pv (i + 1)⟩ σ2 H2) (hd : ∀ σ' H', Pv xs.length σ' H' → n σ' H') :
    ∃ p, V.ref a = V.ref p ∧ (∃ ys, SqL K H p ys) ∧ ForJ g tb ⟨n, r, b, c⟩ σ (Itl K p) H := ⟨a, rfl, ⟨_, h⟩, for_list Pv h0 hl hs hd⟩
theorem forT {K : PySem.W.Frag} {a : Addr} {xs : List V} {g : TG} {tb : TS} (Pv : Nat → L2.St → Hp → Prop) (h : SqT K H a xs) (h0 : Pv 0 σ H) (hl : ∀ i σ H, i ≤ xs.length → Pv i σ H → SqT K H a xs)
    (hs : ∀ (i : Nat) (x : V) (σ' : L2.St) (H' : Hp), xs[i]? = some x → Pv i σ' H' → g x σ' H' fun σ2 H2 => tb ⟨Pv (i + 1), r, n, Pv (i + 1)⟩ σ2 H2) (hd : ∀ σ' H', Pv xs.length σ' H' → n σ' H') :
    ∃ p, V.ref a = V.ref p ∧ (∃ ys, SqT K H p ys) ∧ ForJ g tb ⟨n, r, b, c⟩ σ (Itt K p) H := ⟨a, rfl, ⟨_, h⟩, for_tup Pv h0 hl hs hd⟩
/-- what a list comprehension asks of what it walks -/
def LcJ (g : TG) (tt : TT) (te : TE) (vs : List Nat) (σ : L2.St) (Q : VK) (J : It) (H1 : Hp) : Prop := ∀ D, H1 D = none → ∃ W : Nat → Nat → Hp → Prop, (∃ m, W 0 m (upd H1 D (.lst []))) ∧ ∀ i m H, W i m H →
  (J.stop i H ∧ Q (.ref D) H) ∨ (J.go i H ∧ ∃ Nx : Hp → Prop, (∀ H', Nx H' → ∃ m', m' < m ∧ W (i + 1) m' H') ∧ ∀ x H', J.yld i H x H' → g x (wipe σ vs) H' fun σ2 H2 => wipe σ2 vs = wipe σ vs ∧ tt σ2 H2 fun b H3 =>
    if b = true then te σ2 H3 fun y H4 => ∃ acc, H4 D = some (.lst acc) ∧ acc.length < sizeLine ∧ Nx (upd H4 D (.lst (acc ++ [y]))) else Nx H3)
theorem lc_ {wi : TI} {g : TG} {tt : TT} {te : TE} {vs : List Nat} {Q : VK} (k : wi σ H fun J H1 => LcJ g tt te vs σ Q J H1) : tLc wi g tt te vs σ H Q := k
theorem itrLc {lo : Int} {k : Nat} {g : TG} {tt : TT} {te : TE} {vs : List Nat} {Q : VK} {D : Addr} (Pv : Nat → Hp → Prop) (h0 : Pv 0 (upd H D (.lst [])))
    (hs : ∀ i H, i < k → Pv i H → g (.int (lo + i)) (wipe σ vs) H fun σ2 H2 => wipe σ2 vs = wipe σ vs ∧ tt σ2 H2 fun b H3 =>
      if b = true then te σ2 H3 fun y H4 => ∃ acc, H4 D = some (.lst acc) ∧ acc.length < sizeLine ∧ Pv (i + 1) (upd H4 D (.lst (acc ++ [y]))) else Pv (i + 1) H3) (hd : ∀ H, Pv k H → Q (.ref D) H) :
    ∃ W : Nat → Nat → Hp → Prop, (∃ m, W 0 m (upd H D (.lst []))) ∧ ∀ i m H, W i m H →
      ((Itr lo k).stop i H ∧ Q (.ref D) H) ∨ ((Itr lo k).go i H ∧ ∃ Nx : Hp → Prop, (∀ H', Nx H' → ∃ m', m' < m ∧ W (i + 1) m' H') ∧ ∀ x H', (Itr lo k).yld i H x H' → g x (wipe σ vs) H' fun σ2 H2 => wipe σ2 vs = wipe σ vs ∧ tt σ2 H2 fun b H3 =>
        if b = true then te σ2 H3 fun y H4 => ∃ acc, H4 D = some (.lst acc) ∧ acc.length < sizeLine ∧ Nx (upd H4 D (.lst (acc ++ [y]))) else Nx H3) := by
  refine ⟨fun i m H => m = k - i ∧ i ≤ k ∧ Pv i H, ⟨k, by simp, Nat.zero_le _, h0⟩, ?_⟩
  rintro i m H ⟨rfl, hi, p⟩
  by_cases hlt : i < k
  · refine .inr ⟨hlt, Pv (i + 1), fun H' p' => ⟨k - (i + 1), by omega, rfl, hlt, p'⟩, fun x H' y => ?_⟩
    obtain ⟨e, rfl⟩ := y
    subst e
    exact hs i _ hlt p
  · have e : i = k := by omega
    subst e
    exact .inl ⟨Nat.le_refl _, hd H p⟩
/-- the end of a comprehension's turn: what is made so far, and the invariant -/
def LcE (H : Hp) (D : Addr) (i : Nat) (Pv : Addr → Nat → List V → Hp → Prop) : VK := fun y H4 => ∃ acc, H4 D = some (.lst acc) ∧ acc.length < sizeLine ∧
  ∃ ac, Same H (upd H4 D (.lst (acc ++ [y]))) ∧ ac.length = i + 1 ∧ upd H4 D (.lst (acc ++ [y])) D = some (.lst ac) ∧ Pv D (i + 1) ac (upd H4 D (.lst (acc ++ [y])))
theorem lcE {H H4 : Hp} {D : Addr} {i : Nat} {Pv : Addr → Nat → List V → Hp → Prop} {acc : List V} {y : V} (hD : H D = none) (h : H4 D = some (.lst acc)) (s : Same H H4) (e : acc.length = i) (hi : i < 100000) (k : Pv D (i + 1) (acc ++ [y]) (upd H4 D (.lst (acc ++ [y])))) : LcE H D i Pv y H4 :=
  ⟨acc, h, smallT (by omega), acc ++ [y], same_mut s hD, by simp [e], upd_same, k⟩
/-- [.. for name in range(m)] without a test: Pv i acc H: acc what is made -/
theorem lcR1 {m : Int} {j : Nat} {te : TE} {Q : VK} (Pv : Addr → Nat → List V → Hp → Prop) (hb : -100000 ≤ m ∧ m ≤ 100000) (h0 : ∀ D H', H D = none → Same H H' → H' D = some (.lst []) → Pv D 0 [] H')
    (hs : ∀ (i : Nat) (acc : List V) (D : Addr) (H' : Hp), H D = none → Same H H' → (i : Int) < m → acc.length = i → H' D = some (.lst acc) → Pv D i acc H' → te (σ.set j (some (.int (i : Int)))) H' (LcE H D i Pv))
    (hd : ∀ D acc H', H D = none → Same H H' → H' D = some (.lst acc) → acc.length = m.toNat → Pv D m.toNat acc H' → Q (.ref D) H') :
    ∃ q : Int, [V.int m] = [V.int q] ∧ -(2 ^ 62) ≤ q ∧ q < 2 ^ 62 ∧ LcJ (gName j) tYes te [j] σ Q (Itr 0 q.toNat) H := by
  obtain ⟨hb1, hb2⟩ := hb
  have p62 : (2 : Int) ^ 62 = 4611686018427387904 := by decide
  refine ⟨m, rfl, by omega, by omega, fun D hD => ?_⟩
  refine itrLc (fun i H' => ∃ acc, Same H H' ∧ acc.length = i ∧ H' D = some (.lst acc) ∧ Pv D i acc H') ⟨[], same_new hD, rfl, upd_same, h0 D _ hD (same_new hD) upd_same⟩ ?_ ?_
  · rintro i H' hi ⟨acc, s, e, hD', p⟩
    have e0 : (0 : Int) + (i : Int) = (i : Int) := Int.zero_add _
    rw [e0]
    refine ⟨show wipe ((wipe σ [j]).set j (some (.int (i : Int)))) [j] = wipe σ [j] by simp [wipe], ?_⟩
    show te ((wipe σ [j]).set j (some (.int (i : Int)))) H' (LcE H D i Pv)
    have ew : (wipe σ [j]).set j (some (.int (i : Int))) = σ.set j (some (.int (i : Int))) := by simp [wipe]
    rw [ew]
    exact hs i acc D H' hD s (by omega) e hD' p
  · rintro H' ⟨acc, s, e, hD', p⟩
    exact hd D acc H' hD s hD' e p
/-- [.. for name in a list] without a test -/
theorem lcL {K : PySem.W.Frag} {a : Addr} {xs : List V} {j : Nat} {te : TE} {Q : VK} (Pv : Addr → Nat → List V → Hp → Prop) (h : SqL K H a xs) (hl : xs.length ≤ 100000) (h0 : ∀ D H', H D = none → Same H H' → H' D = some (.lst []) → Pv D 0 [] H')
    (hs : ∀ (i : Nat) (x : V) (acc : List V) (D : Addr) (H' : Hp), H D = none → Same H H' → xs[i]? = some x → acc.length = i → H' D = some (.lst acc) → Pv D i acc H' → te (σ.set j (some x)) H' (LcE H D i Pv))
    (hd : ∀ D acc H', H D = none → Same H H' → H' D = some (.lst acc) → acc.length = xs.length → Pv D xs.length acc H' → Q (.ref D) H') :
    ∃ p, V.ref a = V.ref p ∧ (∃ ys, SqL K H p ys) ∧ LcJ (gName j) tYes te [j] σ Q (Itl K p) H := by
  refine ⟨a, rfl, ⟨_, h⟩, fun D hD => ?_⟩
  refine lc_list (xs := xs) (fun i H' => ∃ acc, Same H H' ∧ acc.length = i ∧ H' D = some (.lst acc) ∧ Pv D i acc H') ⟨[], same_new hD, rfl, upd_same, h0 D _ hD (same_new hD) upd_same⟩ (fun i H' _ ⟨acc, s, _⟩ => s.seq h) ?_ ?_
  · rintro i x H' hi ⟨acc, s, e, hD', p⟩
    refine ⟨show wipe ((wipe σ [j]).set j (some x)) [j] = wipe σ [j] by simp [wipe], ?_⟩
    show te ((wipe σ [j]).set j (some x)) H' (LcE H D i Pv)
    have ew : (wipe σ [j]).set j (some x) = σ.set j (some x) := by simp [wipe]
    rw [ew]
    exact hs i x acc D H' hD s hi e hD' p
  · rintro H' ⟨acc, s, e, hD', p⟩
    exact hd D acc H' hD s hD' e p
end
section
variable {X : Cx}
/-- // by a divisor of either sign below 2 ^ 9000 -/
def CDivX (_ j : Int) : Prop := j ≠ 0 ∧ j.natAbs.log2 < 9000
theorem op_fdivX : OpR X (binaryOp .FloorDiv) (rI CDivX fun i j => .int (i.fdiv j)) := L2.opI fun i j _ _ _ _ _ hc q =>
  floordiv_int hc.1 q (.inl (PyProof.noPylong_of_log2 hc.2))
end
theorem cdivX' {i j : Int} (h : j ≠ 0) (hb : -(2 ^ 64) < j ∧ j < 2 ^ 64) : CDivX i j := ⟨h, Nat.lt_of_lt_of_le (PySem.Flt.log2_lt_of (k := 64) (by decide) (by omega)) (by decide)⟩
theorem kb_int_int : kitB "int" "int" = some true := by decide +kernel
theorem kb_int_bool : kitB "int" "bool" = some false := by decide +kernel
theorem kb_int_str : kitB "int" "str" = some false := by decide +kernel
theorem kb_int_tuple : kitB "int" "tuple" = some false := by decide +kernel
theorem kb_int_list : kitB "int" "list" = some false := by decide +kernel
theorem kb_int_dict : kitB "int" "dict" = some false := by decide +kernel
theorem kb_bool_int : kitB "bool" "int" = some true := by decide +kernel
theorem kb_bool_bool : kitB "bool" "bool" = some true := by decide +kernel
theorem kb_bool_str : kitB "bool" "str" = some false := by decide +kernel
theorem kb_bool_tuple : kitB "bool" "tuple" = some false := by decide +kernel
theorem kb_bool_list : kitB "bool" "list" = some false := by decide +kernel
theorem kb_bool_dict : kitB "bool" "dict" = some false := by decide +kernel
theorem kb_str_int : kitB "str" "int" = some false := by decide +kernel
theorem kb_str_bool : kitB "str" "bool" = some false := by decide +kernel
theorem kb_str_str : kitB "str" "str" = some true := by decide +kernel
theorem kb_str_tuple : kitB "str" "tuple" = some false := by decide +kernel
theorem kb_str_list : kitB "str" "list" = some false := by decide +kernel
theorem kb_str_dict : kitB "str" "dict" = some false := by decide +kernel
theorem kb_tuple_int : kitB "tuple" "int" = some false := by decide +kernel
theorem kb_tuple_bool : kitB "tuple" "bool" = some false := by decide +kernel
theorem kb_tuple_str : kitB "tuple" "str" = some false := by decide +kernel
theorem kb_tuple_tuple : kitB "tuple" "tuple" = some true := by decide +kernel
theorem kb_tuple_list : kitB "tuple" "list" = some false := by decide +kernel
theorem kb_tuple_dict : kitB "tuple" "dict" = some false := by decide +kernel
theorem kb_list_int : kitB "list" "int" = some false := by decide +kernel
theorem kb_list_bool : kitB "list" "bool" = some false := by decide +kernel
theorem kb_list_str : kitB "list" "str" = some false := by decide +kernel
theorem kb_list_tuple : kitB "list" "tuple" = some false := by decide +kernel
theorem kb_list_list : kitB "list" "list" = some true := by decide +kernel
theorem kb_list_dict : kitB "list" "dict" = some false := by decide +kernel
theorem kb_NoneType_int : kitB "NoneType" "int" = some false := by decide +kernel
theorem kb_NoneType_bool : kitB "NoneType" "bool" = some false := by decide +kernel
theorem kb_NoneType_str : kitB "NoneType" "str" = some false := by decide +kernel
theorem kb_NoneType_tuple : kitB "NoneType" "tuple" = some false := by decide +kernel
theorem kb_NoneType_list : kitB "NoneType" "list" = some false := by decide +kernel
theorem kb_NoneType_dict : kitB "NoneType" "dict" = some false := by decide +kernel
theorem kb_dict_int : kitB "dict" "int" = some false := by decide +kernel
theorem kb_dict_bool : kitB "dict" "bool" = some false := by decide +kernel
theorem kb_dict_str : kitB "dict" "str" = some false := by decide +kernel
theorem kb_dict_tuple : kitB "dict" "tuple" = some false := by decide +kernel
theorem kb_dict_list : kitB "dict" "list" = some false := by decide +kernel
theorem kb_dict_dict : kitB "dict" "dict" = some true := by decide +kernel
section
variable {K : PySem.W.Frag} {H : Hp} {Q : VK} {b : String} {r : Bool}
theorem isiI {i : Int} (e : kitB "int" b = some r) (k : Q (.bl r) H) : rIsi K [.int i, .ty b] H Q := ⟨_, _, _, _, r, rfl, .ty b, .base (.int i), kit_ty e, k⟩
theorem isiB {i : Bool} (e : kitB "bool" b = some r) (k : Q (.bl r) H) : rIsi K [.bl i, .ty b] H Q := ⟨_, _, _, _, r, rfl, .ty b, .base (.bl i), kit_ty e, k⟩
theorem isiS {i : Str} (e : kitB "str" b = some r) (k : Q (.bl r) H) : rIsi K [.str i, .ty b] H Q := ⟨_, _, _, _, r, rfl, .ty b, .base (.str i), kit_ty e, k⟩
theorem isiN (e : kitB "NoneType" b = some r) (k : Q (.bl r) H) : rIsi K [.non, .ty b] H Q := ⟨_, _, _, _, r, rfl, .ty b, .base .non, kit_ty e, k⟩
theorem tyT {p : Addr} {xs : List V} (h : SqT K H p xs) : TyX K H (.ref p) (.type "tuple") := by
  rcases h with (h | ⟨o, h⟩) | h
  · exact .base (.tup h)
  · exact .fTuple h
  · obtain ⟨o, its, n, h1, h2, _⟩ := h
    exact .kTuple h1 h2
theorem tyL' {p : Addr} {xs : List V} (h : SqL K H p xs) : TyX K H (.ref p) (.type "list") := by
  rcases h with (h | ⟨o, h⟩) | h
  · exact .base (.lst h)
  · exact .base (.frz h)
  · obtain ⟨o, its, n, h1, h2, _⟩ := h
    exact .kList h1 h2
theorem isiT {p : Addr} {xs : List V} (h : SqT K H p xs) (e : kitB "tuple" b = some r) (k : Q (.bl r) H) : rIsi K [.ref p, .ty b] H Q := ⟨_, _, _, _, r, rfl, .ty b, tyT h, kit_ty e, k⟩
theorem isiL {p : Addr} {xs : List V} (h : SqL K H p xs) (e : kitB "list" b = some r) (k : Q (.bl r) H) : rIsi K [.ref p, .ty b] H Q := ⟨_, _, _, _, r, rfl, .ty b, tyL' h, kit_ty e, k⟩
theorem iteNT {A B : Prop} (h : B) : if (!true) = true then A else B := iteF h
theorem iteNF {A B : Prop} (h : A) : if (!false) = true then A else B := iteT h
end

/-! ### texts -/
/-- the text of these signs -/
def S (l : List Nat) : Str := ⟨l.toArray⟩
theorem S_len (l : List Nat) : (S l).length = l.length := by show l.toArray.size = l.length; simp
theorem S_tl (l : List Nat) : (S l).cps.toList = l := by show l.toArray.toList = l; simp
theorem S_inj {l m : List Nat} (h : S l = S m) : l = m := by have := congrArg (fun z : Str => z.cps.toList) h; simpa [S_tl] using this
theorem S_eq {l m : List Nat} : decide (S l = S m) = decide (l = m) := by
  by_cases h : l = m
  · rw [decide_eq_true h, decide_eq_true (by rw [h])]
  · rw [decide_eq_false h, decide_eq_false fun e => h (S_inj e)]
theorem S_app (l m : List Nat) : S l ++ S m = S (l ++ m) := by
  show (⟨l.toArray ++ m.toArray⟩ : Str) = ⟨(l ++ m).toArray⟩
  simp
theorem S_of (x : Str) : x = S x.cps.toList := by cases x; simp [S]
theorem S_one (c : Nat) : (⟨#[c]⟩ : Str) = S [c] := rfl
section
variable {σ : L2.St} {H : Hp} {Q : VK} {ta tb te : TE} {K : PySem.W.Frag}
theorem addS' {l m : List Nat} (h : l.length + m.length ≤ 100000) (k : Q (.str (S (l ++ m))) H) : AddSK (.str (S l)) (.str (S m)) H Q := ⟨_, _, rfl, rfl, small (by rw [S_len, S_len]; exact h), by rw [S_app]; exact k⟩
theorem lenS' {l : List Nat} (h : l.length ≤ 100000) (k : Q (.int l.length) H) : LenSK [.str (S l)] H Q := ⟨_, rfl, small (by rw [S_len]; exact h), by rw [S_len]; exact k⟩
theorem eqS' {l m : List Nat} (k : Q (.bl (decide (l = m))) H) : rEq (.str (S l)) (.str (S m)) H Q := eqS (by rw [S_eq]; exact k)
theorem neS' {l m : List Nat} (k : Q (.bl (!decide (l = m))) H) : rNe (.str (S l)) (.str (S m)) H Q := neS (by rw [S_eq]; exact k)
theorem ixS {l : List Nat} {i : Int} {c : Nat} (h : l.length ≤ 100000) (a : atI l i = some c) (k : Q (.str (S [c])) H) : rIxS (.str (S l)) (.int i) H Q := ⟨S l, i, c, rfl, rfl, small (by rw [S_len]; exact h), by rw [S_tl]; exact a, k⟩
def InSK (x y : V) (H : Hp) (Q : VK) : Prop := ∃ (c : Nat) (z : Str), x = .str ⟨#[c]⟩ ∧ y = .str z ∧ Q (.bl (decide (c ∈ z.cps.toList))) H
theorem opInS (k : ta σ H fun x H1 => tb σ H1 fun y H2 => InSK x y H2 Q) : tOp (fun x y H Q => ∃ (c : Nat) (z : Str), x = V.str ⟨#[c]⟩ ∧ y = V.str z ∧ Q (.bl (decide (c ∈ z.cps.toList))) H) ta tb σ H Q := k
theorem inS {c : Nat} {l : List Nat} (k : Q (.bl (decide (c ∈ l))) H) : InSK (.str (S [c])) (.str (S l)) H Q := ⟨c, S l, rfl, rfl, by rw [S_tl]; exact k⟩
theorem slS {l : List Nat} {a b : Nat} {i j : Int} (ha : i = a) (hb : j = b) (hl : l.length ≤ 100000) (hab : a ≤ l.length) (k : Q (.str (S ((l.drop a).take (b - a)))) H) : rSlS (.str (S l)) (some i) (some j) H Q := by
  subst ha hb
  refine ⟨S l, rfl, small (by rw [S_len]; exact hl), ?_⟩
  have e : cutS (S l) (some (a : Int)) (some (b : Int)) = S ((l.drop a).take (b - a)) := by
    unfold cutS
    rw [S_tl, S_len, HT.sIx_nat, HT.sIx_nat]
    show S _ = S _
    congr 1
    rw [Nat.min_eq_left hab]
    by_cases h : b ≤ l.length
    · rw [Nat.min_eq_left h]
    · rw [Nat.min_eq_right (by omega), List.take_of_length_le (by simp), List.take_of_length_le (by simp; omega)]
  rw [e]; exact k
def IntSK (xs : List V) (H : Hp) (Q : VK) : Prop := ∃ a n, xs = [.str a] ∧ PySem.intText? a = some n ∧ a.length ≤ 640 ∧ Q (.int n) H
theorem cbIntS {t : TA} (k : t σ H fun vs H1 => IntSK vs H1 Q) : tCB (fun xs H Q => ∃ a n, xs = [V.str a] ∧ PySem.intText? a = some n ∧ a.length ≤ 640 ∧ Q (.int n) H) t σ H Q := k
theorem intS {l : List Nat} {n : Int} (e : PySem.intText? (S l) = some n) (h : l.length ≤ 640) (k : Q (.int n) H) : IntSK [.str (S l)] H Q := ⟨_, n, rfl, e, by rw [S_len]; exact h, k⟩
theorem strI {i : Int} {l : List Nat} (h : i.natAbs.log2 < 1920) (e : (Str.ofString (toString i)) = S l) (k : Q (.str (S l)) H) : StrIK [.int i] H Q := ⟨i, rfl, h, by rw [e]; exact k⟩
/-- a text times a number -/
def MulSK (x y : V) (H : Hp) (Q : VK) : Prop := ∃ (z : Str) (n : Int), x = .str z ∧ y = .int n ∧ MulOk z n ∧ Q (.str (Txt.mul z n)) H
theorem op_mulS {X : Cx} : OpR X (binaryOp .Mult) MulSK := by
  intro pins s σ H x y v u Q I rx ry h
  obtain ⟨z, n, rfl, rfl, hc, q⟩ := h
  obtain ⟨t, rfl⟩ := rx
  obtain ⟨t', rfl⟩ := ry
  exact SB.mul hc fun t' k => ⟨.str (Txt.mul z n), H, I.tok _, ⟨_, rfl⟩, q⟩
theorem mulS1 {c : Nat} {n : Int} (h : 0 ≤ n ∧ n ≤ 100000) (k : Q (.str (S (List.replicate n.toNat c))) H) : MulSK (.str (S [c])) (.int n) H Q := by
  refine ⟨S [c], n, rfl, rfl, ⟨?_, ?_, ?_⟩, ?_⟩
  · have : ¬ n < -(2 ^ 63 : Int) := by omega
    have h2 : ¬ n ≥ 2 ^ 63 := by omega
    simp [this, h2]
    omega
  · intro h1 _
    show ¬ (((S [c]).length : Int) > (2 ^ 63 - 1) / n)
    have : ((S [c]).length : Int) = 1 := rfl
    rw [this]
    have h3 : (1 : Int) ≤ (2 ^ 63 - 1) / n := by
      rw [Int.le_ediv_iff_mul_le (by omega)]
      omega
    omega
  · intro h1 _
    have : (S [c]).length = 1 := rfl
    rw [this, Nat.one_mul]
    have : n.toNat ≤ sizeLine := small (by omega)
    exact decide_eq_false (by omega)
  · have e : Txt.mul (S [c]) n = S (List.replicate n.toNat c) := by
      unfold Txt.mul
      by_cases h1 : n < 1
      · rw [if_pos h1]
        have : n.toNat = 0 := by omega
        rw [this]; rfl
      · rw [if_neg h1]
        by_cases h2 : n = 1
        · subst h2; rfl
        · have : (n == 1 || (S [c]).length == 0) = false := by rw [beq_eq_false_iff_ne.mpr h2]; rfl
          rw [this]
          show (⟨(List.replicate n.toNat #[c]).foldl (· ++ ·) #[]⟩ : Str) = S (List.replicate n.toNat c)
          have e2 : ∀ (m : Nat) (acc : Array Nat), (List.replicate m #[c]).foldl (· ++ ·) acc = acc ++ (List.replicate m c).toArray := by
            intro m
            induction m with
            | zero => intro acc; simp
            | succ m ih =>
              intro acc
              rw [List.replicate_succ, List.foldl_cons, ih, List.replicate_succ]
              apply Array.toList_inj.mp
              simp
          rw [e2]
          simp [S]
    rw [e]; exact k
end
/-! ### more readings -/
section
variable {σ : L2.St} {H : Hp} {n b c : L2.St → Hp → Prop} {r : VK} {tc : TT} {tb : TS} {K : PySem.W.Frag}
/-- while: Pv m: m falls -/
theorem whl (Pv : Nat → L2.St → Hp → Prop) (h0 : ∃ m, Pv m σ H)
    (hs : ∀ m σ H, Pv m σ H → tc σ H fun x H1 => if x = true then ∃ N : L2.St → Hp → Prop, (∀ σ' H', N σ' H' → ∃ m', m' < m ∧ Pv m' σ' H') ∧ tb ⟨N, r, n, N⟩ σ H1 else n σ H1) : tWhile tc tb ⟨n, r, b, c⟩ σ H := ⟨Pv, h0, hs⟩
theorem whlN {Pv : Nat → L2.St → Hp → Prop} {m : Nat} (k : tb ⟨fun σ' H' => ∃ m', m' < m ∧ Pv m' σ' H', r, n, fun σ' H' => ∃ m', m' < m ∧ Pv m' σ' H'⟩ σ H) :
    ∃ N : L2.St → Hp → Prop, (∀ σ' H', N σ' H' → ∃ m', m' < m ∧ Pv m' σ' H') ∧ tb ⟨N, r, n, N⟩ σ H := ⟨_, fun _ _ h => h, k⟩
variable {Q : VK} {te : TE}
theorem revL (k : te σ H fun x H1 => ∃ a xs, x = .ref a ∧ SqL K H1 a xs ∧ ∀ p, H1 p = none → Q (.ref p) (upd H1 p (.lst xs.reverse))) : tRevL K te σ H Q := k
theorem revL' {a : Addr} {xs : List V} {P : List V → Prop} (h : SqL K H a xs) (k : P xs) : ∃ a' xs', V.ref a = V.ref a' ∧ SqL K H a' xs' ∧ P xs' := ⟨a, xs, rfl, h, k⟩
theorem slL' {a : Addr} {xs : List V} {lo hi : Option Int} (h : SqL K H a xs) (k : ∀ p, H p = none → Q (.ref p) (upd H p (.lst (cutV xs lo hi)))) : rSlL K (.ref a) lo hi H Q := ⟨a, xs, rfl, h, k⟩
theorem nopart {Q : Option Int → Hp → Prop} (k : Q none H) : tNoPart σ H Q := k
theorem part {te : TE} {Q : Option Int → Hp → Prop} (k : te σ H fun x H1 => ∃ i, x = .int i ∧ Q (some i) H1) : tPart te σ H Q := k
theorem part' {i : Int} {P : Int → Prop} (k : P i) : ∃ j, V.int i = V.int j ∧ P j := ⟨i, rfl, k⟩
theorem bm0 {T : String} {rr : V → List V → Hp → VK → Prop} {to : TE} (k : to σ H fun x H1 => tyV K T x H1 ∧ rr x [] H1 Q) : tBM0 K T rr to σ H Q := k
theorem pop {l : Addr} {xs : List V} {y : V} (h : H l = some (.lst xs)) (e : xs[xs.length - 1]? = some y) (k : Q y (upd H l (.lst xs.dropLast))) : rPop (.ref l) [] H Q := ⟨l, xs, y, rfl, rfl, h, e, k⟩
theorem catL {a b : Addr} {xs ys : List V} (ha : H a = some (.lst xs)) (hb : H b = some (.lst ys)) (hz : xs.length + ys.length ≤ 100000) (k : ∀ p, H p = none → Q (.ref p) (upd H p (.lst (xs ++ ys)))) : rCat (.ref a) (.ref b) H Q := ⟨a, b, xs, ys, rfl, rfl, ha, hb, small hz, k⟩
/-- a comprehension's turn whose heap changes -/
def LcF (D : Addr) (i : Nat) (Pv : Addr → Nat → List V → Hp → Prop) : VK := fun y H4 => ∃ acc, H4 D = some (.lst acc) ∧ acc.length < sizeLine ∧
  ∃ ac, ac.length = i + 1 ∧ upd H4 D (.lst (acc ++ [y])) D = some (.lst ac) ∧ Pv D (i + 1) ac (upd H4 D (.lst (acc ++ [y])))
theorem lcF {H4 : Hp} {D : Addr} {i : Nat} {Pv : Addr → Nat → List V → Hp → Prop} {acc : List V} {y : V} (h : H4 D = some (.lst acc)) (e : acc.length = i) (hi : i < 100000) (k : Pv D (i + 1) (acc ++ [y]) (upd H4 D (.lst (acc ++ [y])))) : LcF D i Pv y H4 :=
  ⟨acc, h, smallT (by omega), acc ++ [y], by simp [e], upd_same, k⟩
theorem lcR1F {m : Int} {j : Nat} (Pv : Addr → Nat → List V → Hp → Prop) (hb : -100000 ≤ m ∧ m ≤ 100000) (h0 : ∀ D, H D = none → Pv D 0 [] (upd H D (.lst [])))
    (hs : ∀ (i : Nat) (acc : List V) (D : Addr) (H' : Hp), H D = none → (i : Int) < m → acc.length = i → H' D = some (.lst acc) → Pv D i acc H' → te (σ.set j (some (.int (i : Int)))) H' (LcF D i Pv))
    (hd : ∀ D acc H', H D = none → H' D = some (.lst acc) → acc.length = m.toNat → Pv D m.toNat acc H' → Q (.ref D) H') :
    ∃ q : Int, [V.int m] = [V.int q] ∧ -(2 ^ 62) ≤ q ∧ q < 2 ^ 62 ∧ LcJ (gName j) tYes te [j] σ Q (Itr 0 q.toNat) H := by
  obtain ⟨hb1, hb2⟩ := hb
  have p62 : (2 : Int) ^ 62 = 4611686018427387904 := by decide
  refine ⟨m, rfl, by omega, by omega, fun D hD => ?_⟩
  refine itrLc (fun i H' => ∃ acc, acc.length = i ∧ H' D = some (.lst acc) ∧ Pv D i acc H') ⟨[], rfl, upd_same, h0 D hD⟩ ?_ ?_
  · rintro i H' hi ⟨acc, e, hD', p⟩
    have e0 : (0 : Int) + (i : Int) = (i : Int) := Int.zero_add _
    rw [e0]
    refine ⟨show wipe ((wipe σ [j]).set j (some (.int (i : Int)))) [j] = wipe σ [j] by simp [wipe], ?_⟩
    show te ((wipe σ [j]).set j (some (.int (i : Int)))) H' (LcF D i Pv)
    have ew : (wipe σ [j]).set j (some (.int (i : Int))) = σ.set j (some (.int (i : Int))) := by simp [wipe]
    rw [ew]
    exact hs i acc D H' hD (by omega) e hD' p
  · rintro H' ⟨acc, e, hD', p⟩
    exact hd D acc H' hD hD' e p
end
theorem cut_take {xs : List V} {m : Int} (h : 0 ≤ m) : cutV xs none (some m) = xs.take m.toNat := by
  unfold cutV
  obtain ⟨k, rfl⟩ : ∃ k : Nat, m = k := ⟨m.toNat, by omega⟩
  rw [HT.sIx_none, HT.sIx_nat, List.drop_zero, Nat.sub_zero, Int.toNat_natCast]
  by_cases h1 : k ≤ xs.length
  · rw [Nat.min_eq_left h1]
  · rw [Nat.min_eq_right (by omega), List.take_of_length_le (Nat.le_refl _), List.take_of_length_le (by omega)]
theorem atI_all {xs : List V} {p : V → Bool} {i : Int} (h : xs.all p = true) (h0 : 0 ≤ i) (h1 : i < (xs.length : Int)) : ∃ v, atI xs i = some v ∧ p v = true := by
  have h2 : i.toNat < xs.length := by omega
  exact ⟨xs[i.toNat], atI_of h0 (List.getElem?_eq_getElem h2), List.all_eq_true.mp h _ (List.getElem_mem h2)⟩
theorem ixLall {K : PySem.W.Frag} {H : Hp} {Q : VK} {l : Addr} {xs : List V} {i : Int} (p : V → Bool) (h : SqL K H l xs) (a : xs.all p = true) (h0 : 0 ≤ i) (h1 : i < (xs.length : Int)) (k : ∀ v, p v = true → Q v H) : rIxL K (.ref l) (.int i) H Q := by
  obtain ⟨v, e, q⟩ := atI_all a h0 h1
  exact ixL h e (k v q)
theorem ixSall {H : Hp} {Q : VK} {l : List Nat} {i : Int} (hl : l.length ≤ 100000) (h0 : 0 ≤ i) (h1 : i < (l.length : Int)) (k : ∀ c, c ∈ l → Q (.str (S [c])) H) : rIxS (.str (S l)) (.int i) H Q := by
  have h2 : i.toNat < l.length := by omega
  exact ixS hl (atI_of h0 (List.getElem?_eq_getElem h2)) (k _ (List.getElem_mem h2))
theorem dp_same {K : PySem.W.Frag} {H H' : Hp} (e : Same H H') : ∀ {x : V} {d : PyData}, Dp K H x d → Dp K H' x d
  | _, _, .non => .non
  | _, _, .bl b => .bl b
  | _, _, .int i => .int i
  | _, _, .str x => .str x
  | _, _, .lst h a => .lst (e.seq h) (go e a)
  | _, _, .tup h a => .tup (same_tup e h) (go e a)
where go {K : PySem.W.Frag} {H H' : Hp} (e : Same H H') : ∀ {xs : List V} {ds : List PyData}, DpAll K H xs ds → DpAll K H' xs ds
  | _, _, .nil => .nil
  | _, _, .cons h t => .cons (dp_same e h) (go e t)
theorem dpAll_len {K : PySem.W.Frag} {H : Hp} : ∀ {xs : List V} {ds : List PyData}, DpAll K H xs ds → xs.length = ds.length
  | _, _, .nil => rfl
  | _, _, .cons _ t => congrArg Nat.succ (dpAll_len t)
theorem dpAll_get {K : PySem.W.Frag} {H : Hp} : ∀ {xs : List V} {ds : List PyData}, DpAll K H xs ds → ∀ i, i < ds.length → ∃ x, xs[i]? = some x ∧ Dp K H x (ds.getD i .none)
  | _, _, .nil, i, h => absurd h (Nat.not_lt_zero i)
  | _, _, .cons h _, 0, _ => ⟨_, rfl, h⟩
  | _, _, .cons _ t, i + 1, hi => by
    obtain ⟨x, e, d⟩ := dpAll_get t i (Nat.lt_of_succ_lt_succ hi)
    exact ⟨x, e, d⟩
theorem depth_get : ∀ {ds : List PyData} {i : Nat}, i < ds.length → (ds.getD i .none).depth ≤ PyData.depthAll ds
  | [], i, h => absurd h (Nat.not_lt_zero i)
  | d :: ds, 0, _ => by simp only [PyData.depthAll]; exact Nat.le_max_left _ _
  | d :: ds, i + 1, h => by
    have := depth_get (ds := ds) (i := i) (Nat.lt_of_succ_lt_succ h)
    simp only [PyData.depthAll]
    exact Nat.le_trans this (Nat.le_max_right _ _)
theorem ixQL {K : PySem.W.Frag} {H : Hp} {Q : VK} {p : Addr} {xs : List V} {i : Int} {v : V} (h : SqL K H p xs) (a : atI xs i = some v) (k : Q v H) : rIx K (.ref p) (.int i) H Q := .inl (ixL h a k)
theorem ixQT {K : PySem.W.Frag} {H : Hp} {Q : VK} {p : Addr} {xs : List V} {i : Int} {v : V} (h : SqT K H p xs) (a : atI xs i = some v) (k : Q v H) : rIx K (.ref p) (.int i) H Q := .inr (.inl (ixT h a k))
theorem weight_get {ds : List PyData} {i : Nat} (h : i < ds.length) : (ds.getD i .none).weight ≤ PyData.weightAll ds := by
  refine PyData.weight_le_weightAll _ _ ?_
  rw [List.getD_eq_getElem?_getD, List.getElem?_eq_getElem h]
  exact List.getElem_mem h
theorem atI_last {α : Type} {xs : List α} {v : α} : atI (xs ++ [v]) (-1) = some v := by
  unfold atI ixN
  rw [if_neg (by decide), if_pos (by simp; omega)]
  show (xs ++ [v])[(-1 + ((xs ++ [v]).length : Int)).toNat]? = some v
  have : (-1 + ((xs ++ [v]).length : Int)).toNat = xs.length := by simp; omega
  rw [this]; simp
/-- two ways that come together: what holds where they meet -/
theorem join {σ : L2.St} {H : Hp} {t u : TS} {D : Ends} (J : L2.St → Hp → Prop) (h1 : ∀ N : L2.St → Hp → Prop, (∀ σ' H', J σ' H' → N σ' H') → t ⟨N, D.rt, D.bk, D.ct⟩ σ H) (h2 : ∀ σ' H', J σ' H' → u D σ' H') : tSeq t u D σ H := h1 _ h2
theorem ixLmem {K : PySem.W.Frag} {H : Hp} {Q : VK} {l : Addr} {xs : List V} {i : Int} (h : SqL K H l xs) (h0 : 0 ≤ i) (h1 : i < (xs.length : Int)) (k : ∀ v, v ∈ xs → Q v H) : rIxL K (.ref l) (.int i) H Q := by
  have h2 : i.toNat < xs.length := by omega
  exact ixL h (atI_of h0 (List.getElem?_eq_getElem h2)) (k _ (List.getElem_mem h2))
/-! ### a def that calls itself: nothing is asked with no call left -/
theorem none_left {P : Program} {w : World} {K : PySem.W.Frag} {mg : Str → Option Value} {base : Heap} {k : Nat} {f : Addr} {fd : FuncData} {ps : List Str} {sp : Sp} (no : ∀ vs H Q E, ¬ sp vs H Q E) : FnOk P w K mg base CX0 k f fd ps sp :=
  ⟨fun vs H Q E h => absurd h (no vs H Q E), fun A outer s H args us vs Q E _ _ _ _ h => absurd h (no vs H Q E)⟩
end Rd

set_option Elab.async false
set_option linter.all false
set_option maxRecDepth 100000
set_option maxHeartbeats 4000000
/-! Own operators of a class of one's own, by the text's defs. -/
namespace Bd
open PySem PySem.W PySem.Calls PyProof.Rows
section
variable {prog : Program} {w : World} {A : Around} {E : Value → Shared → Prop} {s : Shared} {K : Frag} {x y C L f : Addr} {h₀ : Heap} {m : Str → Option Value} {ox oy : Obj} {od od' : Option Obj}
/-- x op y, two instances of one class -/
theorem bin_one {op : Operator} {Q : Value → Shared → Prop} (F : Fr h₀ L s.heap m) (X₀ : K.In h₀) (I : InstAt s.heap x ox C od) (J : InstAt s.heap y oy C od') (hc : selfFirst K C = true)
    (hs : findIn K (.ref C) (PySem.dunder op.info.2) = some (some (.ref f))) (hf : isFn K (.ref f) = true)
    (h : wpAny (model prog w) A (call (.ref f) [.ref x, .ref y]) (PySem.W.CmpBack Q) E s) : wpAny (model prog w) A (binaryOp op (.ref x) (.ref y)) Q E s := by
  have X := X₀.keeps F.keep
  obtain ⟨cd, rest, hcd, hm⟩ := ksp_first hc
  rcases hi : op.info with ⟨sym, nm⟩
  rw [hi] at hs
  dsimp only at hs
  have one := ksp_try X I hs hf h
  obtain ⟨hh, g, d, tt, os⟩ := s
  have L1 : Looks (model prog w) hh (typeOf (.ref x)) (.ref C) := I.type
  have L2 : Looks (model prog w) hh (typeOf (.ref y)) (.ref C) := J.type
  have L3 : Looks (model prog w) hh (fillsNumberSlot (.ref C) nm) true := fills_K X hcd hm hs
  have heq : (Value.ref C == Value.ref C) = true := beq_self_eq_true _
  simp only [binaryOp, hi]
  refine wpAny_holding (wpAny_bind ?_)
  unfold binaryOp1
  refine wpAny_bind (L1.at (wpAny_bind (L2.at (wpAny_bind (L3.at ?_)))))
  simp only [heq, if_true]
  ksp_lk
  refine wpAny_mono one (fun r s' hr' => ?_) fun _ _ e => e
  obtain ⟨v, rfl, hq⟩ := hr'
  ksp_lk
  exact hq
end
end Bd
namespace Bd
open PySem PySem.Spec PyProof.Rows L2
theorem back_ep {X : Cx} {pins : List (Addr × Obj)} {σ : L2.St} {Q : VK} {u : Value} {s' : Shared} (h : EP X pins σ Q u s') : PySem.W.CmpBack (EP X pins σ Q) u s' := by
  cases u with
  | notImplemented =>
    obtain ⟨v, H', _, r, _⟩ := h
    cases v <;> first | (obtain ⟨_, r⟩ := r; exact nomatch r) | exact nomatch (show _ = _ from r)
  | _ => exact h
section
variable {X : Cx} {pins : List (Addr × Obj)} {σ : L2.St} {H : Hp} {s : Shared} {CT : CXT} {n : Nat} {C f : Addr} {fd : FuncData} {ps : List Str} {sp : Sp} {E : XK}
/-- a call of a def of one's own, by its value -/
theorem call_def {vs : List V} {us : List Value} {Q : VK} (F : FnOk X.prog X.w X.K X.mg X.base CT n f fd ps sp) (hb : Binds X.K fd ps []) (hx : Passes CT X E) (hr : Room n X.A) (I : Inv X pins σ H s) (r : Vals vs us) (hsp : sp vs H Q E) :
    wpAny (model X.prog X.w) X.A (call (.ref f) us) (EP X pins σ Q) X.xe s := by
  have hl := F.len _ _ _ _ hsp
  have hu : us.length = ps.length := by rw [← r.length]; exact hl
  refine wpAny_call (codeAny_mono (F.run X.A X.stack s H ⟨us, []⟩ us vs Q E hr I.env0 (by
    have := hb s us I.kIn (by simpa using hu)
    simpa using this) r hsp) fun z s' hq => ?_)
  cases z with
  | error e => exact hx pins σ H s e s' I hq
  | ok fl =>
    cases fl with
    | ret w => exact I.after hq
    | next => exact False.elim hq
    | brk => exact False.elim hq
    | cont => exact False.elim hq
/-- x op y, both of the class at C -/
def rOwn2 (C : Addr) (sp : Sp) (E : XK) : R2 := fun x y H Q => ∃ a b dx dy fs gs, x = .ref a ∧ y = .ref b ∧ H a = some (.ins C dx fs) ∧ H b = some (.ins C dy gs) ∧ sp [.ref a, .ref b] H Q E
theorem op_own {op : Operator} (F : FnOk X.prog X.w X.K X.mg X.base CT n f fd ps sp) (hc : PySem.W.selfFirst X.K C = true) (hs : PySem.W.findIn X.K (.ref C) (PySem.dunder op.info.2) = some (some (.ref f))) (hf : PySem.W.isFn X.K (.ref f) = true)
    (hb : Binds X.K fd ps []) (hx : Passes CT X E) (hr : Room n X.A) : OpR X (binaryOp op) (rOwn2 C sp E) := by
  intro pins s σ H x y v u Q I rx ry h
  obtain ⟨a, b, dx, dy, fs, gs, rfl, rfl, ha, hb', hsp⟩ := h
  obtain rfl : v = Value.ref a := rx
  obtain rfl : u = Value.ref b := ry
  obtain ⟨mA, J, _⟩ := ins_get I.hok ha
  obtain ⟨mB, J', _⟩ := ins_get I.hok hb'
  obtain ⟨od, J, _⟩ := J.look
  obtain ⟨od', J', _⟩ := J'.look
  obtain ⟨m, hF⟩ := I.fr
  refine bin_one hF I.ok.mod.kin J J' hc hs hf ?_
  exact wpAny_mono (call_def F hb hx hr I (vs := [.ref a, .ref b]) (.cons rfl (.cons rfl .nil)) hsp) (fun _ _ h => back_ep h) fun _ _ e => e
/-- -x -/
def rOwn1 (C : Addr) (sp : Sp) (E : XK) : V → Hp → VK → Prop := fun x H Q => ∃ a dx fs, x = .ref a ∧ H a = some (.ins C dx fs) ∧ sp [.ref a] H Q E
theorem un_own (F : FnOk X.prog X.w X.K X.mg X.base CT n f fd ps sp) (hs : PySem.W.findIn X.K (.ref C) "__neg__" = some (some (.ref f))) (hf : PySem.W.isFn X.K (.ref f) = true)
    (hb : Binds X.K fd ps []) (hx : Passes CT X E) (hr : Room n X.A) : UnR X (unaryOp .USub) (rOwn1 C sp E) := by
  intro pins s σ H x v Q I rx h
  obtain ⟨a, dx, fs, rfl, ha, hsp⟩ := h
  obtain rfl : v = Value.ref a := rx
  obtain ⟨mA, J, _⟩ := ins_get I.hok ha
  obtain ⟨od, J, _⟩ := J.look
  obtain ⟨m, hF⟩ := I.fr
  exact PySem.W.ksp_neg hF I.ok.mod.kin J hs hf (call_def F hb hx hr I (vs := [.ref a]) (.cons rfl .nil) hsp)
/-- x == y, both of the class at C, whatever __eq__ says -/
theorem op_eqOwn (F : FnOk X.prog X.w X.K X.mg X.base CT n f fd ps sp) (hs : PySem.W.findIn X.K (.ref C) "__eq__" = some (some (.ref f))) (hf : PySem.W.isFn X.K (.ref f) = true)
    (hb : Binds X.K fd ps []) (hx : Passes CT X E) (hr : Room n X.A) : OpR X (compareOp .Eq) (rOwn2 C sp E) := by
  intro pins s σ H x y v u Q I rx ry h
  obtain ⟨a, b, dx, dy, fs, gs, rfl, rfl, ha, hb', hsp⟩ := h
  obtain rfl : v = Value.ref a := rx
  obtain rfl : u = Value.ref b := ry
  obtain ⟨mA, J, _⟩ := ins_get I.hok ha
  obtain ⟨mB, J', _⟩ := ins_get I.hok hb'
  obtain ⟨od, J, _⟩ := J.look
  obtain ⟨od', J', _⟩ := J'.look
  obtain ⟨m, hF⟩ := I.fr
  show wpAny (model X.prog X.w) X.A (richCompare .Eq (.ref a) (.ref b)) _ _ _
  refine PySem.W.cmp_K (op := .Eq) (tb := .ref C) hr.units0 hF I.ok.mod.kin J J'.type (by simp [PySem.W.notFirst]) hs hf ?_
  exact wpAny_mono (call_def F hb hx hr I (vs := [.ref a, .ref b]) (.cons rfl (.cons rfl .nil)) hsp) (fun _ _ h => back_ep h) fun _ _ e => e
end
end Bd
namespace Bd
open PySem PySem.W PySem.Calls PyProof.Rows
/-- by the text, then by the number -/
def ltSI (p q : Str × Int) : Bool := if p.1 = q.1 then decide (p.2 < q.2) else decide (p.1.cps.toList < q.1.cps.toList)
theorem str_ext {x y : Str} (h : x.cps.toList = y.cps.toList) : x = y := by rw [Rd.S_of x, Rd.S_of y, h]
theorem ltSI_iff {p q : Str × Int} : ltSI p q = true ↔ p.1.cps.toList < q.1.cps.toList ∨ (p.1 = q.1 ∧ p.2 < q.2) := by
  unfold ltSI
  by_cases e : p.1 = q.1
  · rw [if_pos e, e]
    exact ⟨fun h => .inr ⟨rfl, of_decide_eq_true h⟩, fun h => h.elim (fun z => absurd z (List.lt_irrefl _)) fun z => decide_eq_true z.2⟩
  · rw [if_neg e]
    exact ⟨fun h => .inl (of_decide_eq_true h), fun h => h.elim decide_eq_true fun z => absurd z.1 e⟩
theorem ltSI_no {p q : Str × Int} : ltSI p q = false ↔ ¬ (p.1.cps.toList < q.1.cps.toList ∨ (p.1 = q.1 ∧ p.2 < q.2)) := by
  rw [← ltSI_iff]; simp
theorem swo_SI {α : Type} (k : α → Str × Int) : SrtO.Swo fun v u => ltSI (k v) (k u) := by
  refine ⟨fun x y h => ?_, fun x y z h1 h2 => ?_⟩
  · have a := ltSI_iff.mp h
    refine ltSI_no.mpr fun b => ?_
    rcases a with a | a
    · rcases b with b | b
      · exact List.lt_asymm a b
      · rw [b.1] at a; exact List.lt_irrefl _ a
    · rcases b with b | b
      · rw [a.1] at b; exact List.lt_irrefl _ b
      · omega
  · have a := ltSI_no.mp h1
    have b := ltSI_no.mp h2
    refine ltSI_no.mpr fun c => ?_
    rcases c with c | ⟨c1, c2⟩
    · have d : (k x).1.cps.toList ≤ (k y).1.cps.toList := List.not_lt.mp fun z => a (.inl z)
      have d2 : (k y).1.cps.toList ≤ (k z).1.cps.toList := List.not_lt.mp fun q => b (.inl q)
      exact List.not_lt.mpr (List.le_trans d d2) c
    · have d1 : (k x).1.cps.toList ≤ (k y).1.cps.toList := List.not_lt.mp fun z => a (.inl z)
      have d2 : (k y).1.cps.toList ≤ (k z).1.cps.toList := List.not_lt.mp fun z => b (.inl z)
      rw [c1] at d2
      have e : (k x).1 = (k y).1 := str_ext (List.le_antisymm d1 d2)
      refine a (.inr ⟨e.symm, ?_⟩)
      have e2 : ¬ (k z).2 < (k y).2 := fun z => b (.inr ⟨c1.trans e, z⟩)
      omega
/-- a pair of a text and a number -/
def IsSI (h : Heap) (v : Value) (p : Str × Int) : Prop := ∃ a o t u n, v = .ref a ∧ h.get? a = some o ∧ o.cls = .type "tuple" ∧ o.data = .seq #[.str p.1 t, .int p.2 u] n
theorem IsSI.keeps {h h' : Heap} {v : Value} {p : Str × Int} (x : IsSI h v p) (k : ∀ b o, h.get? b = some o → o.cls = .type "tuple" → h'.get? b = some o) : IsSI h' v p := by
  obtain ⟨a, o, t, u, n, e, ho, hc, hd⟩ := x
  exact ⟨a, o, t, u, n, e, k _ _ ho hc, hc, hd⟩
section
variable {prog : Program} {w : World} {A : Around} {s : Shared}
theorem si_cmp {vs : List Value} {k : Value → Str × Int} (hp : ∀ v ∈ vs, IsSI s.heap v (k v)) : SrtO.Cmp prog w A s (tuples' true) (fun p => p.1 ∈ vs) (SrtO.lt2 fun v u => ltSI (k v) (k u)) := by
  intro p q hm hm'
  have h1 := hp _ hm
  have h2 := hp _ hm'
  show wpAny (model prog w) A (keyLt' (tuples' true) p.1 q.1) (fun r s' => s' = s ∧ r = ltSI (k p.1) (k q.1)) (fun _ _ => False) s
  generalize k p.1 = x at h1 ⊢
  generalize k q.1 = y at h2 ⊢
  obtain ⟨a, o, t, u, n, e, ho, hc, hd⟩ := h1
  obtain ⟨a', o', t', u', n', e', ho', hc', hd'⟩ := h2
  rw [e, e']
  refine PySem.W.kat_lt ho hd ho' hd' ?_
  show PySem.W.KatLex prog w A true (decide (2 < 2)) _ [(.str x.1 t, .str y.1 t'), (.int x.2 u, .int y.2 u')] 0 s
  refine PySem.W.kat_cons (SeqAt.EqAt.str_str x.1 t y.1 t' prog w _ _ ?_)
  refine PySem.W.kat_go (fun e1 => ?_) (fun e1 => ?_)
  · have ex : x.1 = y.1 := by simpa using e1
    refine PySem.W.kat_yes (PySem.W.kat_cons (SeqAt.EqAt.int_int x.2 u y.2 u' prog w _ _ ?_))
    refine PySem.W.kat_go (fun e2 => ?_) (fun e2 => ?_)
    · have ey : x.2 = y.2 := by simpa using e2
      refine PySem.W.kat_yes (PySem.W.kat_nil ⟨rfl, ?_⟩)
      unfold ltSI
      rw [if_pos ex, ey]
      exact (decide_eq_false (Int.lt_irrefl _)).symm
    · refine PySem.W.kat_no (PySem.W.kat_one _ _ (PyProof.Rows.lt_int ?_))
      refine ⟨rfl, ?_⟩
      unfold ltSI
      rw [if_pos ex]
  · have ex : ¬ x.1 = y.1 := by simpa using e1
    refine PySem.W.kat_no (oneLt_str ⟨rfl, ?_⟩)
    unfold ltSI
    rw [if_neg ex]
theorem si_firsts {h : Heap} {k : Value → Str × Int} : ∀ {vs : List Value}, (∀ v ∈ vs, IsSI h v (k v)) → ∃ fs : List Value, PySem.W.KatTups h vs fs ∧ fs.length = vs.length ∧ ∀ f ∈ fs, ∃ x t, f = Value.str x t
  | [], _ => ⟨[], PySem.W.KatTups.nil, rfl, fun _ hm => by simp at hm⟩
  | v :: vs, hp => by
    obtain ⟨fs, h1, h2, h3⟩ := si_firsts (vs := vs) fun v' hm => hp v' (List.mem_cons_of_mem _ hm)
    obtain ⟨a, o, t, u, n, e, ho, hc, hd⟩ := hp v (List.mem_cons_self ..)
    subst e
    refine ⟨.str _ t :: fs, PySem.W.KatTups.cons ho hc hd rfl h1, by rw [List.length_cons, List.length_cons, h2], fun f hm => ?_⟩
    rcases List.mem_cons.mp hm with rfl | hm
    · exact ⟨_, _, rfl⟩
    · exact h3 f hm
theorem si_sortable {a : Addr} {vs : List Value} {k : Value → Str × Int} (h0 : 0 < vs.length) (hp : ∀ v ∈ vs, IsSI s.heap v (k v)) (ha : ∀ o, s.heap.get? a = some o → o.cls ≠ .type "tuple") :
    SrtO.SortableO prog w A s a vs fun v u => ltSI (k v) (k u) := by
  intro h' keep
  have hp' : ∀ v ∈ vs, IsSI h' v (k v) := fun v hm => (hp v hm).keeps fun b o e c => keep b o (fun z => by subst z; exact ha o e c) e
  obtain ⟨fs, h1, h2, h3⟩ := si_firsts hp'
  refine ⟨tuples' true, fun Q E hq => ?_, si_cmp hp'⟩
  refine PySem.W.kat_kind (T := .type "str") h1 (by omega) (fun f hm => ?_) (by rfl) ?_
  · obtain ⟨x, t, rfl⟩ := h3 f hm
    exact PySem.W.Looks.now
  · have e : (Value.type "str" != Value.type "tuple") = true := by first | decide +kernel | rfl | decide
    rw [e]
    exact hq
end
end Bd
namespace Bd
open PySem PySem.Spec PyProof.Rows L2
/-- the pair that a value stands for, read off the heap -/
def siOf (h : Heap) (v : Value) : Str × Int := match v with
  | .ref b => (match h.get? b with
    | some o => (match o.data with
      | .seq xs _ => (match xs.toList with
        | [.str x _, .int y _] => (x, y)
        | _ => (⟨#[]⟩, 0))
      | _ => (⟨#[]⟩, 0))
    | none => (⟨#[]⟩, 0))
  | _ => (⟨#[]⟩, 0)
theorem IsSI.of {h : Heap} {v : Value} {p : Str × Int} (x : IsSI h v p) : siOf h v = p := by
  obtain ⟨a, o, t, u, n, rfl, ho, hc, hd⟩ := x
  unfold siOf
  simp only [ho, hd]
/-- an asset as a dict's key -/
def eK (p : Str × Int) : List Key := [Sum.inr p.1, Sum.inl p.2]
/-- addresses of assets' tuples -/
def AsAt (H : Hp) (ps : List (Addr × (Str × Int))) : Prop := ∀ z ∈ ps, H z.1 = some (.tup [.str z.2.1, .int z.2.2])
theorem isSI_of {P : Program} {w : World} {H : Hp} {h : Heap} {b : Addr} {p : Str × Int} (ok : HOk P w H h) (e : H b = some (.tup [.str p.1, .int p.2])) : IsSI h (.ref b) p := by
  obtain ⟨_, its, r, o, ho, hc, n, hd⟩ := ok _ _ e
  obtain ⟨u1, u2, rfl, ri, rj⟩ := vals2 r
  obtain ⟨t1, rfl⟩ := ri
  obtain ⟨t2, rfl⟩ := rj
  exact ⟨b, o, t1, t2, n, rfl, ho, hc, hd⟩
theorem kt_as {H : Hp} : ∀ {m : List ((Str × Int) × V)} {ks : List (List Key × Addr × Value)}, KT H (m.map fun e => (eK e.1, e.2)) ks → ∃ ps : List (Addr × (Str × Int)), AsAt H ps ∧ ps.map (·.2) = m.map (·.1) ∧ ps.map (·.1) = ks.map fun x => x.2.1
  | [], _, r => by
    rw [List.map_nil] at r
    cases r
    exact ⟨[], fun _ h => absurd h List.not_mem_nil, rfl, rfl⟩
  | e :: m, _, r => by
    rw [List.map_cons] at r
    cases r with
    | @cons p q ps qs h t =>
      obtain ⟨ps', a1, a2, a3⟩ := kt_as t
      refine ⟨(q.2.1, e.1) :: ps', fun z hz => ?_, by rw [List.map_cons, List.map_cons, a2], by rw [List.map_cons, List.map_cons, a3]⟩
      rcases List.mem_cons.mp hz with rfl | hz
      · exact h.2.1
      · exact a1 z hz
section
variable {X : Cx}
/-- sorted(d), the keys of d pairs of a text and a number -/
def rSortedDT : List V → Hp → VK → Prop := fun xs H Q => ∃ (a : Addr) (m : List ((Str × Int) × V)), xs = [.ref a] ∧ Rd H a (.dT (m.map fun e => (eK e.1, e.2))) ∧
  ∀ (ps : List (Addr × (Str × Int))) (p : Addr), AsAt H ps → SrtO.Srtd ltSI (ps.map (·.2)) → (ps.map (·.2)).Perm (m.map (·.1)) → H p = none → Q (.ref p) (upd H p (.lst (ps.map fun z => V.ref z.1)))
theorem cr_sortedDT (hcalm : X.calm = true) : CallR X (.builtin "sorted") rSortedDT := by
  intro pins s σ H xs us Q I r q
  obtain ⟨a, m, rfl, hd, q⟩ := q
  obtain ⟨u, rfl, rx⟩ := vals1 r
  cases rx
  obtain ⟨z, hs, ks, pr, o, es, ep, ho, hx, hdt, he, hn⟩ := (show ObjOk X.prog X.w H s.heap a (.dT _) from hd.ok I.hok)
  have l1 : es.size = ks.length := size_of_entries he
  have l2 : (m.map fun e => (eK e.1, e.2)).length = ks.length := Paired.length pr
  have l3 : m.length = ks.length := by simpa using l2
  refine Calls.call_function_entry PyProof.Rows.kind_sorted PyProof.Rows.plain_sorted PyProof.Rows.entry_sorted (PyProof.Rows.args_sorted1 _) ?_
  unfold Builtin.«sorted»
  refine wpAny_bind (m := checkCount "sorted" 1 1 _) (wpAny_pure ?_)
  refine wpAny_bind (PySem.W.kdu_collect (A := X.A.in1) (kdl_raw hs hx hdt) (I.ok.hd hcalm) ho (by omega) fun h' tk acc hk it => ?_)
  have ea : acc.toList = (ks.map fun x => x.2.1).map Value.ref := by
    have hl : acc.toList.length = ks.length := by rw [Array.length_toList, it.1]; exact l1
    apply List.ext_getElem?
    intro j
    rw [List.map_map, List.getElem?_map]
    cases hj : acc.toList[j]? with
    | none =>
      have h1 := List.getElem?_eq_none_iff.mp hj
      rw [List.getElem?_eq_none (by omega)]
      rfl
    | some v =>
      obtain ⟨en, hen, hv⟩ := it.2 j v (by rw [← Array.getElem?_toList]; exact hj)
      have qe := entry_at he j
      rw [hen] at qe
      cases hb : ks[j]? with
      | none =>
        rw [hb] at qe
        exact nomatch (show some en = none from qe)
      | some b =>
        rw [hb] at qe
        have e2 : en = entryOfKey (tupleKind (mixKind X.prog X.w)) b := Option.some.inj qe
        rw [hv, e2]
        rfl
  have I1 : Inv X pins σ H { s with heap := h', toks := tk } := I.kept hk
  obtain ⟨ps0, a1, a2, a3⟩ := kt_as pr
  have eb : acc.toList = ps0.map fun z => Value.ref z.1 := by rw [ea, ← a3, List.map_map]; rfl
  have hal : acc.toList.length ≤ sizeLine := by
    rw [Array.length_toList, it.1]; omega
  refine wpAny_bind (wpAny_newList ?_ hal)
  have hoL : (h'.push (seqObj "list" acc.toList.toArray 0)).get? h'.objs.size = some (seqObj "list" acc.toList.toArray 0) := Heap.get?_push_size _ rfl
  have hsi : ∀ v ∈ acc.toList, IsSI (h'.push (seqObj "list" acc.toList.toArray 0)) v (siOf s.heap v) := fun v hv => by
    rw [eb] at hv
    obtain ⟨zz, hz, rfl⟩ := List.mem_map.mp hv
    have q := isSI_of I.hok (a1 zz hz)
    rw [q.of]
    exact (isSI_of I1.hok (a1 zz hz)).keeps fun b ob e _ => Heap.get?_push_of_some _ e
  show wpAny _ _ _ _ _ { s with heap := h'.push (seqObj "list" acc.toList.toArray 0), toks := tk }
  refine wpAny_bind (wpAny_holding (wpAny_call_entry PyProof.Rows.slot_list_sort ⟨_, hoL, rfl⟩ PyProof.Rows.entry_list_sort
    (SrtO.list_sort_ord (ltv := fun v u => ltSI (siOf s.heap v) (siOf s.heap u)) (s := { s with heap := h'.push (seqObj "list" acc.toList.toArray 0), toks := tk }) (swo_SI (siOf s.heap)) hoL hal (fun h2 => si_sortable (by omega) hsi fun ob e => by
      have e' := e.symm.trans hoL
      cases e'
      intro c
      exact absurd (Value.type.inj c) (by decide)) fun out h1 h2 => ⟨_, rfl, ?_⟩)
    (PyProof.Rows.args_list_sort _)))
  obtain ⟨ps, b1, b2⟩ := perm_lift (fun z : Addr × (Str × Int) => Value.ref z.1) h2.perm ps0 eb.symm
  have hAs : AsAt H ps := fun z hz => a1 z (b1.mem_iff.mp hz)
  have hk2 : ∀ z ∈ ps, siOf s.heap (Value.ref z.1) = z.2 := fun z hz => (isSI_of I.hok (hAs z hz)).of
  have hsr : SrtO.Srtd ltSI (ps.map (·.2)) := by
    rw [← b2] at h1
    have h1' := List.pairwise_map.mp h1
    refine List.pairwise_map.mpr (h1'.imp_of_mem fun {x y} hx hy hh => ?_)
    have hh' : ltSI (siOf s.heap (Value.ref y.1)) (siOf s.heap (Value.ref x.1)) = false := hh
    rw [hk2 x hx, hk2 y hy] at hh'
    exact hh'
  obtain ⟨e', he'⟩ := PyProof.Rows.sortedHeap_at (vs := acc.toList) (out := out.toArray) hoL
  have hlen : (ps.map fun z => V.ref z.1).length ≤ sizeLine := by
    rw [List.length_map, b1.length_eq]
    have : ps0.length = acc.toList.length := by rw [eb, List.length_map]
    omega
  refine wpAny_pure ⟨_, rfl, .ref h'.objs.size, upd H h'.objs.size (.lst (ps.map fun z => V.ref z.1)), I1.laid (t' := tk) (fun b u e => ?_) (Nat.le_refl _)
    (show ObjOk X.prog X.w _ _ _ (.lst _) from ⟨hlen, out, e', ?_, he'⟩), rfl, q ps _ hAs hsr ((b1.map _).trans (by rw [a2])) (I1.hok.fresh (Nat.le_refl _))⟩
  · have hb : b < h'.objs.size := Heap.lt_size e
    rw [PyProof.Rows.sortedHeap_old (Nat.ne_of_lt hb) (by rw [size_push']; exact Nat.lt_succ_of_lt hb)]
    exact Heap.get?_push_of_some _ e
  · rw [← b2]
    have := vals_refs (ps.map (·.1))
    rw [List.map_map, List.map_map] at this
    exact this
end
end Bd
namespace Bd
open PySem PySem.Spec PyProof.Rows
section
variable {prog : Program} {w : World} {A : Around} {E : Value → Shared → Prop} {s : Shared} {r d : Addr} {es : Array DictEntry} {ep : Nat}
theorem code_tuple_items {Q₁ : Value → Shared → Prop} (hh : A.handled = none) (hv : s.heap.IsItemsView r d) (hm : DT.Raw s.heap d es ep) (hn : es.size ≤ sizeLine)
    (h : ∀ (h' : Heap) (tk : Nat) (as : List Addr), (∀ b o, s.heap.get? b = some o → h'.get? b = some o) → s.heap.objs.size < h'.objs.size → as.length = es.size → DT.Made es s.heap.objs.size h' as →
      Q₁ (.ref h'.objs.size) { s with heap := h'.push { cls := .type "tuple", data := .seq (as.map Value.ref).toArray }, toks := tk }) :
    codeAny (model prog w) A (.call (.builtin "tuple.__new__") ⟨[.type "tuple", .ref r], []⟩) (wants Q₁ E) s := by
  refine codeAny_of_tree ?_
  show wpAny _ A.in1 (do checkBuiltinCall "tuple.__new__" ⟨[.type "tuple", .ref r], []⟩; again (.builtin "tuple.__new__" ⟨[.type "tuple", .ref r], []⟩)) _ _ s
  refine wpAny_bind (wpAny_of_eq (F.newCall_tuple_1 _) (wpAny_pure ⟨plainId_quiet F.plain_tuple_new _, codeAny_builtin F.entry_tuple_new ?_⟩))
  rw [Around.under_plainId F.plain_tuple_new _]
  have hsub := sub_tuple_self
  have hinit := init_tuple_lookup
  have hmh := madeHere_tuple
  have hTI : s.TypeIs (.ref r) "dict_items" := by
    obtain ⟨o, ho, hc, _⟩ := hv
    exact ⟨o, ho, hc⟩
  wp_walk using wpAny_typeOf hTI, DT.collectI (A := A.in1) (show A.in1.handled = none from hh) hv hm hn
  intro h' tk as hk hlt hl hG
  show wpAny _ _ (Builtin.Tuple.tupleExact (as.map Value.ref).toArray >>= fun v => ret v) _ _ _
  unfold Builtin.Tuple.tupleExact
  refine wpAny_bind (wpAny_newObj_type ?_ (by show (as.map Value.ref).toArray.size ≤ sizeLine; simp only [List.size_toArray, List.length_map]; omega))
  exact wpAny_pure (h h' tk as hk hlt hl hG)
theorem call_tuple_items {Q : Value → Shared → Prop} (hh : A.handled = none) (hv : s.heap.IsItemsView r d) (hm : DT.Raw s.heap d es ep) (hn : es.size ≤ sizeLine)
    (h : ∀ (h' : Heap) (tk : Nat) (as : List Addr), (∀ b o, s.heap.get? b = some o → h'.get? b = some o) → s.heap.objs.size < h'.objs.size → as.length = es.size → DT.Made es s.heap.objs.size h' as →
      Q (.ref h'.objs.size) { s with heap := h'.push { cls := .type "tuple", data := .seq (as.map Value.ref).toArray }, toks := tk }) :
    wpAny (model prog w) A (call (.type "tuple") [.ref r]) Q E s := by
  refine callType_codes (Q₁ := fun obj s₁ => s₁.TypeIs obj "tuple" ∧ Q obj s₁) F.called_tuple (F.typeCall_tuple_1 _) F.entry_object_init
    (code_tuple_items (A := A.in1) hh hv hm hn fun h' tk as hk hlt hl hG => ⟨⟨_, Heap.get?_push_size _ rfl, rfl⟩, h h' tk as hk hlt hl hG⟩) fun obj s₁ h₁ => ?_
  exact ⟨h₁.1, F.args_object_init_2 obj _, object_init_meets F.called_tuple.init.lookup F.called_tuple.made (by decide) prog w A.in1 _ s₁ ⟨h₁.1, rfl, h₁.2⟩⟩
end
end Bd
namespace Bd
open PySem PySem.Spec PyProof.Rows L2 L2.DX
section
variable {X : Cx}
/-- tuple(d.items()): a row of pairs (asset, value) -/
def rTupIt : List V → Hp → VK → Prop := fun vs H Q => ∃ (p a : Addr) (m : List ((Str × Int) × V)), vs = [.ref p] ∧ H p = some (itemsO p a) ∧ H a = some (.dT (m.map fun e => (eK e.1, e.2))) ∧
  ∀ (H' : Hp) (q : Addr) (zs : List (Addr × ((Str × Int) × V))), (∀ b o, H b = some o → H' b = some o) → H q = none → zs.map (·.2) = m → H' q = some (.tup (zs.map fun z => V.ref z.1)) →
    (∀ z ∈ zs, ∃ kq, H' z.1 = some (.tup [.ref kq, z.2.2]) ∧ H' kq = some (.tup [.str z.2.1.1, .int z.2.1.2])) → Q (.ref q) H'
theorem cr_tupIt (hc : X.calm = true) : CallR X (.type "tuple") rTupIt := by
  intro pins s σ H xs us Q I r h
  obtain ⟨p, a, m, rfl, hp, ha, q⟩ := h
  obtain ⟨u, rfl, ru⟩ := vals1 r
  obtain rfl : u = Value.ref p := ru
  have view : s.heap.IsItemsView p a := (show ObjOk X.prog X.w H s.heap p (itemsO p a) from I.hok p _ hp).1
  obtain ⟨z, hd, xs', rel, o, es, ep, ho, hx, hdat, hes, his, hn⟩ := dt_of I.hok ha
  have l1 : (m.map fun e => (eK e.1, e.2)).length = xs'.length := Paired.length rel
  rw [List.length_map] at l1 z
  have l2 : es.size = xs'.length := size_of_entries hes
  refine call_tuple_items (es := es) (ep := ep) (I.ok.hd hc) view ⟨o, ho, hx, hdat⟩ (by omega) fun h' tk as hk hlt hl hG => ?_
  have lam : as.length = m.length := by omega
  have nd : as.Nodup := List.Pairwise.imp (fun h => Nat.ne_of_lt h) hG.rise
  have hN : s.heap.objs.size < h'.objs.size := hlt
  generalize hh : h'.push { cls := .type "tuple", data := .seq (as.map Value.ref).toArray } = h2
  have ka : ∀ b o, h'.get? b = some o → h2.get? b = some o := fun b o e => by rw [← hh]; exact Heap.get?_push_of_some _ e
  have hob : h2.get? h'.objs.size = some { cls := .type "tuple", data := .seq (as.map Value.ref).toArray } := by rw [← hh]; exact Heap.get?_push_size _ rfl
  have I1 : Inv X pins σ H { s with heap := h2, toks := tk } := I.kept (t' := tk) fun b o e => ka _ _ (hk b o e)
  have hn0 : H h'.objs.size = none := I.hok.fresh (Nat.le_of_lt hN)
  have I2 : Inv X pins σ (upd H h'.objs.size (.tup (as.map V.ref))) { s with heap := h2, toks := tk } :=
    I1.take (h' := h2) (t' := tk) (fun b ob _ e => e) (I.fpOk (Nat.le_of_lt hN) hn0) ⟨by rw [List.length_map]; omega, as.map Value.ref, vals_refs as, ⟨_, hob, rfl, 0, rfl⟩⟩
  obtain ⟨H2, I3, g, qt⟩ := takeT (P := fun b vs => ∃ (j : Nat) (e : (Str × Int) × V) (kq : Addr), as[j]? = some b ∧ m[j]? = some e ∧ vs = [.ref kq, e.2] ∧ H kq = some (.tup [.str e.1.1, .int e.1.2])) I as _ I2 nd fun b hb => by
    obtain ⟨j, hj⟩ := List.mem_iff_getElem?.mp hb
    obtain ⟨en, he, hg⟩ := hG.pairs j b hj
    rw [entry_at hes j] at he
    cases hxj : xs'[j]? with
    | none =>
      rw [hxj] at he
      exact nomatch (show (none : Option DictEntry) = some en from he)
    | some x =>
      rw [hxj] at he
      have een : entryOfKey (tupleKind (mixKind X.prog X.w)) x = en := Option.some.inj he
      obtain ⟨e0, he0, r1, r2, r3⟩ := pget rel hxj
      rw [List.getElem?_map] at he0
      cases hkj : m[j]? with
      | none =>
        rw [hkj] at he0
        exact nomatch (show (none : Option (List L2.Key × V)) = some e0 from he0)
      | some e =>
        rw [hkj] at he0
        have ee : (eK e.1, e.2) = e0 := Option.some.inj he0
        rw [← ee] at r2 r3
        have hbl : s.heap.objs.size ≤ b := Nat.le_of_lt (hG.above b hb)
        have hbn : b ≠ h'.objs.size := Nat.ne_of_lt (Heap.lt_size hg)
        refine ⟨hbl, by rw [upd_ne hbn]; exact I.hok.fresh hbl, [.ref x.2.1, e.2], ⟨j, e, x.2.1, hj, hkj, rfl, r2⟩, fun H3 => ⟨by rw [sizeLine_eq]; show 2 ≤ 16777216; omega, [Value.ref x.2.1, x.2.2], .cons rfl (.cons r3 .nil), ⟨_, ka _ _ hg, rfl, 0, ?_⟩⟩⟩
        rw [← een]
        rfl
  have gr : ∀ b o, H b = some o → H2 b = some o := fun b o e => g b o (by rw [upd_ne (ne_of_none e hn0)]; exact e)
  refine ⟨.ref h'.objs.size, H2, I3, rfl, q H2 h'.objs.size (as.zip m) gr hn0 (List.map_snd_zip (by omega)) ?_ fun z' hz' => ?_⟩
  · have e1 : ((as.zip m).map fun z => V.ref z.1) = as.map V.ref := by
      have := List.map_fst_zip (l₁ := as) (l₂ := m) (by omega)
      conv => rhs; rw [← this]
      rw [List.map_map]; rfl
    rw [e1]
    exact g _ _ upd_same
  · obtain ⟨i, hi⟩ := List.mem_iff_getElem?.mp hz'
    obtain ⟨i1, i2⟩ := List.getElem?_zip_eq_some.mp hi
    obtain ⟨vs, ⟨j, e, kq, j1, j2, ev, hkq⟩, hH⟩ := qt z'.1 (List.mem_of_getElem? i1)
    have eij : i = j := (List.getElem?_inj (List.getElem?_eq_some_iff.mp i1).1 nd).mp (i1.trans j1.symm)
    subst eij
    have ee : e = z'.2 := Option.some.inj (j2.symm.trans i2)
    rw [ev, ee] at hH
    rw [ee] at hkq
    exact ⟨kq, hH, gr _ _ hkq⟩
end
end Bd
namespace Bd
open PySem PySem.Spec PyProof.Rows L2
section
/-- d[k] = v by a comprehension, keys tuples -/
theorem put_tup {X : Cx} {pins : List (Addr × Obj)} {σ : L2.St} {H : Hp} {s : Shared} {E : Value → Shared → Prop} {D b : Addr} {kvs : List (List Key × V)} {k : List Key} {v : V} {u r : Value} {Q : Unit → Shared → Prop} (hu : X.A.units + 1 < cLine) (I : Inv X pins σ H s)
    (hD : H D = some (.dT kvs)) (hb : H b = some (.tup (k.map kV))) (hz : kvs.length < sizeLine) (ru : u = Value.ref b) (rv : RelV v r) (h : ∀ s', Inv X pins σ (upd H D (.dT (putK kvs k v))) s' → Q () s') :
    wpAny (model X.prog X.w) X.A (dictSet D u r) Q E s := by
  subst ru
  obtain ⟨z, hd, xs, rel, dd⟩ := dt_of I.hok hD
  have hl : (putK kvs k v).length ≤ sizeLine := by have := length_putK kvs k v; omega
  refine wpAny_dictSet_heap (hsz := by rw [← Paired.length rel]; exact z) (show (tupleKind (mixKind X.prog X.w)).room X.A from (show X.A.units < cLine by omega)) (key_of I.hok hb) dd fun h' dd' hs => h _ ?_
  obtain ⟨q, es, ep, hq, h2, h3, h4, _, h5⟩ := dd'
  refine d_write I (by rw [hD]; exact True.intro) hs ⟨q, hq⟩ ⟨hl, hd, _, (rel.put k hb rv).keeps fun c ys ec => ?_, q, es, ep, hq, h2, h3, h4, h5⟩
  rw [upd_ne (ne_of ec hD (fun z => nomatch z))]
  exact ec
end
section
variable {X : Cx}
/-- what {k: v for ..} asks of what it walks, the keys tuples: D the new dict -/
def DcJ (g : TG) (tt : TT) (tk tv : TE) (vs : List Nat) (σ : L2.St) (Q : VK) (J : It) (H1 : Hp) : Prop := ∀ D, H1 D = none → ∃ W : Nat → Nat → Hp → Prop, (∃ m, W 0 m (upd H1 D (.dT []))) ∧ ∀ i m H, W i m H →
  (J.stop i H ∧ Q (.ref D) H) ∨ (J.go i H ∧ ∃ Nx : Hp → Prop, (∀ H', Nx H' → ∃ m', m' < m ∧ W (i + 1) m' H') ∧ ∀ x H', J.yld i H x H' → g x (wipe σ vs) H' fun σ2 H2 => wipe σ2 vs = wipe σ vs ∧ tt σ2 H2 fun t H3 =>
    if t = true then tk σ2 H3 fun y H4 => tv σ2 H4 fun z H5 => ∃ kvs k b, y = .ref b ∧ H5 b = some (.tup (k.map kV)) ∧ H5 D = some (.dT kvs) ∧ kvs.length < sizeLine ∧ Nx (upd H5 D (.dT (putK kvs k z))) else Nx H3)
def tDcT (wi : TI) (g : TG) (tt : TT) (tk tv : TE) (vs : List Nat) : TE := fun σ H Q => wi σ H fun J H1 => DcJ g tt tk tv vs σ Q J H1
theorem pe_dcT {kx vx tg iter : Expr} {ifs : List Expr} {scope : Scope} {own : List (Str × Nat)} {pos : Pos} {wi : TI} {g : TG} {tt : TT} {tk tv : TE} (hu : X.A.units + 1 < cLine) (hc : X.calm = true) (hN : X.N.Nodup) (hi : PI X tg iter wi) (ok : BlkOk X.N X.env.scope scope own)
    (hg : ∀ (s : Shared) (H : Hp) (C : Addr) (cl : List (Str × Addr)) (fp : List Addr), PG (X.blk s H scope (compEnvC scope cl C X.env) fp) tg g) (ht : ∀ (s : Shared) (H : Hp) (C : Addr) (cl : List (Str × Addr)) (fp : List Addr), PTs (X.blk s H scope (compEnvC scope cl C X.env) fp) ifs tt)
    (hk : ∀ (s : Shared) (H : Hp) (C : Addr) (cl : List (Str × Addr)) (fp : List Addr), PE (X.blk s H scope (compEnvC scope cl C X.env) fp) kx tk)
    (he : ∀ (s : Shared) (H : Hp) (C : Addr) (cl : List (Str × Addr)) (fp : List Addr), PE (X.blk s H scope (compEnvC scope cl C X.env) fp) vx tv) (hs : ∀ x, foldedSetIterable iter X.env x = pure x := by intro _; rfl) :
    PE X (.DictComp kx vx [⟨tg, iter, ifs, 0⟩] scope pos) (tDcT wi g tt tk tv (own.map (·.2))) := by
  refine ⟨fun pins s σ H Q I h => ?_⟩
  rw [arm_eval_DictComp]
  have free : ∀ y ∈ scope.names, y.2 = .free → ∃ c, X.env.cells.lookup y.1 = some c := fun y hy e => by
    rcases ok.free y hy e with k | k
    · exact I.ok.has _ (.inl k)
    · exact I.ok.has _ (.inr k)
  refine wpAny_comprehension_free rfl hs (closure_ok free) ok.kind (fun y hy e => by rw [ok.uniq y hy, e]) (thn (hi.run pins s σ H _ I h) fun xv s1 hx => thn hx fun itv s2 h2 => ?_)
  obtain ⟨it, fp, tn, J, H2, rfl, I2, T, st2, f2, q⟩ := h2
  -- the dict that is made, at D
  obtain ⟨D, hD⟩ : ∃ D : Addr, D = s2.heap.objs.size := ⟨_, rfl⟩
  have D0 : H2 D = none := I2.hok.fresh (Nat.le_of_eq hD.symm)
  obtain ⟨W, ⟨m0, w0⟩, turn⟩ := q D D0
  refine wpAny_newObj_type (newEnv_comp ?_)
  rw [← hD]
  obtain ⟨s3, e3⟩ : ∃ s3 : Shared, s3 = { s2 with heap := s2.heap.push { cls := .type "dict", data := .dict #[] } } := ⟨_, rfl⟩
  have p3 : ∀ b o, s2.heap.get? b = some o → s3.heap.get? b = some o := fun b o e => by rw [e3]; exact Heap.get?_push_of_some _ e
  have I3 : Inv X pins σ (upd H2 D (.dT [])) s3 := by
    rw [e3]
    exact I2.laid (t' := s2.toks) (fun b o e => Heap.get?_push_of_some _ e) (Nat.le_of_eq hD.symm) (by rw [hD]; exact dt_empty s2.heap I2.big)
  have f3 : ∀ b ∈ fp, FpOk X pins (upd H2 D (.dT [])) b ∧ b < s3.heap.objs.size := fun b hb => by
    obtain ⟨o, e, _⟩ := T.obj _ _ st2 b hb
    exact ⟨⟨by rw [upd_ne (by rw [hD]; exact Nat.ne_of_lt (Heap.lt_size e))]; exact (f2 b hb).1, (f2 b hb).2⟩, Heap.lt_size (p3 b o e)⟩
  have I4 := block_start I3 ok hN f3
  have pg := hg s3 (upd H2 D (.dT [])) s3.heap.objs.size (cellsFrom (s3.heap.objs.size + 1) scope.names (cloFrom X.env.cells scope.names [])) fp
  have pt := ht s3 (upd H2 D (.dT [])) s3.heap.objs.size (cellsFrom (s3.heap.objs.size + 1) scope.names (cloFrom X.env.cells scope.names [])) fp
  have pk := hk s3 (upd H2 D (.dT [])) s3.heap.objs.size (cellsFrom (s3.heap.objs.size + 1) scope.names (cloFrom X.env.cells scope.names [])) fp
  have pe := he s3 (upd H2 D (.dT [])) s3.heap.objs.size (cellsFrom (s3.heap.objs.size + 1) scope.names (cloFrom X.env.cells scope.names [])) fp
  rw [← e3]
  show codeAny _ _ (.compStart (.DictComp kx vx [⟨tg, iter, ifs, 0⟩] scope pos) 0 (.ref it) (.ref D) (compEnvC scope (cellsFrom (s3.heap.objs.size + 1) scope.names (cloFrom X.env.cells scope.names [])) s3.heap.objs.size X.env))
    (compPost (model X.prog X.w) X.A X.xe none (EP X pins σ Q) (.ref D) s3.heap.objs.size) { s3 with heap := pushCells (s3.heap.push { cls := .type "dict", data := .dict #[] }) scope.names }
  have nf : ∀ b ∈ fp, (upd H2 D (.dT [])) b = none := fun b hb => (f3 b hb).1.1
  have t4 : tn 0 (pushCells (s3.heap.push { cls := .type "dict", data := .dict #[] }) scope.names) := T.keep _ _ _ st2 fun b _ o e => pushCells_keeps _ _ _ _ (Heap.get?_push_of_some _ (p3 b o e))
  generalize hce : compEnvC scope (cellsFrom (s3.heap.objs.size + 1) scope.names (cloFrom X.env.cells scope.names [])) s3.heap.objs.size X.env = ce at I4 pg pt pk pe ⊢
  have cL : ce.locals = s3.heap.objs.size := by rw [← hce]; rfl
  generalize upd H2 D (.dT []) = H3 at I3 f3 I4 pg pt pk pe nf w0
  generalize hs4 : ({ s3 with heap := pushCells (s3.heap.push { cls := .type "dict", data := .dict #[] }) scope.names } : Shared) = s4 at I4 ⊢
  have t4' : tn 0 s4.heap := by rw [← hs4]; exact t4
  -- the iterator's objects stand outside of the block
  have outer : ∀ {σ' : L2.St} {H' : Hp} {s' : Shared}, Inv (X.blk s3 H3 scope ce fp) [] σ' H' s' → (∀ b ∈ fp, H' b = none) → ∀ b ∈ fp, FpOk (X.blk s3 H3 scope ce fp) [] H' b := fun {σ' H' s'} J n b hb =>
    ⟨n b hb, (J.ok.exf b hb).1, J.ok.exfs b hb, .inl hb, fun x c e => (J.ok.exf b hb).2 x c e, fun p hp => absurd (show p ∈ ([] : List (Addr × Obj)) ++ [] from hp) (by simp)⟩
  have loop : codeAny (model X.prog X.w) X.A (.compLoop (.DictComp kx vx [⟨tg, iter, ifs, 0⟩] scope pos) 0 (.ref it) (.ref D) ce) (compPost (model X.prog X.w) X.A X.xe none (EP X pins σ Q) (.ref D) s3.heap.objs.size) s4 := by
    refine compLoop_anyD (fun n s' => ∃ i H', Inv (X.blk s3 H3 scope ce fp) [] (wipe σ (own.map (·.2))) H' s' ∧ tn i s'.heap ∧ (∀ b ∈ fp, H' b = none) ∧ W i n H') ?_ m0 ⟨0, H3, I4, t4', nf, w0⟩
    rintro n s5 ⟨i, H5, I5, t5, n5, w5⟩
    rcases turn i n H5 w5 with ⟨stop, fin⟩ | ⟨go, Nx, hNx, step⟩
    · -- the walk is at its end: the def goes on
      refine thnF (T.done (X.blk s3 H3 scope ce fp) rfl rfl rfl hc i [] s5 _ H5 (fun _ _ => False) I5 (outer I5 n5) t5 stop) fun r s6 ⟨hr, I6⟩ => ?_
      subst hr
      have I7 : Inv X pins σ H5 s6 := I3.call' (ch := fp) I6.os I6.base I6.hok I6.bare fun b hb => ⟨(f3 b hb).1.2.2.2.1, (f3 b hb).1.2.1, (f3 b hb).1.2.2.2.2.1, (f3 b hb).1.2.2.2.2.2⟩
      have nC : H5 s3.heap.objs.size = none := by rw [← cL]; exact I6.free
      obtain ⟨m, hn, _⟩ := I6.loc
      have hn' : s6.heap.Ns s3.heap.objs.size m := by rw [← cL]; exact hn
      obtain ⟨g0, g1, g2, g3, g4, g5⟩ := I3.fpOk (Nat.le_refl _) nC
      exact ⟨m, hn', fun h'' sb => ⟨.ref D, H5, I7.turned (t' := s6.toks) (fun b o hb e => (sb.2 b hb).trans e) g0 g1 g3 g4 g5, rfl, fin⟩⟩
    · -- one more turn
      refine thnF (T.item (X.blk s3 H3 scope ce fp) rfl rfl rfl hc i [] s5 _ H5 (fun _ _ => False) I5 (outer I5 n5) t5 go) fun r s6 ⟨u, hr, h6⟩ => ?_
      subst hr
      refine thnF h6 fun _ s7 ⟨x, H7, I7, r7, y7, t7, n7⟩ => ?_
      have I7' := I7.pinned (outer I7 n7) (T.obj _ _ t7)
      refine thnF (pg.run _ s7 _ H7 x u _ I7' r7 (step x H7 y7)) fun _ s8 ⟨σ8, H8, I8, w8, q8⟩ => ?_
      refine thnF (pt.run _ s8 σ8 H8 _ I8 q8) fun b s9 ⟨H9, I9, q9⟩ => ?_
      have again : ∀ {s' : Shared} {H' : Hp}, Inv (X.blk s3 H3 scope ce fp) ([] ++ pinsAt fp s7.heap) σ8 H' s' → Nx H' → ∃ m, m < n ∧ ∃ i H', Inv (X.blk s3 H3 scope ce fp) [] (wipe σ (own.map (·.2))) H' s' ∧ tn i s'.heap ∧ (∀ b ∈ fp, H' b = none) ∧ W i m H' := by
        intro s' H' J nx
        obtain ⟨m', hm, w'⟩ := hNx H' nx
        have stay : ∀ b ∈ fp, ∀ o, s7.heap.get? b = some o → s'.heap.get? b = some o ∧ H' b = none := fun b hb o e => by
          have z := J.pin (b, o) (List.mem_append_right _ (List.mem_append_right _ (mem_pinsAt hb e)))
          exact ⟨z.1, z.2.1⟩
        refine ⟨m', hm, i + 1, H', (J.unpinned (pins := [])).weak (by rw [← w8, wipe_length]) (fun j v e => ?_), T.keep _ _ _ t7 fun b hb o e => (stay b hb o e).1, fun b hb => ?_, w'⟩
        · rw [← w8] at e; exact (wipe_some e).1
        · obtain ⟨o, e, _⟩ := T.obj _ _ t7 b hb
          exact (stay b hb o e).2
      cases b with
      | false =>
        simp only [Bool.false_eq_true, if_false] at q9 ⊢
        exact again I9 q9
      | true =>
        simp only [if_true] at q9 ⊢
        refine thnF (pk.run _ s9 σ8 H9 _ I9 q9) fun ky s10 ⟨yk, H10, I10, r10, q10⟩ => ?_
        refine thnF (pe.run _ s10 σ8 H10 _ I10 q10) fun vv s11 ⟨yv, H11, I11, r11, kvs, k, kb, ek, hkb, hD11, hz11, nx⟩ => ?_
        subst ek
        exact put_tup (X := X.blk s3 H3 scope ce fp) hu I11 hD11 hkb hz11 r10 r11 fun s12 I12 => again I12 nx
  exact codeAny_compStart_dict loop (T.self X.A 0 _ _ _ t4' loop)
end
end Bd
namespace Bd
open PySem PySem.Spec PyProof.Rows L2
/-- a list or a tuple is walked -/
def iLt (K : PySem.W.Frag) (tl : TE) : TI := fun σ H R => iList K tl σ H R ∨ iTup K tl σ H R
theorem pi_lt {X : Cx} {tg l : Expr} {tl : TE} (hl : PE X l tl) : PI X tg l (iLt X.K tl) := ⟨fun pins s σ H R I h => h.elim ((pi_list hl).run pins s σ H R I) ((pi_tup hl).run pins s σ H R I)⟩
end Bd

set_option Elab.async false
set_option linter.all false
set_option maxRecDepth 100000
set_option maxHeartbeats 4000000
/-! Bundles: sums of rows, normal forms. -/
namespace Bd
open PySem PySem.Spec PyProof.Rows L2
abbrev Ast := Str × Int
theorem ltSI_anti {p q : Ast} (h1 : ltSI p q = false) (h2 : ltSI q p = false) : p = q := by
  have a := ltSI_no.mp h1
  have b := ltSI_no.mp h2
  have c1 : q.1.cps.toList ≤ p.1.cps.toList := List.not_lt.mp fun z => a (.inl z)
  have c2 : p.1.cps.toList ≤ q.1.cps.toList := List.not_lt.mp fun z => b (.inl z)
  have e : p.1 = q.1 := str_ext (List.le_antisymm c2 c1)
  have d1 : ¬ p.2 < q.2 := fun z => a (.inr ⟨e, z⟩)
  have d2 : ¬ q.2 < p.2 := fun z => b (.inr ⟨e.symm, z⟩)
  exact Prod.ext e (by omega)
/-- the sum of the quantities of an asset -/
def tot : List (Ast × Int) → Ast → Int
  | [], _ => 0
  | e :: r, p => (if e.1 = p then e.2 else 0) + tot r p
theorem tot_append : ∀ (R S : List (Ast × Int)) (p : Ast), tot (R ++ S) p = tot R p + tot S p
  | [], S, p => by simp [tot]
  | e :: R, S, p => by rw [List.cons_append]; simp only [tot]; rw [tot_append R S p]; omega
theorem tot_neg : ∀ (R : List (Ast × Int)) (p : Ast), tot (R.map fun e => (e.1, -e.2)) p = - tot R p
  | [], p => by simp [tot]
  | e :: R, p => by
    rw [List.map_cons]; simp only [tot]; rw [tot_neg R p]
    split <;> omega
theorem tot_none {p : Ast} : ∀ {N : List (Ast × Int)}, p ∉ N.map (·.1) → tot N p = 0
  | [], _ => rfl
  | e :: N, h => by
    simp only [tot]
    rw [if_neg fun z => h (by rw [List.map_cons, z]; exact List.mem_cons_self ..), tot_none fun z => h (by rw [List.map_cons]; exact List.mem_cons_of_mem _ z)]
    omega
theorem tot_at {e : Ast × Int} : ∀ {N : List (Ast × Int)}, (N.map (·.1)).Nodup → e ∈ N → tot N e.1 = e.2
  | [], _, h => absurd h List.not_mem_nil
  | f :: N, hn, h => by
    rw [List.map_cons, List.nodup_cons] at hn
    simp only [tot]
    rcases List.mem_cons.mp h with rfl | h
    · rw [if_pos rfl, tot_none hn.1]; omega
    · rw [if_neg fun z => hn.1 (by rw [z]; exact List.mem_map_of_mem (f := (·.1)) h), tot_at hn.2 h]; omega
/-- rows in normal form -/
structure Nrm (N : List (Ast × Int)) : Prop where
  srt : N.Pairwise fun a b => ltSI b.1 a.1 = false
  nd : (N.map (·.1)).Nodup
  nz : ∀ e ∈ N, e.2 ≠ 0
theorem Nrm.nil : Nrm [] := ⟨List.Pairwise.nil, List.nodup_nil, fun _ h => absurd h List.not_mem_nil⟩
theorem Nrm.tail {e : Ast × Int} {N : List (Ast × Int)} (h : Nrm (e :: N)) : Nrm N := ⟨(List.pairwise_cons.mp h.srt).2, by have := h.nd; rw [List.map_cons, List.nodup_cons] at this; exact this.2, fun x hx => h.nz x (List.mem_cons_of_mem _ hx)⟩
theorem Nrm.key {N : List (Ast × Int)} (h : Nrm N) (p : Ast) : p ∈ N.map (·.1) ↔ tot N p ≠ 0 := by
  constructor
  · intro m
    obtain ⟨e, he, rfl⟩ := List.mem_map.mp m
    rw [tot_at h.nd he]; exact h.nz e he
  · intro m
    rcases Classical.em (p ∈ N.map (·.1)) with z | z
    · exact z
    · exact absurd (tot_none z) m
/-- one normal form for one sum -/
theorem Nrm.uniq : ∀ {N M : List (Ast × Int)}, Nrm N → Nrm M → (∀ p, tot N p = tot M p) → N = M
  | [], [], _, _, _ => rfl
  | [], e :: M, _, hm, h => absurd (h e.1) (by
      rw [tot_at hm.nd (List.mem_cons_self ..)]
      exact fun z => hm.nz e (List.mem_cons_self ..) z.symm)
  | e :: N, [], hn, _, h => absurd (h e.1) (by
      rw [tot_at hn.nd (List.mem_cons_self ..)]
      exact fun z => hn.nz e (List.mem_cons_self ..) z)
  | e :: N, f :: M, hn, hm, h => by
    have k1 : e.1 ∈ (f :: M).map (·.1) := (hm.key _).mpr (by rw [← h]; exact (hn.key _).mp (by rw [List.map_cons]; exact List.mem_cons_self ..))
    have k2 : f.1 ∈ (e :: N).map (·.1) := (hn.key _).mpr (by rw [h]; exact (hm.key _).mp (by rw [List.map_cons]; exact List.mem_cons_self ..))
    have e1 : e.1 = f.1 := by
      rw [List.map_cons] at k1 k2
      rcases List.mem_cons.mp k1 with z | z
      · exact z
      · rcases List.mem_cons.mp k2 with y | y
        · exact y.symm
        · obtain ⟨g, hg, eg⟩ := List.mem_map.mp z
          obtain ⟨g2, hg2, eg2⟩ := List.mem_map.mp y
          have q1 := (List.pairwise_cons.mp hm.srt).1 g hg
          have q2 := (List.pairwise_cons.mp hn.srt).1 g2 hg2
          rw [eg] at q1
          rw [eg2] at q2
          exact ltSI_anti q1 q2
    have e2 : e.2 = f.2 := by
      have a := tot_at hn.nd (List.mem_cons_self (a := e) (l := N))
      have b := tot_at hm.nd (List.mem_cons_self (a := f) (l := M))
      rw [h, e1] at a
      omega
    have ef : e = f := Prod.ext e1 e2
    subst ef
    rw [Nrm.uniq hn.tail hm.tail fun p => by
      have := h p
      simp only [tot] at this
      omega]
/-! ### dicts of sums -/
def eD (m : List (Ast × V)) : List (List Key × V) := m.map fun e => (eK e.1, e.2)
theorem eK_inj {p q : Ast} (h : eK p = eK q) : p = q := by
  have h1 := (List.cons.inj h).1
  have h2 := (List.cons.inj (List.cons.inj h).2).1
  exact Prod.ext (Sum.inr.inj h1) (Sum.inl.inj h2)
theorem valV_eD (p : Ast) : ∀ m : List (Ast × V), valV (eD m) (eK p) = valV m p
  | [] => rfl
  | e :: m => by
    by_cases h : e.1 = p
    · rw [valV_pos h, show eD (e :: m) = (eK e.1, e.2) :: eD m from rfl, valV_pos (p := (eK e.1, e.2)) (by rw [h])]
    · rw [valV_neg h, show eD (e :: m) = (eK e.1, e.2) :: eD m from rfl, valV_neg (p := (eK e.1, e.2)) (fun z => h (eK_inj z)), valV_eD p m]
theorem putK_eD (m : List (Ast × V)) (p : Ast) (v : V) : putK (eD m) (eK p) v = eD (putK m p v) := by
  unfold putK
  rw [valV_any, valV_any, valV_eD]
  split
  · unfold eD
    rw [List.map_map, List.map_map]
    refine List.map_congr_left fun e _ => ?_
    show (if eK e.1 = eK p then (eK e.1, v) else (eK e.1, e.2)) = _
    by_cases h : e.1 = p
    · rw [if_pos (by rw [h])]
      show _ = (fun e : Ast × V => (eK e.1, e.2)) (if e.1 = p then (e.1, v) else e)
      rw [if_pos h]
    · rw [if_neg fun z => h (eK_inj z)]
      show _ = (fun e : Ast × V => (eK e.1, e.2)) (if e.1 = p then (e.1, v) else e)
      rw [if_neg h]
  · unfold eD; rw [List.map_append]; rfl
theorem valV_key {m : List (Ast × V)} {p : Ast} : (valV m p).isSome = true ↔ p ∈ m.map (·.1) := by
  rw [← valV_any, List.any_eq_true]
  constructor
  · rintro ⟨e, he, h⟩
    rw [← of_decide_eq_true h]; exact List.mem_map_of_mem (f := (·.1)) he
  · intro h
    obtain ⟨e, he, h⟩ := List.mem_map.mp h
    exact ⟨e, he, decide_eq_true h⟩
theorem nodup_putK {m : List (Ast × V)} {p : Ast} {v : V} (h : (m.map (·.1)).Nodup) : ((putK m p v).map (·.1)).Nodup := by
  unfold putK
  split
  · rw [List.map_map]
    have : ((fun x : Ast × V => x.1) ∘ fun kv => if kv.1 = p then (kv.1, v) else kv) = fun x => x.1 := by
      funext x; show (if x.1 = p then (x.1, v) else x).1 = x.1; split <;> rfl
    rw [this]; exact h
  · rename_i hn
    rw [List.map_append, List.nodup_append]
    refine ⟨h, by simp, fun a ha b hb => ?_⟩
    have e : b = p := by simpa using hb
    rw [e]
    intro z
    rw [z] at ha
    rw [valV_any] at hn
    exact hn (valV_key.mpr ha)
/-- the sums so far -/
structure Sums (m : List (Ast × V)) (R : List (Ast × Int)) : Prop where
  nd : (m.map (·.1)).Nodup
  val : ∀ p, valV m p = if p ∈ R.map (·.1) then some (.int (tot R p)) else none
theorem Sums.nil : Sums [] [] := ⟨List.nodup_nil, fun p => rfl⟩
theorem Sums.get {m : List (Ast × V)} {R : List (Ast × Int)} (h : Sums m R) (p : Ast) : (valV m p).getD (.int 0) = .int (tot R p) := by
  rw [h.val]
  split
  · rfl
  · rename_i z; rw [tot_none z]; rfl
theorem Sums.put {m : List (Ast × V)} {R : List (Ast × Int)} (h : Sums m R) (e : Ast × Int) : Sums (putK m e.1 (.int (tot R e.1 + e.2))) (R ++ [e]) := by
  refine ⟨nodup_putK h.nd, fun p => ?_⟩
  rw [valV_put, h.val, tot_append]
  simp only [tot, List.map_append, List.map_cons, List.map_nil, List.mem_append, List.mem_singleton]
  by_cases q : p = e.1
  · subst q
    simp
  · have q' : ¬ e.1 = p := fun z => q z.symm
    rw [if_neg q, if_neg q']
    by_cases y : p ∈ R.map (·.1)
    · have y' : p ∈ R.map (·.1) ∨ p = e.1 := .inl y
      rw [if_pos y, if_pos y']; simp
    · have y' : ¬ (p ∈ R.map (·.1) ∨ p = e.1) := fun z => z.elim y q
      rw [if_neg y, if_neg y']
theorem Sums.keys {m : List (Ast × V)} {R : List (Ast × Int)} (h : Sums m R) (p : Ast) : p ∈ m.map (·.1) ↔ p ∈ R.map (·.1) := by
  rw [← valV_key, h.val]
  split <;> simp [*]
/-- what the sorted keys give -/
def nfOf (R : List (Ast × Int)) (S : List Ast) : List (Ast × Int) := (S.filter fun p => decide (tot R p ≠ 0)).map fun p => (p, tot R p)
theorem nf_nrm {R : List (Ast × Int)} {S : List Ast} (hs : SrtO.Srtd ltSI S) (hn : S.Nodup) : Nrm (nfOf R S) := by
  refine ⟨?_, ?_, ?_⟩
  · exact List.pairwise_map.mpr (List.Pairwise.filter _ hs)
  · unfold nfOf; rw [List.map_map]
    have : ((fun x : Ast × Int => x.1) ∘ fun p => (p, tot R p)) = id := rfl
    rw [this, List.map_id]
    exact List.Pairwise.filter _ hn
  · intro e he
    obtain ⟨p, hp, rfl⟩ := List.mem_map.mp he
    exact of_decide_eq_true (List.mem_filter.mp hp).2
theorem nf_tot {R : List (Ast × Int)} {S : List Ast} (hs : SrtO.Srtd ltSI S) (hn : S.Nodup) (hk : ∀ p, p ∈ R.map (·.1) → p ∈ S) (p : Ast) : tot (nfOf R S) p = tot R p := by
  by_cases h : tot R p = 0
  · rw [h]
    refine tot_none fun z => ?_
    obtain ⟨e, he, rfl⟩ := List.mem_map.mp z
    obtain ⟨q, hq, rfl⟩ := List.mem_map.mp he
    exact of_decide_eq_true (List.mem_filter.mp hq).2 h
  · have m : p ∈ S := hk p (by
      rcases Classical.em (p ∈ R.map (·.1)) with z | z
      · exact z
      · exact absurd (tot_none z) h)
    exact tot_at (nf_nrm hs hn).nd (e := (p, tot R p)) (List.mem_map.mpr ⟨p, List.mem_filter.mpr ⟨m, decide_eq_true h⟩, rfl⟩)
end Bd
namespace Bd
open PySem PySem.Spec PyProof.Rows L2
/-- rows as they stand in the heap -/
inductive RowL (H : Hp) : List V → List (Ast × Int) → Prop
  | nil : RowL H [] []
  | cons {z kq : Addr} {xs : List V} {p : Ast} {q : Int} {R : List (Ast × Int)} (h1 : H z = some (.tup [.ref kq, .int q])) (h2 : H kq = some (.tup [.str p.1, .int p.2])) (r : RowL H xs R) : RowL H (.ref z :: xs) ((p, q) :: R)
theorem RowL.keepT {H H' : Hp} (e : ∀ q t, H q = some (.tup t) → H' q = some (.tup t)) {xs : List V} {R : List (Ast × Int)} (h : RowL H xs R) : RowL H' xs R := by
  induction h with
  | nil => exact .nil
  | cons h1 h2 _ ih => exact .cons (e _ _ h1) (e _ _ h2) ih
theorem RowL.keep {H H' : Hp} (e : Same H H') {xs : List V} {R : List (Ast × Int)} (h : RowL H xs R) : RowL H' xs R := h.keepT fun _ _ => e _ _
theorem RowL.len {H : Hp} {xs : List V} {R : List (Ast × Int)} (h : RowL H xs R) : xs.length = R.length := by
  induction h with
  | nil => rfl
  | cons _ _ _ ih => exact congrArg Nat.succ ih
theorem RowL.append {H : Hp} {xs ys : List V} {R S : List (Ast × Int)} (h : RowL H xs R) (k : RowL H ys S) : RowL H (xs ++ ys) (R ++ S) := by
  induction h with
  | nil => exact k
  | cons h1 h2 _ ih => exact .cons h1 h2 ih
theorem RowL.get {H : Hp} {xs : List V} {R : List (Ast × Int)} (h : RowL H xs R) : ∀ {i : Nat} {x : V}, xs[i]? = some x → ∃ z kq p q, x = V.ref z ∧ R[i]? = some (p, q) ∧ H z = some (.tup [.ref kq, .int q]) ∧ H kq = some (.tup [.str p.1, .int p.2]) := by
  induction h with
  | nil => intro i x e; cases e
  | @cons z kq xs p q R h1 h2 _ ih =>
    intro i x e
    cases i with
    | zero => cases e; exact ⟨z, kq, p, q, rfl, rfl, h1, h2⟩
    | succ i => exact ih e
def encR (e : Ast × Int) : PyData := .tuple [.tuple [.str e.1.1, .int e.1.2], .int e.2]
theorem RowL.dp {K : PySem.W.Frag} {H : Hp} {xs : List V} {R : List (Ast × Int)} (h : RowL H xs R) : DpAll K H xs (R.map encR) := by
  induction h with
  | nil => exact .nil
  | cons h1 h2 _ ih => exact .cons (.tup (SqT.of h1) (.cons (.tup (SqT.of h2) (.cons (.str _) (.cons (.int _) .nil))) (.cons (.int _) .nil))) ih
theorem RowL.zs {H : Hp} : ∀ {zs : List (Addr × (Ast × V))} {R : List (Ast × Int)}, zs.map (·.2) = R.map (fun e => (e.1, V.int e.2)) →
    (∀ z ∈ zs, ∃ kq, H z.1 = some (.tup [.ref kq, z.2.2]) ∧ H kq = some (.tup [.str z.2.1.1, .int z.2.1.2])) → RowL H (zs.map fun z => V.ref z.1) R
  | [], [], _, _ => .nil
  | [], _ :: _, e, _ => by cases e
  | _ :: _, [], e, _ => by cases e
  | z :: zs, e :: R, h, k => by
    rw [List.map_cons, List.map_cons] at h
    have h1 := (List.cons.inj h).1
    obtain ⟨kq, a, b⟩ := k z (List.mem_cons_self ..)
    rw [h1] at a b
    exact .cons a b (RowL.zs (List.cons.inj h).2 fun y hy => k y (List.mem_cons_of_mem _ hy))
/-- the bundle at b has the rows N -/
def BdAt (K : PySem.W.Frag) (H : Hp) (b : Addr) (N : List (Ast × Int)) : Prop := ∃ dx r d xs, H b = some (.ins (He.ga K "Bundle") dx [("_quantities", .ref d), ("rows", .ref r)]) ∧ H r = some (.tup xs) ∧ RowL H xs N ∧ H d = some (.dT (eD (N.map fun e => (e.1, V.int e.2)))) ∧ Nrm N
theorem BdAt.nrm {K : PySem.W.Frag} {H : Hp} {b : Addr} {N : List (Ast × Int)} (h : BdAt K H b N) : Nrm N := by
  obtain ⟨_, _, _, _, _, _, _, _, h⟩ := h
  exact h
theorem Nrm.neg {N : List (Ast × Int)} (h : Nrm N) : Nrm (N.map fun e => (e.1, -e.2)) := by
  refine ⟨List.pairwise_map.mpr h.srt, ?_, ?_⟩
  · rw [List.map_map]; exact h.nd
  · intro e he
    obtain ⟨f, hf, rfl⟩ := List.mem_map.mp he
    have := h.nz f hf
    show -f.2 ≠ 0
    omega
theorem BdAt.keep {K : PySem.W.Frag} {H H' : Hp} {b : Addr} {N : List (Ast × Int)} (e : Same H H') (h : BdAt K H b N) : BdAt K H' b N := by
  obtain ⟨dx, r, d, xs, h1, h2, h3, h4, h5⟩ := h
  exact ⟨dx, r, d, xs, e _ _ h1, e _ _ h2, h3.keep e, e _ _ h4, h5⟩
/-- what is told of the class -/
structure BFacts (K : PySem.W.Frag) (mg : Str → Option Value) : Prop where
  m : mg "Bundle" = some (.ref (He.ga K "Bundle"))
  cls : Cls K (He.ga K "Bundle")
  n1 : NoAttr K (He.ga K "Bundle") "rows"
  n2 : NoAttr K (He.ga K "Bundle") "_quantities"
  mkr : Mk K (He.ga K "Bundle") (He.fAd K ("Bundle", some "__init__"))
  first : PySem.W.selfFirst K (He.ga K "Bundle") = true
  at_Bundle___add : PySem.W.findIn K (.ref (He.ga K "Bundle")) "__add__" = some (some (.ref (He.fAd K ("Bundle", some "__add__"))))
  fn_Bundle___add : PySem.W.isFn K (.ref (He.fAd K ("Bundle", some "__add__"))) = true
  at_Bundle___sub : PySem.W.findIn K (.ref (He.ga K "Bundle")) "__sub__" = some (some (.ref (He.fAd K ("Bundle", some "__sub__"))))
  fn_Bundle___sub : PySem.W.isFn K (.ref (He.fAd K ("Bundle", some "__sub__"))) = true
  at_Bundle___neg : PySem.W.findIn K (.ref (He.ga K "Bundle")) "__neg__" = some (some (.ref (He.fAd K ("Bundle", some "__neg__"))))
  fn_Bundle___neg : PySem.W.isFn K (.ref (He.fAd K ("Bundle", some "__neg__"))) = true
end Bd
namespace Rb
open PySem PySem.Spec PyProof.Rows L2 Bd
section
variable {K : PySem.W.Frag} {σ : L2.St} {H : Hp} {n b c : L2.St → Hp → Prop} {r : VK} {Q : VK} {td ty tv tx ta te : TE}
theorem dnewT (k : ∀ p, H p = none → Q (.ref p) (upd H p (.dT []))) : tDNewT σ H Q := k
theorem dget2 (k : td σ H fun x H1 => ∃ a, x = .ref a ∧ IsD H1 a ∧ ty σ H1 fun y H2 => tx σ H2 fun z H3 => ∃ o, DGet H3 a y o ∧ Q (o.getD z) H3) : tDGet2 td ty tx σ H Q := k
theorem dget (k : td σ H fun x H1 => ty σ H1 fun y H2 => ∃ a v, x = .ref a ∧ DGet H2 a y (some v) ∧ Q v H2) : tDGet td ty σ H Q := k
theorem isD {a : Addr} {kvs : List (List Key × V)} {P : Addr → Prop} (h : H a = some (.dT kvs)) (k : P a) : ∃ a', V.ref a = .ref a' ∧ IsD H a' ∧ P a' := ⟨a, rfl, .inr ⟨kvs, .inl h⟩, k⟩
theorem dgetO {a z : Addr} {m : List (Ast × V)} {p : Ast} {P : Option V → Prop} (h : H a = some (.dT (eD m))) (hz : H z = some (.tup [.str p.1, .int p.2])) (k : P (valV m p)) : ∃ o, DGet H a (.ref z) o ∧ P o :=
  ⟨_, DGet.t (k := eK p) h hz, by rw [valV_eD]; exact k⟩
theorem dgetS {a z : Addr} {m : List (Ast × V)} {p : Ast} {v : V} {P : V → Prop} (h : H a = some (.dT (eD m))) (hz : H z = some (.tup [.str p.1, .int p.2])) (e : valV m p = some v) (k : P v) : ∃ a' v', V.ref a = .ref a' ∧ DGet H a' (.ref z) (some v') ∧ P v' :=
  ⟨a, v, rfl, by rw [← e, ← valV_eD]; exact DGet.t (k := eK p) h hz, k⟩
theorem dput (k : tv σ H fun v H1 => td σ H1 fun x H2 => ty σ H2 fun y H3 => ∃ a H4, x = .ref a ∧ DPut H3 a y v H4 ∧ n σ H4) : sDPut td ty tv ⟨n, r, b, c⟩ σ H := k
theorem dputT {a z : Addr} {m : List (Ast × V)} {p : Ast} {v : V} {P : Hp → Prop} (h : H a = some (.dT (eD m))) (hz : H z = some (.tup [.str p.1, .int p.2])) (hl : m.length < 100000) (k : P (upd H a (.dT (eD (putK m p v))))) : ∃ a' H4, V.ref a = .ref a' ∧ DPut H a' (.ref z) v H4 ∧ P H4 :=
  ⟨a, _, rfl, DPut.t (k := eK p) h hz (Rd.smallT (by unfold eD; rw [List.length_map]; exact hl)), by rw [putK_eD]; exact k⟩
theorem pair2 {z : Addr} {x y : V} {i j : Nat} {Qd : L2.St → Hp → Prop} (h : SqT K H z [x, y]) (k : Qd ((σ.set i (some x)).set j (some y)) H) : gTup K 2 (gCons (gName i) (gCons (gName j) gNil)) (.ref z) σ H Qd :=
  ⟨z, _, rfl, h, rfl, x, [y], rfl, y, [], rfl, rfl, k⟩
/-- for .. in a list or a tuple, by its name -/
theorem forLt {i₀ : Nat} {H0 : Hp} {a : Addr} {xs : List V} {g : TG} {tb : TS} (Pv : Nat → L2.St → Hp → Prop) (hv : σ[i₀]? = some (some (.ref a))) (h : SqL K H0 a xs ∨ SqT K H0 a xs) (e0 : Same H0 H) (h0 : Pv 0 σ H)
    (hl : ∀ i σ H', i ≤ xs.length → Pv i σ H' → Same H0 H') (hs : ∀ (i : Nat) (x : V) (σ' : L2.St) (H' : Hp), xs[i]? = some x → Pv i σ' H' → g x σ' H' fun σ2 H2 => tb ⟨Pv (i + 1), r, n, Pv (i + 1)⟩ σ2 H2)
    (hd : ∀ σ' H', Pv xs.length σ' H' → n σ' H') : tFor (iLt K (tVar i₀)) g tb ⟨n, r, b, c⟩ σ H := by
  rcases h with h | h
  · exact .inl ⟨.ref a, hv, a, rfl, ⟨_, e0.seq h⟩, for_list Pv h0 (fun i σ' H' hi p => (hl i σ' H' hi p).seq h) hs hd⟩
  · exact .inr ⟨.ref a, hv, a, rfl, ⟨_, Rd.same_tup e0 h⟩, for_tup Pv h0 (fun i σ' H' hi p => Rd.same_tup (hl i σ' H' hi p) h) hs hd⟩
theorem fld {f : Str} (k : ta σ H fun x H1 => ∃ a C dx fs v, x = .ref a ∧ H1 a = some (.ins C dx fs) ∧ Cls K C ∧ NoAttr K C f ∧ fs.lookup f = some v ∧ Q v H1) : tFld K ta f σ H Q := k
theorem sfld {f : Str} (k : tv σ H fun y H1 => ta σ H1 fun x H2 => ∃ a C dx fs, x = .ref a ∧ H2 a = some (.ins C dx fs) ∧ Cls K C ∧ NoAttr K C f ∧ fs.length < 1000 ∧ n σ (upd H2 a (.ins C dx (putF f y fs)))) : sFld K ta tv f ⟨n, r, b, c⟩ σ H := k
theorem dcT {wi : TI} {g : TG} {tt : TT} {tk : TE} {vs : List Nat} (k : wi σ H fun J H1 => DcJ g tt tk tv vs σ Q J H1) : tDcT wi g tt tk tv vs σ H Q := k
/-- a dict comprehension over a list with a test -/
theorem dcL {a : Addr} {xs : List V} {g : TG} {tt : TT} {tk : TE} {vs : List Nat} {H1 : Hp} (Pv : Addr → Nat → Hp → Prop) (h : SqL K H1 a xs) (h0 : ∀ D, H1 D = none → Pv D 0 (upd H1 D (.dT [])))
    (hl : ∀ D i H, i ≤ xs.length → Pv D i H → SqL K H a xs)
    (hs : ∀ D i x H, H1 D = none → xs[i]? = some x → Pv D i H → g x (wipe σ vs) H fun σ2 H2 => wipe σ2 vs = wipe σ vs ∧ tt σ2 H2 fun t H3 =>
      if t = true then tk σ2 H3 fun y H4 => tv σ2 H4 fun z H5 => ∃ kvs k b, y = .ref b ∧ H5 b = some (.tup (k.map kV)) ∧ H5 D = some (.dT kvs) ∧ kvs.length < sizeLine ∧ Pv D (i + 1) (upd H5 D (.dT (putK kvs k z))) else Pv D (i + 1) H3)
    (hd : ∀ D H, H1 D = none → Pv D xs.length H → Q (.ref D) H) : ∃ p, V.ref a = .ref p ∧ (∃ ys, SqL K H1 p ys) ∧ DcJ g tt tk tv vs σ Q (Itl K p) H1 := by
  refine ⟨a, rfl, ⟨_, h⟩, fun D hD => ⟨fun i m H => m = xs.length - i ∧ i ≤ xs.length ∧ Pv D i H, ⟨xs.length, by simp, Nat.zero_le _, h0 D hD⟩, ?_⟩⟩
  rintro i m H ⟨rfl, hi, p⟩
  have q := hl D i H hi p
  by_cases hlt : i < xs.length
  · refine .inr ⟨⟨xs, xs[i], q, by simp [hlt]⟩, Pv D (i + 1), fun H' p' => ⟨xs.length - (i + 1), by omega, rfl, hlt, p'⟩, fun x H' y => ?_⟩
    obtain ⟨e, y⟩ := y
    subst e
    exact hs D i x _ hD (y xs q) p
  · have e : i = xs.length := by omega
    subst e
    exact .inl ⟨⟨xs, q, Nat.le_refl _⟩, hd D H hD p⟩
end
end Rb
namespace Bd
open PySem PySem.Spec PyProof.Rows L2
theorem nfOf_yes {R : List (Ast × Int)} {S : List Ast} {p : Ast} (h : tot R p ≠ 0) : nfOf R (S ++ [p]) = nfOf R S ++ [(p, tot R p)] := by
  unfold nfOf
  have e : List.filter (fun p => decide (tot R p ≠ 0)) [p] = [p] := by simp [h]
  rw [List.filter_append, List.map_append, e]
  rfl
theorem nfOf_no {R : List (Ast × Int)} {S : List Ast} {p : Ast} (h : tot R p = 0) : nfOf R (S ++ [p]) = nfOf R S := by
  unfold nfOf
  have e : List.filter (fun p => decide (tot R p ≠ 0)) [p] = [] := by simp [h]
  rw [List.filter_append, List.map_append, e]
  simp
theorem nfOf_mem {R : List (Ast × Int)} {S : List Ast} {p : Ast} (h : p ∈ (nfOf R S).map (·.1)) : p ∈ S := by
  obtain ⟨e, he, rfl⟩ := List.mem_map.mp h
  obtain ⟨q, hq, rfl⟩ := List.mem_map.mp he
  exact (List.mem_filter.mp hq).1
theorem nfOf_len (R : List (Ast × Int)) (S : List Ast) : (nfOf R S).length ≤ S.length := by
  unfold nfOf; rw [List.length_map]; exact List.length_filter_le _ _
/-- the next asset in order is put behind -/
theorem put_nf {R : List (Ast × Int)} {S : List Ast} {p : Ast} (h : tot R p ≠ 0) (hp : p ∉ S) : putK ((nfOf R S).map fun e => (e.1, V.int e.2)) p (.int (tot R p)) = (nfOf R (S ++ [p])).map fun e => (e.1, V.int e.2) := by
  rw [putK_new, nfOf_yes h, List.map_append]
  · rfl
  · cases q : valV ((nfOf R S).map fun e => (e.1, V.int e.2)) p with
    | none => rfl
    | some v =>
      have : p ∈ ((nfOf R S).map fun e => (e.1, V.int e.2)).map (·.1) := valV_key.mp (by rw [q]; rfl)
      rw [List.map_map] at this
      exact absurd (nfOf_mem this) hp
end Bd
namespace Rb
open PySem PySem.Spec PyProof.Rows L2 Bd
section
variable {K : PySem.W.Frag} {σ : L2.St} {H : Hp} {Q : VK} {E : XK}
theorem make {C : Addr} {sp : Sp} {dvs : List V} {t : TA} (k : t σ H fun vs H1 => ∀ x dx, H1 x = none → H1 dx = none → dx ≠ x → sp (.ref x :: (vs ++ dvs)) (upd (upd H1 dx (.own x)) x (.ins C dx [])) (fun v H2 => v = .non ∧ Q (.ref x) H2) E) : tMake C sp dvs E t σ H Q := k
theorem catA {a b : Addr} {xs ys : List V} (ha : SqT K H a xs) (hb : SqT K H b ys) (hl : xs.length + ys.length ≤ 100000) (k : ∀ p H', Same H H' → SqT K H' p (xs ++ ys) → Q (.ref p) H') : rCatA K (.ref a) (.ref b) H Q :=
  ⟨a, b, xs, ys, rfl, rfl, ha, hb, Rd.small hl, fun e => k b H (Same.refl H) (by rw [e]; exact hb), fun _ e => k a H (Same.refl H) (by rw [e, List.append_nil]; exact ha), fun _ _ p hp => k p _ (Rd.same_new hp) Rd.slT⟩
theorem own2 {C a b : Addr} {sp : Sp} (ha : ∃ dx fs, H a = some (.ins C dx fs)) (hb : ∃ dx fs, H b = some (.ins C dx fs)) (k : sp [.ref a, .ref b] H Q E) : rOwn2 C sp E (.ref a) (.ref b) H Q := by
  obtain ⟨dx, fs, ha⟩ := ha
  obtain ⟨dy, gs, hb⟩ := hb
  exact ⟨a, b, dx, dy, fs, gs, rfl, rfl, ha, hb, k⟩
theorem own1 {C a : Addr} {sp : Sp} (ha : ∃ dx fs, H a = some (.ins C dx fs)) (k : sp [.ref a] H Q E) : rOwn1 C sp E (.ref a) H Q := by
  obtain ⟨dx, fs, ha⟩ := ha
  exact ⟨a, dx, fs, rfl, ha, k⟩
theorem insOf {b : Addr} {N : List (Ast × Int)} (h : BdAt K H b N) : ∃ dx fs, H b = some (.ins (He.ga K "Bundle") dx fs) := by
  obtain ⟨dx, r, d, xs, h1, _⟩ := h
  exact ⟨dx, _, h1⟩
/-- b.rows where b's value is already there -/
theorem rowsP {P : V → Prop} {mg : Str → Option Value} {b : Addr} {N : List (Ast × Int)} (Bf : BFacts K mg) (h : BdAt K H b N) (k : ∀ r xs, H r = some (.tup xs) → RowL H xs N → P (.ref r)) :
    ∃ a C dx fs v, V.ref b = .ref a ∧ H a = some (.ins C dx fs) ∧ Cls K C ∧ NoAttr K C ("rows" : Str) ∧ fs.lookup ("rows" : Str) = some v ∧ P v := by
  obtain ⟨dx, r, d, xs, h1, h2, h3, h4, _⟩ := h
  exact ⟨b, _, dx, _, .ref r, rfl, h1, Bf.cls, Bf.n1, rfl, k r xs h2 h3⟩
end
end Rb
namespace Rb
open PySem PySem.Spec PyProof.Rows L2 Bd
section
variable {K : PySem.W.Frag} {σ : L2.St} {H : Hp} {Q : VK}
/-- [.. for target in a tuple] without a test -/
theorem lcT {a : Addr} {xs : List V} {g : TG} {te : TE} {vs : List Nat} (Pv : Addr → Nat → List V → Hp → Prop) (h : SqT K H a xs) (h0 : ∀ D H', H D = none → Same H H' → H' D = some (.lst []) → Pv D 0 [] H')
    (hs : ∀ (i : Nat) (x : V) (acc : List V) (D : Addr) (H' : Hp), H D = none → Same H H' → xs[i]? = some x → acc.length = i → H' D = some (.lst acc) → Pv D i acc H' → g x (wipe σ vs) H' fun σ2 H2 => wipe σ2 vs = wipe σ vs ∧ te σ2 H2 (Rd.LcE H D i Pv))
    (hd : ∀ D acc H', H D = none → Same H H' → H' D = some (.lst acc) → acc.length = xs.length → Pv D xs.length acc H' → Q (.ref D) H') :
    ∃ p, V.ref a = .ref p ∧ (∃ ys, SqT K H p ys) ∧ Rd.LcJ g tYes te vs σ Q (Itt K p) H := by
  refine ⟨a, rfl, ⟨_, h⟩, fun D hD => ?_⟩
  refine lc_tup (xs := xs) (fun i H' => ∃ acc, Same H H' ∧ acc.length = i ∧ H' D = some (.lst acc) ∧ Pv D i acc H') ⟨[], Rd.same_new hD, rfl, upd_same, h0 D _ hD (Rd.same_new hD) upd_same⟩ (fun i H' _ ⟨acc, s, _⟩ => Rd.same_tup s h) ?_ ?_
  · rintro i x H' hi ⟨acc, s, e, hD', p⟩
    exact hs i x acc D H' hD s hi e hD' p
  · rintro H' ⟨acc, s, e, hD', p⟩
    exact hd D acc H' hD s hD' e p
theorem lcL2 {a : Addr} {xs : List V} {g : TG} {te : TE} {vs : List Nat} (Pv : Addr → Nat → List V → Hp → Prop) (h : SqL K H a xs) (h0 : ∀ D H', H D = none → Same H H' → H' D = some (.lst []) → Pv D 0 [] H')
    (hs : ∀ (i : Nat) (x : V) (acc : List V) (D : Addr) (H' : Hp), H D = none → Same H H' → xs[i]? = some x → acc.length = i → H' D = some (.lst acc) → Pv D i acc H' → g x (wipe σ vs) H' fun σ2 H2 => wipe σ2 vs = wipe σ vs ∧ te σ2 H2 (Rd.LcE H D i Pv))
    (hd : ∀ D acc H', H D = none → Same H H' → H' D = some (.lst acc) → acc.length = xs.length → Pv D xs.length acc H' → Q (.ref D) H') :
    ∃ p, V.ref a = .ref p ∧ (∃ ys, SqL K H p ys) ∧ Rd.LcJ g tYes te vs σ Q (Itl K p) H := by
  refine ⟨a, rfl, ⟨_, h⟩, fun D hD => ?_⟩
  refine lc_list (xs := xs) (fun i H' => ∃ acc, Same H H' ∧ acc.length = i ∧ H' D = some (.lst acc) ∧ Pv D i acc H') ⟨[], Rd.same_new hD, rfl, upd_same, h0 D _ hD (Rd.same_new hD) upd_same⟩ (fun i H' _ ⟨acc, s, _⟩ => s.seq h) ?_ ?_
  · rintro i x H' hi ⟨acc, s, e, hD', p⟩
    exact hs i x acc D H' hD s hi e hD' p
  · rintro H' ⟨acc, s, e, hD', p⟩
    exact hd D acc H' hD s hD' e p
end
end Rb
namespace Bd
open PySem PySem.Spec PyProof.Rows L2
section
variable {X : Cx}
/-- sorted(xs), xs a list of assets -/
def rSortedSI (K : PySem.W.Frag) : List V → Hp → VK → Prop := fun xs H Q => ∃ (a : Addr) (ps0 : List (Addr × (Str × Int))), xs = [.ref a] ∧ SqL K H a (ps0.map fun z => V.ref z.1) ∧ AsAt H ps0 ∧
  ∀ (ps : List (Addr × (Str × Int))) (p : Addr), ps.Perm ps0 → SrtO.Srtd ltSI (ps.map (·.2)) → H p = none → Q (.ref p) (upd H p (.lst (ps.map fun z => V.ref z.1)))
theorem cr_sortedSI : CallR X (.builtin "sorted") (rSortedSI X.K) := by
  intro pins s σ H xs us Q I r q
  obtain ⟨a, ps0, rfl, hs, hA, q⟩ := q
  obtain ⟨its, rv, hl, hz⟩ := I.list hs
  obtain ⟨u, rfl, ru⟩ := vals1 r
  obtain rfl : u = Value.ref a := ru
  have eb : its = ps0.map fun z => Value.ref z.1 := by
    have h1 : ∀ {ps : List (Addr × (Str × Int))} {us : List Value}, Vals (ps.map fun z => V.ref z.1) us → us = ps.map fun z => Value.ref z.1 := by
      intro ps
      induction ps with
      | nil => intro us h; cases h; rfl
      | cons z ps ih =>
        intro us h
        rw [List.map_cons] at h
        cases h with
        | cons h t => rw [ih t, List.map_cons, show _ = Value.ref z.1 from h]
    exact h1 rv
  have hsi : ∀ v ∈ its, IsSI s.heap v (siOf s.heap v) := fun v hv => by
    rw [eb] at hv
    obtain ⟨zz, hz, rfl⟩ := List.mem_map.mp hv
    have q := isSI_of I.hok (hA zz hz)
    rw [q.of]; exact q
  refine SrtO.sorted_ord (ltv := fun v u => ltSI (siOf s.heap v) (siOf s.heap u)) (swo_SI (siOf s.heap)) hl.isList (by rw [← rv.length]; exact hz) (fun h2 h₁ a' ha' kk => ?_) fun out h1 h2 => ?_
  · refine si_sortable (s := { s with heap := h₁ }) (by omega) (fun v hm => (hsi v hm).keeps fun b o e _ => (kk b o e).2) fun o e => ?_
    have e' : some o = some (seqObj "list" its.toArray 0) := e.symm.trans ha'
    cases e'
    intro c
    exact absurd (Value.type.inj c) (by decide)
  · obtain ⟨ps, b1, b2⟩ := perm_lift (fun z : Addr × (Str × Int) => Value.ref z.1) h2.perm ps0 eb.symm
    have hk2 : ∀ z ∈ ps, siOf s.heap (Value.ref z.1) = z.2 := fun z hz => (isSI_of I.hok (hA z (b1.mem_iff.mp hz))).of
    have hsr : SrtO.Srtd ltSI (ps.map (·.2)) := by
      rw [← b2] at h1
      have h1' := List.pairwise_map.mp h1
      refine List.pairwise_map.mpr (h1'.imp_of_mem fun {x y} hx hy hh => ?_)
      have hh' : ltSI (siOf s.heap (Value.ref y.1)) (siOf s.heap (Value.ref x.1)) = false := hh
      rw [hk2 x hx, hk2 y hy] at hh'
      exact hh'
    have hd : s.heap.objs.size ≤ s.heap.objs.size + 1 := Nat.le_succ _
    obtain ⟨n, hn⟩ := sortedAll_at s.heap its out.toArray
    refine ⟨.ref (s.heap.objs.size + 1), upd H (s.heap.objs.size + 1) (.lst (ps.map fun z => V.ref z.1)), I.laid (t' := s.toks) (fun b o e => sortedAll_old e) hd ⟨?_, out, n, ?_, hn⟩, rfl, q ps _ b1 hsr (I.hok.fresh hd)⟩
    · rw [List.length_map] at hz ⊢; rw [b1.length_eq]; exact hz
    · rw [← b2]
      have := vals_refs (ps.map (·.1))
      rw [List.map_map, List.map_map] at this
      exact this
end
end Bd
namespace Rb
open PySem PySem.Spec PyProof.Rows L2 Bd
section
variable {X : Cx} {K : PySem.W.Frag}
theorem ix_listK (h : X.K = K) : IxR X (rIxL K) := h ▸ ix_list
theorem ix_tupK (h : X.K = K) : IxR X (rIxT K) := h ▸ ix_tup
theorem op_eqDK (h : X.K = K) (hu : X.A.units + 64 < cLine) : OpR X (compareOp .Eq) (rEqD K) := h ▸ op_eqD hu
end
end Rb
namespace Rb
theorem units65 {k : Nat} {A : PySem.Around} (hr : L2.Room k A) : A.units + 65 < PySem.cLine := by have := hr.un; omega
end Rb
namespace Bd
open PySem PySem.Spec PyProof.Rows L2
theorem encR_eqv (e : Ast × Int) : PyData.eqv (encR e) (encR e) = true := by simp [encR, PyData.eqv, PyData.eqvAll]
theorem encR_eqvAll : ∀ N : List (Ast × Int), PyData.eqvAll (N.map encR) (N.map encR) = true
  | [] => by simp [PyData.eqvAll]
  | e :: N => by simp [PyData.eqvAll, encR_eqv e, encR_eqvAll N]
def OkA (p : Ast) : Prop := PyData.strOk p.1 = true
def OkR (R : List (Ast × Int)) : Prop := ∀ e ∈ R, OkA e.1
theorem strOk_S {l : List Nat} (h : ∀ c ∈ l, c < 1114112) : PyData.strOk (Rd.S l) = true := by
  unfold PyData.strOk Rd.S
  simpa using h
theorem strOk_app {x y : Str} (h1 : PyData.strOk x = true) (h2 : PyData.strOk y = true) : PyData.strOk (x ++ y) = true := by
  rw [Rd.S_of x] at h1 ⊢
  rw [Rd.S_of y] at h2 ⊢
  rw [Rd.S_app]
  unfold PyData.strOk Rd.S at *
  simp only [List.all_toArray, List.all_append, Bool.and_eq_true] at *
  exact ⟨h1, h2⟩
theorem OkR.of_tot {R N : List (Ast × Int)} (h : OkR R) (hn : Nrm N) (ht : ∀ p, tot N p = tot R p) : OkR N := fun e he => by
  have h1 : e.1 ∈ R.map (·.1) := by
    rcases Classical.em (e.1 ∈ R.map (·.1)) with z | z
    · exact z
    · have := tot_at hn.nd he
      rw [ht, tot_none z] at this
      exact absurd this.symm (hn.nz e he)
  obtain ⟨f, hf, ef⟩ := List.mem_map.mp h1
  rw [← ef]; exact h f hf
theorem encR_lay : ∀ N : List (Ast × Int), OkR N → PyData.canLayAll0 (N.map encR) = true
  | [], _ => by simp [PyData.canLayAll0]
  | e :: N, h => by
    have h1 : PyData.strOk e.1.1 = true := h e (List.mem_cons_self ..)
    simp [PyData.canLayAll0, PyData.canLay0, encR, encR_lay N fun x hx => h x (List.mem_cons_of_mem _ hx), h1]
theorem encR_depth : ∀ N : List (Ast × Int), PyData.depthAll (N.map encR) ≤ 2
  | [] => by simp [PyData.depthAll]
  | e :: N => by
    have := encR_depth N
    simp only [List.map_cons, PyData.depthAll]
    refine Nat.max_le.mpr ⟨?_, this⟩
    simp [encR, PyData.depth, PyData.depthAll]
theorem encR_shaped {N : List (Ast × Int)} (h : OkR N) : SeqAt.shaped (.tuple (N.map encR)) = true := by
  have := encR_depth N
  unfold SeqAt.shaped
  simp only [PyData.canLay0, encR_lay N h, PyData.depth, Bool.true_and]
  exact decide_eq_true (by omega)
def encA (p : Ast) : PyData := .tuple [.str p.1, .int p.2]
theorem encA_eqv (p q : Ast) : PyData.eqv (encA p) (encA q) = decide (p = q) := by
  have : (p = q) ↔ (p.1 = q.1 ∧ p.2 = q.2) := ⟨fun h => by rw [h]; exact ⟨rfl, rfl⟩, fun h => Prod.ext h.1 h.2⟩
  simp only [encA, PyData.eqv, PyData.eqvAll, Bool.and_true]
  rw [Bool.eq_iff_iff]
  simp [this]
theorem encA_shaped {p : Ast} (h : OkA p) : SeqAt.shaped (encA p) = true := by
  have h' : PyData.strOk p.1 = true := h
  unfold SeqAt.shaped
  simp [encA, PyData.canLay0, PyData.canLayAll0, PyData.depth, PyData.depthAll, h']
theorem encA_lay : ∀ N : List Ast, (∀ p ∈ N, OkA p) → PyData.canLayAll0 (N.map encA) = true
  | [], _ => by simp [PyData.canLayAll0]
  | e :: N, h => by
    have h1 : PyData.strOk e.1 = true := h e (List.mem_cons_self ..)
    simp [PyData.canLayAll0, PyData.canLay0, encA, encA_lay N fun x hx => h x (List.mem_cons_of_mem _ hx), h1]
theorem encA_depth : ∀ N : List Ast, PyData.depthAll (N.map encA) ≤ 1
  | [] => by simp [PyData.depthAll]
  | e :: N => by
    have := encA_depth N
    simp only [List.map_cons, PyData.depthAll]
    refine Nat.max_le.mpr ⟨?_, this⟩
    simp [encA, PyData.depth, PyData.depthAll]
theorem encAs_shaped {N : List Ast} (h : ∀ p ∈ N, OkA p) : SeqAt.shaped (.list (N.map encA)) = true := by
  have := encA_depth N
  unfold SeqAt.shaped
  simp only [PyData.canLay0, encA_lay N h, PyData.depth, Bool.true_and]
  exact decide_eq_true (by omega)
theorem encA_any (N : List Ast) (p : Ast) : ((N.map encA).any fun z => PyData.eqv z (encA p)) = decide (p ∈ N) := by
  induction N with
  | nil => rfl
  | cons e N ih =>
    rw [List.map_cons, List.any_cons, ih, encA_eqv]
    by_cases h : e = p
    · subst h
      rw [decide_eq_true rfl, Bool.true_or]
      exact (decide_eq_true (List.mem_cons_self ..)).symm
    · rw [decide_eq_false h, Bool.false_or]
      by_cases y : p ∈ N
      · rw [decide_eq_true y, decide_eq_true (List.mem_cons_of_mem _ y)]
      · rw [decide_eq_false y, decide_eq_false fun z => (List.mem_cons.mp z).elim (fun q => h q.symm) y]
theorem asAt_dp {K : PySem.W.Frag} {H : Hp} : ∀ {ps : List (Addr × Ast)}, AsAt H ps → DpAll K H (ps.map fun z => V.ref z.1) ((ps.map (·.2)).map encA)
  | [], _ => .nil
  | z :: ps, h => .cons (.tup (SqT.of (h z (List.mem_cons_self ..))) (.cons (.str _) (.cons (.int _) .nil))) (asAt_dp fun y hy => h y (List.mem_cons_of_mem _ hy))
end Bd
namespace Bd
open PySem PySem.Spec PyProof.Rows L2
theorem tot_take {R : List (Ast × Int)} {i : Nat} {p' : Ast} {q : Int} (h : R[i]? = some (p', q)) (p : Ast) : tot (R.take (i + 1)) p = tot (R.take i) p + (if p' = p then q else 0) := by
  rw [List.take_add_one, h, tot_append]
  simp [tot]
end Bd
namespace Rb
open PySem PySem.Spec PyProof.Rows L2 Bd
section
variable {K : PySem.W.Frag} {σ : L2.St} {H : Hp} {Q : VK}
/-- [q for row in rows if row[0] == asset]: the quantities of one asset -/
theorem lcTest {a : Addr} {xs : List V} {g : TG} {tt : TT} {te : TE} {vs : List Nat} (Pv : Nat → List Int → Prop) (h : SqL K H a xs) (hz : xs.length ≤ 100000) (h0 : Pv 0 [])
    (hs : ∀ (i : Nat) (x : V) (qs : List Int) (D : Addr) (H' : Hp) (R : Hp → Prop), H D = none → Same H H' → xs[i]? = some x → qs.length ≤ i → H' D = some (.lst (qs.map V.int)) → Pv i qs → (∀ q, Pv (i + 1) (qs ++ [q]) → R (upd H' D (.lst (qs.map V.int ++ [.int q])))) → (Pv (i + 1) qs → R H') →
      g x (wipe σ vs) H' fun σ2 H2 => wipe σ2 vs = wipe σ vs ∧ tt σ2 H2 fun b H3 => if b = true then te σ2 H3 fun y H4 => ∃ acc, H4 D = some (.lst acc) ∧ acc.length < sizeLine ∧ R (upd H4 D (.lst (acc ++ [y]))) else R H3)
    (hd : ∀ D qs H', H D = none → Same H H' → H' D = some (.lst (qs.map V.int)) → Pv xs.length qs → Q (.ref D) H') :
    ∃ p, V.ref a = .ref p ∧ (∃ ys, SqL K H p ys) ∧ Rd.LcJ g tt te vs σ Q (Itl K p) H := by
  refine ⟨a, rfl, ⟨_, h⟩, fun D hD => ?_⟩
  refine lc_list (xs := xs) (fun i H' => ∃ qs : List Int, Same H H' ∧ qs.length ≤ i ∧ H' D = some (.lst (qs.map V.int)) ∧ Pv i qs) ⟨[], Rd.same_new hD, Nat.le_refl _, upd_same, h0⟩ (fun i H' _ ⟨_, s, _⟩ => s.seq h) ?_ ?_
  · rintro i x H' hi ⟨qs, s, e, hD', p⟩
    refine hs i x qs D H' _ hD s hi e hD' p (fun q pq => ⟨qs ++ [q], Rd.same_mut s hD, by rw [List.length_append]; simp; omega, by rw [upd_same, List.map_append]; rfl, pq⟩) fun p' => ⟨qs, s, by omega, hD', p'⟩
  · rintro H' ⟨qs, s, e, hD', p⟩
    exact hd D qs H' hD s hD' p
end
end Rb
namespace Bd
open PySem PySem.Spec PyProof.Rows L2
theorem nd_len : ∀ {A B : List Ast}, A.Nodup → (∀ x ∈ A, x ∈ B) → A.length ≤ B.length
  | [], _, _, _ => Nat.zero_le _
  | a :: A, B, h, s => by
    rw [List.nodup_cons] at h
    have ha := s a (List.mem_cons_self ..)
    have h2 := nd_len (A := A) (B := B.erase a) h.2 fun x hx => (List.mem_erase_of_ne fun e => h.1 (by rw [← e]; exact hx)).mpr (s x (List.mem_cons_of_mem _ hx))
    have h3 := List.length_erase_of_mem ha
    have h4 : 0 < B.length := List.length_pos_of_mem ha
    rw [List.length_cons]
    omega
theorem Nrm.len {N R : List (Ast × Int)} (h : Nrm N) (ht : ∀ p, tot N p = tot R p) : N.length ≤ R.length := by
  have := nd_len h.nd (B := R.map (·.1)) fun x hx => by
    rcases Classical.em (x ∈ R.map (·.1)) with z | z
    · exact z
    · exact absurd (by rw [ht, tot_none z]) ((h.key x).mp hx)
  simpa using this
theorem OkR.append {R S : List (Ast × Int)} (h : OkR R) (k : OkR S) : OkR (R ++ S) := fun e he => (List.mem_append.mp he).elim (h e) (k e)
theorem OkR.neg {R : List (Ast × Int)} (h : OkR R) : OkR (R.map fun e => (e.1, -e.2)) := fun e he => by
  obtain ⟨f, hf, rfl⟩ := List.mem_map.mp he
  exact h f hf
end Bd

set_option Elab.async false
set_option linter.all false
set_option maxRecDepth 100000
set_option maxHeartbeats 4000000
/-! x != y by the object's own __ne__, which asks an own __eq__. -/
namespace Bd
open PySem PySem.W PySem.Calls PyProof.Rows
section
variable {prog : Program} {w : World} {A : Around} {E : Value → Shared → Prop} {s : Shared} {K : Frag} {x y C L f : Addr} {h₀ : Heap} {m : Str → Option Value} {ox oy : Obj} {od od' : Option Obj}
theorem ne_check {M : Model} {rest : List Value} {Q : Unit → Shared → Prop} (X : K.In s.heap) (I : InstAt s.heap x ox C od) (hso : subIn K (.ref C) (.type "object") = some true) (ha : argsOk "object.__ne__" ⟨.ref x :: rest, []⟩) (hq : Q () s) :
    wpAny M A (checkBuiltinCall "object.__ne__" ⟨.ref x :: rest, []⟩) Q E s := by
  simp only [checkBuiltinCall, PySem.F.cmpKind_ne, PySem.F.cmpSplit_ne]
  refine wpAny_bind ?_
  unfold isInstance
  refine wpAny_bind (I.type.here ?_)
  refine (looks_subIn X hso).here ?_
  cases hsig : Manifest.signature? "object.__ne__" with
  | none => 
    repeat (first | exact hq | wp_step)
  | some sig =>
    simp only [argsOk, hsig] at ha
    have h2 : Bind.checkArgs "object.__ne__" sig ⟨.ref x :: rest, []⟩ = pure () := ha
    simp only [if_true]
    rw [h2]
    repeat (first | exact hq | exact wpAny_pure hq | wp_step)
theorem ne_entry {Q : Fin → Shared → Prop} (X : K.In s.heap) (I : InstAt s.heap x ox C od) (hu : A.units < cLine) (hs : findIn K (.ref C) "__eq__" = some (some (.ref f))) (hf : isFn K (.ref f) = true)
    (hcall : wpAny (model prog w) A (call (.ref f) [.ref x, .ref y]) (fun v s' => ∃ b, v = .bool b ∧ Q (.done (.ret (.bool (!b)))) s') E s) :
    wpAny (model prog w) A (Builtin.«object.__ne__» ⟨[.ref x, .ref y], []⟩) Q E s := by
  unfold Builtin.«object.__ne__»
  repeat (first
    | with_reducible refine wpAny_cRoomFor hu ?_
    | (refine wpAny_bind (m := callSpecialIfBound? (.ref x) (Str.ofString "__eq__") [.ref y])
        (ifBound_K X I hs hf (wpAny_mono hcall (fun r s' hr => by
          obtain ⟨b, rfl, hq⟩ := hr
          repeat (first | exact hq | exact wpAny_pure hq | exact wpAny_truthy_bool hq | (refine wpAny_bind (m := truthy (.bool _)) (wpAny_truthy_bool ?_)) | wp_step)) fun _ _ e => e)))
    | wp_step)
theorem ne_K {Q : Value → Shared → Prop} (hu : A.units + 1 < cLine) (F : Fr h₀ L s.heap m) (X₀ : K.In h₀) (I : InstAt s.heap x ox C od) (J : InstAt s.heap y oy C od')
    (hne : findIn K (.ref C) "__ne__" = some (some (.builtin "object.__ne__"))) (hso : subIn K (.ref C) (.type "object") = some true)
    (hs : findIn K (.ref C) "__eq__" = some (some (.ref f))) (hf : isFn K (.ref f) = true)
    (h : wpAny (model prog w) A.in1 (call (.ref f) [.ref x, .ref y]) (fun v s' => ∃ b, v = .bool b ∧ Q (.bool (!b)) s') E s) :
    wpAny (model prog w) A (richCompare .NotEq (.ref x) (.ref y)) Q E s := by
  have X := X₀.keeps F.keep
  have bd : bindSpecial (.builtin "object.__ne__") (.ref x) = pure (.builtin "object.__ne__", [.ref x]) := PySem.F.cmp_object.ne.bind _
  have cl : wpAny (model prog w) A (call (.builtin "object.__ne__") [.ref x, .ref y]) (fun v s' => ∃ b, v = .bool b ∧ Q (.bool b) s') E s := by
    refine wpAny_call (codeAny_call_builtin PySem.F.cmp_object.ne.plain PySem.F.cmpEntry_ne (ne_check X I hso (PySem.F.cmpArgs_ne _ _) (ne_entry (A := A.in1) X I hu hs hf (wpAny_mono h (fun v s' hv => ?_) fun _ _ e => e))))
    obtain ⟨b, rfl, hq⟩ := hv
    exact ⟨b, rfl, _, rfl, hq⟩
  have one : wpAny (model prog w) A (tryCompare (.ref x) "__ne__" (.ref y)) (fun r s' => ∃ v, r = some v ∧ Q v s') E s := by
    unfold tryCompare
    refine wpAny_bind (Q := _) ?_
    simp only [callSpecialIfBound?, bindSpecialIfBound?]
    refine wpAny_holding (wpAny_bind (wpAny_bind (wpAny_bind (I.type.here ((looks_findIn X hne).here ?_)))))
    simp only [bd]
    refine wpAny_bind (wpAny_askSetting (wpAny_ite ?_))
    have fin : wpAny (model prog w) A (call (.builtin "object.__ne__") ([.ref x] ++ [.ref y]) >>= fun v => pure (some v)) (fun r s' => wpAny (model prog w) A (match r with | some .notImplemented | none => pure none | some r => pure (some r)) (fun r s' => ∃ v, r = some v ∧ Q v s') E s') E s :=
      wpAny_bind (wpAny_mono cl (fun v s' h' => by
        obtain ⟨b, rfl, hq⟩ := h'
        exact wpAny_pure (wpAny_pure ⟨_, rfl, hq⟩)) fun _ _ h' => h')
    split
    · exact wpAny_bind (wpAny_pure (wpAny_pure fin))
    · exact wpAny_tryCatch (wpAny_bind (wpAny_pure (wpAny_pure fin)))
  unfold richCompare
  simp only [oneThing_ref]
  refine wpAny_holding (wpAny_bind (wpAny_cRoomFor (Nat.lt_of_succ_lt hu) ?_))
  rw [cmpInfo_NotEq]
  dsimp only
  refine wpAny_bind (I.type.here (wpAny_bind (J.type.here ?_)))
  rw [show (Value.ref C != Value.ref C) = false from by simp]
  simp only [Bool.false_eq_true, if_false]
  refine wpAny_bind (wpAny_pure ?_)
  simp only [Bool.false_eq_true, if_false]
  refine wpAny_bind (wpAny_mono one (fun r s' z => ?_) fun _ _ e => e)
  obtain ⟨v, rfl, hq⟩ := z
  exact wpAny_pure hq
end
end Bd
namespace Bd
open PySem PySem.Spec PyProof.Rows L2
section
variable {X : Cx} {pins : List (Addr × Obj)} {σ : L2.St} {H : Hp} {s : Shared} {CT : CXT} {n : Nat} {C f : Addr} {fd : FuncData} {ps : List Str} {sp : Sp} {E : XK}
theorem call_def1 {vs : List V} {us : List Value} {Q : VK} (F : FnOk X.prog X.w X.K X.mg X.base CT n f fd ps sp) (hb : Binds X.K fd ps []) (hx : Passes CT X E) (hr : Room n X.A.in1) (I : Inv X pins σ H s) (r : Vals vs us) (hsp : sp vs H Q E) :
    wpAny (model X.prog X.w) X.A.in1 (call (.ref f) us) (EP X pins σ Q) X.xe s := by
  have hl := F.len _ _ _ _ hsp
  have hu : us.length = ps.length := by rw [← r.length]; exact hl
  refine wpAny_call (codeAny_mono (F.run X.A.in1 X.stack s H ⟨us, []⟩ us vs Q E hr I.env0.in1 (by
    have := hb s us I.kIn (by simpa using hu)
    simpa using this) r hsp) fun z s' hq => ?_)
  cases z with
  | error e => exact hx pins σ H s e s' I hq
  | ok fl =>
    cases fl with
    | ret w => exact I.after hq
    | next => exact False.elim hq
    | brk => exact False.elim hq
    | cont => exact False.elim hq
/-- x != y, both of the class at C -/
def rNeOwn (C : Addr) (sp : Sp) (E : XK) : R2 := fun x y H Q => ∃ a b dx dy fs gs, x = .ref a ∧ y = .ref b ∧ H a = some (.ins C dx fs) ∧ H b = some (.ins C dy gs) ∧ sp [.ref a, .ref b] H (fun v H' => ∃ t, v = .bl t ∧ Q (.bl (!t)) H') E
theorem op_neOwn (F : FnOk X.prog X.w X.K X.mg X.base CT n f fd ps sp) (hne : PySem.W.findIn X.K (.ref C) "__ne__" = some (some (.builtin "object.__ne__"))) (hso : PySem.W.subIn X.K (.ref C) (.type "object") = some true)
    (hs : PySem.W.findIn X.K (.ref C) "__eq__" = some (some (.ref f))) (hf : PySem.W.isFn X.K (.ref f) = true)
    (hb : Binds X.K fd ps []) (hx : Passes CT X E) (hr : Room (n + 1) X.A) : OpR X (compareOp .NotEq) (rNeOwn C sp E) := by
  intro pins s σ H x y v u Q I rx ry h
  obtain ⟨a, b, dx, dy, fs, gs, rfl, rfl, ha, hb', hsp⟩ := h
  obtain rfl : v = Value.ref a := rx
  obtain rfl : u = Value.ref b := ry
  obtain ⟨mA, J, _⟩ := ins_get I.hok ha
  obtain ⟨mB, J', _⟩ := ins_get I.hok hb'
  obtain ⟨od, J, _⟩ := J.look
  obtain ⟨od', J', _⟩ := J'.look
  obtain ⟨m, hF⟩ := I.fr
  show wpAny (model X.prog X.w) X.A (richCompare .NotEq (.ref a) (.ref b)) _ _ _
  refine ne_K (by have := hr.un; omega) hF I.ok.mod.kin J J' hne hso hs hf ?_
  refine wpAny_mono (call_def1 F hb hx hr.in1 I (vs := [.ref a, .ref b]) (.cons rfl (.cons rfl .nil)) hsp) (fun z s' q => ?_) fun _ _ e => e
  obtain ⟨v, H', I', r, t, rfl, q⟩ := q
  exact ⟨t, r, .bl (!t), H', I', rfl, q⟩
end
end Bd
namespace Rb
open PySem PySem.Spec PyProof.Rows L2 Bd
section
variable {K : PySem.W.Frag} {H : Hp} {Q : VK} {E : XK}
theorem own3 {C a b : Addr} {sp : Sp} (ha : ∃ dx fs, H a = some (.ins C dx fs)) (hb : ∃ dx fs, H b = some (.ins C dx fs)) (k : sp [.ref a, .ref b] H (fun v H' => ∃ t, v = .bl t ∧ Q (.bl (!t)) H') E) : rNeOwn C sp E (.ref a) (.ref b) H Q := by
  obtain ⟨dx, fs, ha⟩ := ha
  obtain ⟨dy, gs, hb⟩ := hb
  exact ⟨a, b, dx, dy, fs, gs, rfl, rfl, ha, hb, k⟩
end
end Rb
namespace Bd
open PySem PySem.Spec PyProof.Rows L2
/-- an empty tuple that stands with the classes -/
def emptyT (K : PySem.W.Frag) (a : Addr) : Bool := match K.lookup a with
  | some o => decide (o.cls = .type "tuple") && (o.dict.isNone && (match o.data with
    | .seq its _ => its.isEmpty
    | _ => false))
  | none => false
theorem emptyT_ok {K : PySem.W.Frag} {a : Addr} (h : emptyT K a = true) (H : Hp) : SqT K H a [] := by
  unfold emptyT at h
  split at h
  · rename_i o e
    rw [Bool.and_eq_true, Bool.and_eq_true] at h
    obtain ⟨h1, h2, h3⟩ := h
    split at h3
    · rename_i its n hd
      have e0 : its = #[] := by simpa using h3
      subst e0
      exact .inr ⟨o, #[], n, e, of_decide_eq_true h1, hd, by decide, .nil⟩
    · cases h3
  · cases h
def clsN : Str := "__class__"
def exE (K : PySem.W.Frag) (C : Addr) : Bool :=
  He.eqO (PySem.W.findIn K (.ref C) "__class__") (some (some (.builtin "object.__class__"))) &&
  (decide (PySem.W.specialIn K (.builtin "object.__class__") "__get__" = some (some (.builtin "getset_descriptor.__get__"))) &&
  (decide (PySem.W.takesIn K (.builtin "object.__class__") = some true) &&
  (decide (PySem.W.mroIn K C (.type "object") = some true) &&
  (decide (PySem.W.kitOne K (.ref C) (.ref C) = some true) &&
  (He.eqO (PySem.W.findIn K (.ref C) "__ne__") (some (some (.builtin "object.__ne__"))) &&
  (decide (PySem.W.subIn K (.ref C) (.type "object") = some true)))))))
/-- more of what is told of the class -/
structure BQ (K : PySem.W.Frag) (mg : Str → Option Value) : Prop where
  b : BFacts K mg
  isc : C8.InsC K (He.ga K "Bundle")
  ne : PySem.W.findIn K (.ref (He.ga K "Bundle")) "__ne__" = some (some (.builtin "object.__ne__"))
  ob : PySem.W.subIn K (.ref (He.ga K "Bundle")) (.type "object") = some true
  at_Bundle___eq : PySem.W.findIn K (.ref (He.ga K "Bundle")) "__eq__" = some (some (.ref (He.fAd K ("Bundle", some "__eq__"))))
  fn_Bundle___eq : PySem.W.isFn K (.ref (He.fAd K ("Bundle", some "__eq__"))) = true
  dfl : ∀ H, SqT K H (He.dflAt ("Bundle", some "__init__") 0 K) []
theorem BQ.mk' {K : PySem.W.Frag} {mg : Str → Option Value} (b : BFacts K mg) (h : exE K (He.ga K "Bundle") = true) (ha : PySem.W.findIn K (.ref (He.ga K "Bundle")) "__eq__" = some (some (.ref (He.fAd K ("Bundle", some "__eq__")))))
    (hf : PySem.W.isFn K (.ref (He.fAd K ("Bundle", some "__eq__"))) = true) (hd : emptyT K (He.dflAt ("Bundle", some "__init__") 0 K) = true) : BQ K mg := by
  unfold exE at h
  simp only [Bool.and_eq_true] at h
  obtain ⟨h1, h2, h3, h4, h5, h6, h7⟩ := h
  exact ⟨b, ⟨b.cls, He.eqO_ok h1, of_decide_eq_true h2, of_decide_eq_true h3, of_decide_eq_true h4, of_decide_eq_true h5⟩, He.eqO_ok h6, of_decide_eq_true h7, ha, hf, emptyT_ok hd⟩
theorem cut_drop {xs : List V} {k : Nat} (h : k ≤ xs.length) : cutV xs (some (k : Int)) none = xs.drop k := by
  unfold cutV
  have e1 : HT.sIx xs.length 0 (some (k : Int)) = k := by rw [HT.sIx_nat]; exact Nat.min_eq_left h
  have e2 : HT.sIx xs.length xs.length none = xs.length := by simp [HT.sIx]
  rw [e1, e2]
  exact List.take_of_length_le (by rw [List.length_drop]; omega)
end Bd

set_option Elab.async false
set_option linter.all false
set_option maxRecDepth 100000
set_option maxHeartbeats 4000000
/-! The rows of a bundle that are above nothing. -/
namespace Bd
open PySem PySem.Spec PyProof.Rows L2
def posF (D : List (Ast × Int)) : List (Ast × Int) := D.filter fun e => decide (0 < e.2)
variable {D : List (Ast × Int)}
theorem posF_nrm (h : Nrm D) : Nrm (posF D) := ⟨List.Pairwise.filter _ h.srt, (List.filter_sublist.map _).nodup h.nd, fun e he => h.nz e (List.mem_filter.mp he).1⟩
theorem posF_tot (h : Nrm D) (p : Ast) : tot (posF D) p = if 0 < tot D p then tot D p else 0 := by
  by_cases m : p ∈ (posF D).map (·.1)
  · obtain ⟨e, he, rfl⟩ := List.mem_map.mp m
    have h1 := List.mem_filter.mp he
    have h2 := of_decide_eq_true h1.2
    rw [tot_at (posF_nrm h).nd he, tot_at h.nd h1.1, if_pos h2]
  · rw [tot_none m]
    split
    · rename_i q
      have : p ∈ D.map (·.1) := (h.key p).mpr (by omega)
      obtain ⟨e, he, rfl⟩ := List.mem_map.mp this
      rw [tot_at h.nd he] at q
      exact absurd (List.mem_map_of_mem (f := (·.1)) (List.mem_filter.mpr ⟨he, decide_eq_true q⟩)) m
    · rfl
theorem posF_take {i : Nat} {e : Ast × Int} (h : D[i]? = some e) : posF (D.take (i + 1)) = posF (D.take i) ++ (if 0 < e.2 then [e] else []) := by
  unfold posF
  rw [List.take_add_one, h, List.filter_append]
  by_cases q : 0 < e.2 <;> simp [q]
theorem posF_len (D : List (Ast × Int)) : (posF D).length ≤ D.length := List.length_filter_le _ _
theorem posF_ok (h : OkR D) : OkR (posF D) := fun e he => h e (List.mem_filter.mp he).1
theorem posF_nil (h : Nrm D) : posF D = [] ↔ ∀ p, tot D p ≤ 0 := by
  constructor
  · intro e p
    have := posF_tot h p
    rw [e, show tot [] p = 0 from rfl] at this
    split at this <;> omega
  · intro q
    refine List.filter_eq_nil_iff.mpr fun e he => ?_
    have := q e.1
    rw [tot_at h.nd he] at this
    simp; omega
theorem allPos {L N M : List (Ast × Int)} (nm : Nrm L) (ht : ∀ p, tot L p = tot N p - tot M p) : (L.map fun e => decide (e.2 > 0)).all id = true ↔ ∀ p, tot M p ≤ tot N p := by
  rw [List.all_eq_true]
  constructor
  · intro h p
    have := ht p
    by_cases m : p ∈ L.map (·.1)
    · obtain ⟨e, he, rfl⟩ := List.mem_map.mp m
      have h1 := of_decide_eq_true (h _ (List.mem_map_of_mem (f := fun e : Ast × Int => decide (e.2 > 0)) he))
      rw [tot_at nm.nd he] at this
      omega
    · rw [tot_none m] at this; omega
  · intro h b hb
    obtain ⟨e, he, rfl⟩ := List.mem_map.mp hb
    have h1 := ht e.1
    rw [tot_at nm.nd he] at h1
    have h2 := nm.nz e he
    have h3 := h e.1
    exact decide_eq_true (by omega)
end Bd
namespace Rb
open PySem PySem.Spec PyProof.Rows L2 Bd
section
variable {K : PySem.W.Frag} {σ : L2.St} {H : Hp} {Q : VK}
theorem asgG {te : TE} {g : TG} {n b c : L2.St → Hp → Prop} {r : VK} (k : te σ H fun x H1 => g x σ H1 n) : tAsg te g ⟨n, r, b, c⟩ σ H := k
/-- [.. for target in a tuple if ..] -/
theorem lcTestT {a : Addr} {xs : List V} {g : TG} {tt : TT} {te : TE} {vs : List Nat} (Pv : Addr → Nat → List V → Hp → Prop) (h : SqT K H a xs) (h0 : ∀ D H', H D = none → Same H H' → H' D = some (.lst []) → Pv D 0 [] H')
    (hs : ∀ (i : Nat) (x : V) (acc : List V) (D : Addr) (H' : Hp), H D = none → Same H H' → xs[i]? = some x → acc.length ≤ i → H' D = some (.lst acc) → Pv D i acc H' →
      g x (wipe σ vs) H' fun σ2 H2 => wipe σ2 vs = wipe σ vs ∧ tt σ2 H2 fun b H3 => if b = true then te σ2 H3 fun y H4 => ∃ acc, H4 D = some (.lst acc) ∧ acc.length < sizeLine ∧ (fun H5 => ∃ acc, Same H H5 ∧ acc.length ≤ i + 1 ∧ H5 D = some (.lst acc) ∧ Pv D (i + 1) acc H5) (upd H4 D (.lst (acc ++ [y])))
        else (fun H5 => ∃ acc, Same H H5 ∧ acc.length ≤ i + 1 ∧ H5 D = some (.lst acc) ∧ Pv D (i + 1) acc H5) H3)
    (hd : ∀ D acc H', H D = none → Same H H' → H' D = some (.lst acc) → acc.length ≤ xs.length → Pv D xs.length acc H' → Q (.ref D) H') :
    ∃ p, V.ref a = .ref p ∧ (∃ ys, SqT K H p ys) ∧ Rd.LcJ g tt te vs σ Q (Itt K p) H := by
  refine ⟨a, rfl, ⟨_, h⟩, fun D hD => ?_⟩
  refine lc_tup (xs := xs) (fun i H' => ∃ acc, Same H H' ∧ acc.length ≤ i ∧ H' D = some (.lst acc) ∧ Pv D i acc H') ⟨[], Rd.same_new hD, Nat.le_refl _, upd_same, h0 D _ hD (Rd.same_new hD) upd_same⟩ (fun i H' _ ⟨acc, s, _⟩ => Rd.same_tup s h) ?_ ?_
  · rintro i x H' hi ⟨acc, s, e, hD', p⟩
    exact hs i x acc D H' hD s hi e hD' p
  · rintro H' ⟨acc, s, e, hD', p⟩
    exact hd D acc H' hD s hD' e p
/-- one more row at the end of the list that is made -/
theorem rowE {H0 H' : Hp} {Dd t kq : Addr} {i : Nat} {acc : List V} {R : List (Ast × Int)} {p : Ast} {q : Int} (hD : H0 Dd = none) (hs : Same H0 H') (hDl : H' Dd = some (.lst acc)) (ht : H' t = none) (hl : acc.length ≤ i) (hi : i < 100000)
    (hrow : RowL H' acc R) (hk : H' kq = some (.tup [.str p.1, .int p.2])) (Pv : Addr → Nat → List V → Hp → Prop) (hp : ∀ acc' H5, RowL H5 acc' (R ++ [(p, q)]) → Pv Dd (i + 1) acc' H5) :
    ∃ acc', (upd H' t (.tup [.ref kq, .int q])) Dd = some (.lst acc') ∧ acc'.length < sizeLine ∧ (fun H5 => ∃ acc, Same H0 H5 ∧ acc.length ≤ i + 1 ∧ H5 Dd = some (.lst acc) ∧ Pv Dd (i + 1) acc H5) (upd (upd H' t (.tup [.ref kq, .int q])) Dd (.lst (acc' ++ [.ref t]))) := by
  have nDt : Dd ≠ t := fun y => by rw [← y, hDl] at ht; cases ht
  refine ⟨acc, (upd_ne nDt).trans hDl, Rd.smallT (by omega), acc ++ [.ref t], Rd.same_mut (hs.trans (Rd.same_new ht)) hD, by rw [List.length_append]; simp; omega, upd_same, hp _ _ ?_⟩
  refine (hrow.keepT fun y w hy => ?_).append (.cons (kq := kq) ?_ ?_ .nil)
  · exact (upd_ne fun e => by rw [e, hDl] at hy; cases hy).trans (Rd.same_new ht _ _ hy)
  · exact (upd_ne (Ne.symm nDt)).trans upd_same
  · exact (upd_ne fun e => by rw [e, hDl] at hk; cases hk).trans (Rd.same_new ht _ _ hk)
end
end Rb
namespace Rb
open PySem PySem.Spec PyProof.Rows L2 Bd
section
variable {K : PySem.W.Frag} {σ : L2.St} {H : Hp} {Q : VK} {E : XK}
theorem meth {C : Addr} {m : Str} {sp : Sp} {ta : TE} {t : TA} (k : ta σ H fun x H1 => ∃ a dx fs, x = .ref a ∧ H1 a = some (.ins C dx fs) ∧ fs.lookup m = none ∧ t σ H1 fun vs H2 => sp (x :: (vs ++ [])) H2 Q E) : tMeth C m sp [] E ta t σ H Q := k
theorem mth {b : Addr} {N : List (Ast × Int)} {R : Prop} (h : BdAt K H b N) (k : R) : ∃ a dx fs, V.ref b = .ref a ∧ H a = some (.ins (He.ga K "Bundle") dx fs) ∧ fs.lookup ("covers" : Str) = none ∧ R := by
  obtain ⟨dx, r, d, xs, h1, _⟩ := h
  exact ⟨b, dx, _, rfl, h1, rfl, k⟩
end
end Rb
namespace Bd
open PySem PySem.Spec PyProof.Rows L2
theorem encRl_shaped {N : List (Ast × Int)} (h : OkR N) : SeqAt.shaped (.list (N.map encR)) = true := by
  have := encR_depth N
  unfold SeqAt.shaped
  simp only [PyData.canLay0, encR_lay N h, PyData.depth, Bool.true_and]
  exact decide_eq_true (by omega)
theorem eqv_nil {N : List (Ast × Int)} {t : Bool} (h : t = true ↔ N = []) : PyData.eqv (.bool t) (.bool (PyData.eqv (.list (N.map encR)) (.list []))) = true := by
  cases N with
  | nil => rw [h.mpr rfl]; simp [PyData.eqv, PyData.eqvAll]
  | cons e N =>
    have : t = false := by cases t; rfl; exact absurd (h.mp rfl) (by simp)
    rw [this]; simp [PyData.eqv, PyData.eqvAll]
end Bd

set_option Elab.async false
set_option linter.all false
set_option maxRecDepth 100000
set_option maxHeartbeats 4000000
/-! xs.extend of a tuple; x == a tuple, by an own __eq__. -/
namespace Bd
open PySem PySem.SeqAt
open AutoSeq1 MeetsSeq MeetsSeq2 MeetsSeq3 SeqRoads2
theorem ext_tup (l : Addr) (items : Array Value) (n : Nat) (b : Addr) (o : Obj) (items2 : Array Value) (n2 : Nat) (hc : o.cls = .type "tuple") (hd : o.data = .seq items2 n2) (hs0 : ¬(!items.isEmpty && Builtin.List.listTooLong (items.size + items2.size)) = true) (hs1 : items.size ≤ sizeLine) (hs2 : items.size + items2.size ≤ sizeLine + 1) :
    Meets (Builtin.«list.extend» ⟨[.ref l, .ref b], []⟩) (fun _ R s => s.heap.get? l = some { cls := .type "list", dict := none, data := .seq items n, slots := #[] } ∧ s.heap.get? b = some o ∧ R (.ok (.ret Value.none)) { s with heap := s.heap.update l (Obj.mapSeq fun x => x ++ items2), toks := s.toks }) :=
  .of_wp fun prog w A R s h => by
    obtain ⟨oc, od, dt, sl⟩ := o
    cases hc
    cases hd
    obtain ⟨hp, g, d, tk, os⟩ := s; obtain ⟨hl, hb, h⟩ := h; have f1 := idx_int; have f2 := sub_tuple_tuple; have f3 := sub_list_list; have f4 := sub_tuple_list; have f5 := sub_list_tuple;
    have hz' : (items ++ items2).size ≤ sizeLine + 1 := by rw [Array.size_append]; exact hs2
    wp_walk using (wpAny_updateSeq hl rfl (hz := hs1) (_hz' := hz')), wpAny_loadPart' hl, wpAny_loadPart' hb; exact ⟨_, rfl, h⟩
end Bd
namespace Bd
open PySem PySem.Spec PyProof.Rows L2
section
variable {X : Cx}
/-- xs.extend(t), t a tuple of the heap -/
def rExtendT : V → List V → Hp → VK → Prop := fun x vs H Q => ∃ l b xs zs, x = .ref l ∧ vs = [.ref b] ∧ H l = some (.lst xs) ∧ H b = some (.tup zs) ∧ xs.length + zs.length ≤ sizeLine ∧ Q .non (upd H l (.lst (xs ++ zs)))
theorem mt_extendT : MtM X "list.extend" rExtendT := by
  intro pins s σ H x vs v us Q I rx rv h
  obtain ⟨l, b, xs, zs, rfl, rfl, hH, hB, hz, q⟩ := h
  cases rx
  obtain ⟨u, rfl, ru⟩ := rv.one
  cases ru
  obtain ⟨z, its, n, r, hl, e⟩ := I.lstM hH
  obtain ⟨_, its2, r2, o, ho, hc, n2, hd⟩ := (show ObjOk X.prog X.w H s.heap b (.tup zs) from I.hok b _ hB)
  have l2 := r2.length
  have hsz : its.toArray.size + its2.toArray.size ≤ sizeLine := by rw [List.size_toArray, List.size_toArray]; omega
  have hlong : ¬ (!its.toArray.isEmpty && Builtin.List.listTooLong (its.toArray.size + its2.toArray.size)) = true := by
    rw [notLongL hsz, Bool.and_false]
    exact Bool.false_ne_true
  refine call_meets F.slot_list_extend ⟨_, e, rfl⟩ F.entry_list_extend (F.args_list_extend_2 _ _)
    (ext_tup l its.toArray n b o its2.toArray n2 hc hd hlong (by rw [List.size_toArray]; omega) (by omega)) ⟨e, ho, ?_⟩
  refine ⟨.non, _, I.lset (its' := its ++ its2) hH e (by simp) (r.append r2) ?_, rfl, q⟩
  rw [List.length_append]
  omega
end
section
variable {X : Cx} {CT : CXT} {n : Nat} {C f : Addr} {fd : FuncData} {ps : List Str} {sp : Sp} {E : XK}
/-- x == t, x of the class at C, t a tuple of the heap -/
def rEqTup (C : Addr) (sp : Sp) (E : XK) : R2 := fun x y H Q => ∃ a b dx fs ys, x = .ref a ∧ y = .ref b ∧ H a = some (.ins C dx fs) ∧ H b = some (.tup ys) ∧ sp [.ref a, .ref b] H Q E
theorem op_eqTup (F : FnOk X.prog X.w X.K X.mg X.base CT n f fd ps sp) (hs : PySem.W.findIn X.K (.ref C) "__eq__" = some (some (.ref f))) (hf : PySem.W.isFn X.K (.ref f) = true) (hsub : PySem.W.subIn X.K (.type "tuple") (.ref C) = some false)
    (hb : Binds X.K fd ps []) (hx : Passes CT X E) (hr : Room n X.A) : OpR X (compareOp .Eq) (rEqTup C sp E) := by
  intro pins s σ H x y v u Q I rx ry h
  obtain ⟨a, b, dx, fs, ys, rfl, rfl, ha, hb', hsp⟩ := h
  obtain rfl : v = Value.ref a := rx
  obtain rfl : u = Value.ref b := ry
  obtain ⟨mA, J, _⟩ := ins_get I.hok ha
  obtain ⟨od, J, _⟩ := J.look
  obtain ⟨_, its, r, o, ho, hc, n, hd⟩ := (show ObjOk X.prog X.w H s.heap b (.tup ys) from I.hok b _ hb')
  obtain ⟨m, hF⟩ := I.fr
  show wpAny (model X.prog X.w) X.A (richCompare .Eq (.ref a) (.ref b)) _ _ _
  refine PySem.W.cmp_K (op := .Eq) (tb := .type "tuple") hr.units0 hF I.ok.mod.kin J (hc ▸ (PySem.W.Looks.ld ho).andThen .now) (by simp [PySem.W.notFirst, hsub]) hs hf ?_
  exact wpAny_mono (call_def F hb hx hr I (vs := [.ref a, .ref b]) (.cons rfl (.cons rfl .nil)) hsp) (fun _ _ h => back_ep h) fun _ _ e => e
end
end Bd
namespace Bd
open PySem PySem.Spec PyProof.Rows L2
theorem encR_eqv2 (e f : Ast × Int) : PyData.eqv (encR e) (encR f) = decide (e = f) := by
  have : (e = f) ↔ ((e.1.1 = f.1.1 ∧ e.1.2 = f.1.2) ∧ e.2 = f.2) := ⟨fun h => by rw [h]; exact ⟨⟨rfl, rfl⟩, rfl⟩, fun h => Prod.ext (Prod.ext h.1.1 h.1.2) h.2⟩
  simp only [encR, PyData.eqv, PyData.eqvAll, Bool.and_true]
  rw [Bool.eq_iff_iff]
  simp [this]
theorem encRs_eqv : ∀ (N M : List (Ast × Int)), PyData.eqv (.tuple (N.map encR)) (.tuple (M.map encR)) = decide (N = M)
  | [], [] => by simp [PyData.eqv, PyData.eqvAll]
  | [], f :: M => by simp [PyData.eqv, PyData.eqvAll]
  | e :: N, [] => by simp [PyData.eqv, PyData.eqvAll]
  | e :: N, f :: M => by
    have h := encRs_eqv N M
    simp only [PyData.eqv] at h ⊢
    simp only [List.map_cons, PyData.eqvAll, encR_eqv2, h]
    rw [Bool.eq_iff_iff]
    simp
end Bd
namespace Rb
open PySem PySem.Spec PyProof.Rows L2 Bd
theorem ext {K : PySem.W.Frag} {σ : L2.St} {H : Hp} {to : TE} {t : TA} {Q : VK} (k : to σ H fun x H1 => tyV K "list" x H1 ∧ t σ H1 fun xs H2 => rExtendT x xs H2 Q) : tBM K "list" rExtendT to t σ H Q := k
end Rb

set_option Elab.async false
set_option linter.all false
set_option maxRecDepth 100000
set_option maxHeartbeats 4000000
/-! iter of a tuple; for .. in an object of an own class, by its own __iter__ that gives a tuple's iterator. -/
namespace Bd
open PySem PySem.Spec PyProof.Rows L2
open Builtin Builtin.ObjectAttr
/-- at it an iterator over the tuple at t that has given nothing -/
def TtO (t it : Addr) : HO := .ext fun h => h.get? it = some { cls := .type "tuple_iterator", data := .fields #[.ref t, .int 0 0] }
theorem ttO_ok {P : Program} {w : World} {H : Hp} {h : Heap} {t it : Addr} (e : h.get? it = some { cls := .type "tuple_iterator", data := .fields #[.ref t, .int 0 0] }) : ObjOk P w H h it (TtO t it) := ⟨e, ⟨_, e⟩, fun _ _ q k => k _ q⟩
theorem call_iterTup {prog : Program} {w : World} {A : Around} {E : Value → Shared → Prop} {s : Shared} {t : Addr} {items : Array Value} {Q : Value → Shared → Prop} (ht : s.heap.IsTuple t items)
    (hQ : Q (.ref s.heap.objs.size) { s with heap := s.heap.push { cls := .type "tuple_iterator", data := .fields #[.ref t, .int 0 0] } }) : wpAny (model prog w) A (call (.builtin "iter") [.ref t]) Q E s := by
  refine PySem.Calls.call_function_entry (by decide +kernel) (by decide +kernel) PySem.W.kdk_entry_iter (PySem.W.kdk_args_iter _) ?_
  unfold PySem.Builtin.«iter»
  refine wpAny_bind (m := someArgs "iter" 1 2 _) (wpAny_of_eq (a := [Value.ref t]) (by first | rfl | kernel_rfl!) ?_)
  show wpAny _ _ (pyIter (.ref t) >>= _) _ _ _
  exact wpAny_bind (wpAny_pyIter_tuple ht (wpAny_pure ⟨_, rfl, hQ⟩))
def rIterT (K : PySem.W.Frag) : List V → Hp → VK → Prop := fun xs H Q => ∃ (t : Addr) (zs : List V), xs = [.ref t] ∧ SqT K H t zs ∧ ∀ it, H it = none → (∀ z o, H z = some o → z < it) → Q (.ref it) (upd H it (TtO t it))
/-- {}, and it is younger than the frame -/
def tDNewN (n : Nat) : TE := fun _ H Q => ∀ p, H p = none → n ≤ p → Q (.ref p) (upd H p (.dT []))
/-- list(xs), and it is younger than the frame -/
def rListN (K : PySem.W.Frag) (n : Nat) : List V → Hp → VK → Prop := fun xs H Q => ∃ p ys, xs = [.ref p] ∧ SqL K H p ys ∧ ∀ l, H l = none → n ≤ l → Q (.ref l) (upd H l (.lst ys))
section
variable {X : Cx}
theorem cr_iterT : CallR X (.builtin "iter") (rIterT X.K) := by
  intro pins s σ H xs us Q I r h
  obtain ⟨t, zs, rfl, hq, q⟩ := h
  obtain rfl := Vals.ref1 r
  obtain ⟨its, rv, p, hz⟩ := I.tuple hq
  refine call_iterTup (show s.heap.IsTuple t its.toArray from p) ?_
  refine ⟨.ref s.heap.objs.size, _, I.laid (t' := s.toks) (fun b u e => Heap.get?_push_of_some _ e) (Nat.le_refl _) (ttO_ok (Heap.get?_push_size _ rfl)), rfl, q _ (I.hok.fresh (Nat.le_refl _)) fun z o e => ?_⟩
  obtain ⟨u, hu⟩ := objOk_get (I.hok z o e)
  exact Heap.lt_size hu
theorem pe_dnewN {pos : Pos} : PE X (.Dict [] [] pos) (tDNewN X.s_0.heap.objs.size) := ⟨fun pins s σ H Q I h =>
  wpAny_Dict_empty ⟨.ref s.heap.objs.size, _, I.laid (a := s.heap.objs.size) (o := .dT []) (t' := s.toks) (fun _ _ q => Heap.get?_push_of_some _ q) (Nat.le_refl _) (dt_empty s.heap I.big), rfl, h _ (I.hok.fresh (Nat.le_refl _)) I.sz⟩⟩
theorem call_listN : CallR X (.type "list") (rListN X.K X.s_0.heap.objs.size) := by
  intro pins s σ H xs us Q I r h
  obtain ⟨p, ys, rfl, hq, q⟩ := h
  obtain ⟨u, rfl, rx⟩ := vals1 r
  cases rx
  obtain ⟨its, r', pl, hz⟩ := I.list hq
  have hlen := r'.length
  obtain ⟨o, ho, hc, n, hd⟩ := pl.isList
  refine call_list_seq p (.inl rfl) ho hc hd (fun h' c' kp e => ?_) (by simp only [List.size_toArray] <;> omega)
  exact ⟨.ref s.heap.objs.size, _, I.laid (t' := s.toks) kp (Nat.le_refl _) (show ObjOk X.prog X.w _ h' _ (.lst ys) from ⟨hz, its, c', r', e⟩), rfl, q _ (I.hok.fresh (Nat.le_refl _)) I.sz⟩
variable {pins : List (Addr × Obj)} {σ : L2.St} {H : Hp} {s : Shared} {CT : CXT} {n : Nat} {C f : Addr} {fd : FuncData} {ps : List Str} {sp : Sp} {E : XK} {tg e : Expr} {te : TE}
/-- e an object of the class at C, walked by its own __iter__ -/
def iOwn (K : PySem.W.Frag) (n : Nat) (C : Addr) (sp : Sp) (E : XK) (te : TE) : TI := fun σ H R => te σ H fun x H1 => ∃ a dx fs, x = .ref a ∧ H1 a = some (.ins C dx fs) ∧
  sp [.ref a] H1 (fun v H2 => ∃ it t xs, v = .ref it ∧ n ≤ it ∧ H2 it = some (TtO t it) ∧ SqT K H2 t xs ∧ R (Itt K t) (ItX.dropH H2 it)) E
theorem pi_own (F : FnOk X.prog X.w X.K X.mg X.base CT n f fd ps sp) (hs : PySem.W.findIn X.K (.ref C) "__iter__" = some (some (.ref f))) (hf : PySem.W.isFn X.K (.ref f) = true) (hb : Binds X.K fd ps []) (hx : Passes CT X E) (hr : Room n X.A) (he : PE X e te) :
    PI X tg e (iOwn X.K X.s_0.heap.objs.size C sp E te) := by
  refine ⟨fun pins s σ H R I h => ?_⟩
  refine thn (he.run pins s σ H _ I h) fun u s1 ⟨x, H1, I1, r1, a, dx, fs, ex, ea, hsp⟩ => ?_
  subst ex
  obtain rfl : u = Value.ref a := r1
  obtain ⟨mA, J, _⟩ := ins_get I1.hok ea
  obtain ⟨od, J, _⟩ := J.look
  obtain ⟨m, hF⟩ := I1.fr
  refine PySem.W.owit_iter hF I1.ok.mod.kin J hs hf ?_
  refine thn (call_def F hb hx hr I1 (vs := [.ref a]) (.cons rfl .nil) hsp) fun u s2 ⟨v, H2, I2, r2, it, t, xs, ev, hsz, hit, hq, hR⟩ => ?_
  subst ev
  obtain rfl : u = Value.ref it := r2
  have ho : s2.heap.get? it = some { cls := .type "tuple_iterator", data := .fields #[.ref t, .int 0 0] } := (I2.hok it _ hit).1
  have hT : s2.TypeIs (.ref it) "tuple_iterator" := ⟨_, ho, rfl⟩
  unfold PySem.W.OwitIt
  refine wpAny_specialOf (name := Str.ofString "__next__") hT slot_tupleiter_next.lookup ?_
  have hit' := hit
  unfold TtO at hit'
  refine ⟨it, [it], _, _, ItX.dropH H2 it, rfl, ItX.inv_drop I2 hit', turn_tuple t it, ⟨_, ho, rfl, rfl⟩, fun b hb => ?_, hR⟩
  have e : b = it := by simpa using hb
  rw [e]
  exact ItX.inv_fp I2 hit hsz
/-- e a list, a tuple, or an object of the class at C -/
def iAny (K : PySem.W.Frag) (n : Nat) (C : Addr) (sp : Sp) (E : XK) (te : TE) : TI := fun σ H R => iLt K te σ H R ∨ iOwn K n C sp E te σ H R
theorem pi_any (F : FnOk X.prog X.w X.K X.mg X.base CT n f fd ps sp) (hs : PySem.W.findIn X.K (.ref C) "__iter__" = some (some (.ref f))) (hf : PySem.W.isFn X.K (.ref f) = true) (hb : Binds X.K fd ps []) (hx : Passes CT X E) (hr : Room n X.A) (he : PE X e te) :
    PI X tg e (iAny X.K X.s_0.heap.objs.size C sp E te) := ⟨fun pins s σ H R I h => h.elim ((pi_lt he).run pins s σ H R I) ((pi_own F hs hf hb hx hr he).run pins s σ H R I)⟩
end
end Bd
namespace Rb
open PySem PySem.Spec PyProof.Rows L2
theorem op_neDK {X : Cx} {K : PySem.W.Frag} (h : X.K = K) (hu : X.A.units + 64 < cLine) : OpR X (compareOp .NotEq) (rNeD K) := h ▸ op_neD hu
end Rb

set_option Elab.async false
set_option linter.all false
set_option maxRecDepth 100000
set_option maxHeartbeats 4000000
/-! bool of a tuple and of an object with an own __bool__; in, by an own __contains__; C.m(..) of a staticmethod. -/
namespace Bd
open PySem PySem.Spec PyProof.Rows L2
open Builtin Builtin.ObjectAttr
section
variable {prog : Program} {w : World} {A : Around} {E : Value → Shared → Prop} {s : Shared}
/-- bool(x), by what x is as a test -/
theorem call_boolBy {x : Value} {Q : Value → Shared → Prop} (h : wpAny (model prog w) A.in1.in1 (truthy x) (fun b s' => Q (.bool b) s') E s) : wpAny (model prog w) A (call (.type "bool") [x]) Q E s := by
  refine callType_newIn (S := fun A R s => wpAny (model prog w) A.in1 (truthy x) (fun b s' => R (.ok (.ret (.bool b))) s') (fun e s' => R (.error e) s') s) F.called_bool F.newNe_bool (F.typeCall_bool_1 x) (F.newCall_bool_1 x) (fun obj => F.args_object_init_2 obj x) F.entry_bool_new (MeetsIn.of_wp fun A R s h => ?_) ?_
  · have hsub := F.called_bool.sub
    unfold PySem.Builtin.«bool.__new__»
    have key : wpAny (model prog w) A.in1 (truthy x >>= fun b => ret (.bool b)) (fun fin s' => ∃ v, fin = Fin.done (Flow.ret v) ∧ R (Except.ok (Flow.ret v)) s') (fun e s' => R (Except.error e) s') s :=
      wpAny_bind (wpAny_mono h (fun b s' hq => wpAny_pure ⟨_, rfl, hq⟩) fun _ _ z => z)
    repeat (first | exact key | assumption | wp_step)
  · exact wpAny_mono h (fun b s' hq => ⟨rfl, hq⟩) fun _ _ z => z
end
section
variable {X : Cx} {pins : List (Addr × Obj)} {σ : L2.St} {H : Hp} {s : Shared} {CT : CXT} {n : Nat} {C f : Addr} {fd : FuncData} {ps : List Str} {sp : Sp} {E : XK}
/-- bool(t), t a tuple -/
def rBoolT (K : PySem.W.Frag) : List V → Hp → VK → Prop := fun xs H Q => ∃ (a : Addr) (zs : List V), xs = [.ref a] ∧ H a = some (.tup zs) ∧ Q (.bl (!zs.isEmpty)) H
theorem call_boolT : CallR X (.type "bool") (rBoolT X.K) := by
  intro pins s σ H xs us Q I r h
  obtain ⟨a, zs, rfl, hq, q⟩ := h
  obtain rfl := Vals.ref1 r
  obtain ⟨hz, its, rv, o, ho, hc, m, hd⟩ := (show ObjOk X.prog X.w H s.heap a (.tup zs) from I.hok a _ hq)
  have hl := line63
  have hlen := rv.length
  refine call_boolBy (PyProof.Rows.truthy_tuple (items := its.toArray) ⟨o, ho, hc, m, hd⟩ (by rw [List.size_toArray]; omega) ?_)
  exact ⟨.bl (!zs.isEmpty), H, I.tok _, by rw [isEmpty_of rv]; rfl, q⟩
/-- a call of a def two calls down -/
theorem call_def2 {vs : List V} {us : List Value} {Q : VK} (F : FnOk X.prog X.w X.K X.mg X.base CT n f fd ps sp) (hb : Binds X.K fd ps []) (hx : Passes CT X E) (hr : Room n X.A.in1.in1) (I : Inv X pins σ H s) (r : Vals vs us) (hsp : sp vs H Q E) :
    wpAny (model X.prog X.w) X.A.in1.in1 (call (.ref f) us) (EP X pins σ Q) X.xe s := by
  have hl := F.len _ _ _ _ hsp
  have hu : us.length = ps.length := by rw [← r.length]; exact hl
  refine wpAny_call (codeAny_mono (F.run X.A.in1.in1 X.stack s H ⟨us, []⟩ us vs Q E hr I.env0.in1.in1 (by
    have := hb s us I.kIn (by simpa using hu)
    simpa using this) r hsp) fun z s' hq => ?_)
  cases z with
  | error e => exact hx pins σ H s e s' I hq
  | ok fl =>
    cases fl with
    | ret w => exact I.after hq
    | next => exact False.elim hq
    | brk => exact False.elim hq
    | cont => exact False.elim hq
/-- bool(x), x an object of the class at C that has its own __bool__ -/
def rBoolOwn (C : Addr) (sp : Sp) (E : XK) : List V → Hp → VK → Prop := fun xs H Q => ∃ a dx fs, xs = [.ref a] ∧ H a = some (.ins C dx fs) ∧ sp [.ref a] H (fun v H' => ∃ t, v = .bl t ∧ Q (.bl t) H') E
theorem call_boolOwn (F : FnOk X.prog X.w X.K X.mg X.base CT n f fd ps sp) (hs : PySem.W.findIn X.K (.ref C) "__bool__" = some (some (.ref f))) (hf : PySem.W.isFn X.K (.ref f) = true) (hb : Binds X.K fd ps []) (hx : Passes CT X E) (hr : Room (n + 2) X.A) : CallR X (.type "bool") (rBoolOwn C sp E) := by
  intro pins s σ H xs us Q I r h
  obtain ⟨a, dx, fs, rfl, ha, hsp⟩ := h
  obtain rfl := Vals.ref1 r
  obtain ⟨mA, J, _⟩ := ins_get I.hok ha
  obtain ⟨od, J, _⟩ := J.look
  refine call_boolBy ?_
  unfold truthy
  have key : wpAny (model X.prog X.w) X.A.in1.in1 (callSpecial? (.ref a) (Str.ofString "__bool__") []) (fun r s' => ∃ t, r = some (Value.bool t) ∧ EP X pins σ Q (.bool t) s') X.xe s := by
    refine PySem.W.special_fn I.kIn J hs (beq_iff_eq.mp hf) ?_
    refine thn (call_def2 F hb hx hr.in1.in1 I (vs := [.ref a]) (.cons rfl .nil) hsp) fun u s' ⟨v, H', I', r', t, ev, q⟩ => ?_
    subst ev
    cases r'
    exact ⟨t, rfl, .bl t, H', I', rfl, q⟩
  refine wpAny_bind (wpAny_mono key (fun r s' h' => ?_) fun _ _ z => z)
  obtain ⟨t, rfl, q⟩ := h'
  exact wpAny_pure q
/-- x in y, y an object of the class at C that has its own __contains__ -/
def rInOwn (C : Addr) (sp : Sp) (E : XK) : R2 := fun x y H Q => ∃ b dx fs, y = .ref b ∧ H b = some (.ins C dx fs) ∧ sp [.ref b, x] H (fun v H' => ∃ t, v = .bl t ∧ Q (.bl t) H') E
theorem op_inOwn (F : FnOk X.prog X.w X.K X.mg X.base CT n f fd ps sp) (hs : PySem.W.findIn X.K (.ref C) "__contains__" = some (some (.ref f))) (hf : PySem.W.isFn X.K (.ref f) = true) (hb : Binds X.K fd ps []) (hx : Passes CT X E) (hr : Room n X.A) : OpR X (compareOp .In) (rInOwn C sp E) := by
  intro pins s σ H x y v u Q I rx ry h
  obtain ⟨b, dx, fs, rfl, hb', hsp⟩ := h
  obtain rfl : u = Value.ref b := ry
  obtain ⟨mA, J, _⟩ := ins_get I.hok hb'
  obtain ⟨od, J, _⟩ := J.look
  have X0 := I.kIn
  have cl : wpAny (model X.prog X.w) X.A (call (.ref f) [.ref b, v]) (fun r s' => ∃ t, r = Value.bool t ∧ EP X pins σ Q (.bool t) s') X.xe s := by
    refine thn (call_def F hb hx hr I (vs := [.ref b, x]) (.cons rfl (.cons rx .nil)) hsp) fun u s' ⟨v, H', I', r', t, ev, q⟩ => ?_
    subst ev
    cases r'
    exact ⟨t, rfl, .bl t, H', I', rfl, q⟩
  show wpAny _ _ (contains (.ref b) v >>= fun t => pure (Value.bool t)) _ _ _
  refine wpAny_bind ?_
  unfold contains
  refine wpAny_holding ?_
  show wpAny _ _ (specialOf (.ref b) (Str.ofString "__contains__") >>= _) _ _ _
  refine wpAny_bind (wpAny_bind (J.type.here ((PySem.W.looks_findIn X0 hs).here ?_)))
  show wpAny _ _ (callSpecialUnlessNone? (.ref b) (Str.ofString "__contains__") [v] _ >>= _) _ _ _
  unfold callSpecialUnlessNone?
  refine wpAny_bind (wpAny_bind (wpAny_bind (J.type.here ((PySem.W.looks_findIn X0 hs).here ?_))))
  refine wpAny_holding (wpAny_bind ((PySem.W.bind_fn X0 _ (beq_iff_eq.mp hf)).here ?_))
  refine PySem.W.KFB.if_not rfl ?_
  refine wpAny_bind (wpAny_mono cl (fun r s' h' => ?_) fun _ _ z => z)
  obtain ⟨t, rfl, q⟩ := h'
  exact wpAny_pure (wpAny_pure (wpAny_pure q))
/-- what is told of a staticmethod m of the class at C: its record at p, its def at g -/
structure StatC (K : PySem.W.Frag) (C : Addr) (m : Str) (g : Addr) : Prop where
  rd : PySem.W.readsIn K C (.type "type") = true
  ga : PySem.W.specialIn K (.ref C) "__getattribute__" = some (some (.builtin "type.__getattribute__"))
  at_ : ∃ p, PySem.W.findCls K (.ref C) (.type "type") m = some (.get (.builtin "staticmethod.__get__") (.ref p) .none (.ref C)) ∧ ∃ rest, PySem.W.recIn K p "staticmethod" = some (.ref g :: rest)
  kp : PySem.W.keepIn K (.ref g) = true
/-- o.m(..), o the class at C, m a staticmethod -/
def tStat (C : Addr) (sp : Sp) (E : XK) (ta : TE) (t : TA) : TE := fun σ H Q => ta σ H fun x H1 => x = .ref C ∧ t σ H1 fun vs H2 => sp vs H2 Q E
theorem pe_static {g : Addr} {m : Str} {o e : Expr} {es : List Expr} {pos apos : Pos} {ta : TE} {t : TA} {pl : Sem Bool} (he : PE X o ta) (c : StatC X.K C m g) (F : FnOk X.prog X.w X.K X.mg X.base CT n g fd ps sp) (hr : Room n X.A) (hb : Binds X.K fd ps []) (hx : Passes CT X E) (ha : PA X (e :: es) t)
    (hst : starEach (e :: es) X.env = (false, eval e X.env) :: starEach es X.env := by rfl) (hpl : (backTo pos (starEach es X.env)).any (·.1) = false := by rfl)
    (ht : eval (.Call (.Attribute o m apos) (e :: es) [] pos) X.env = (do
      let ov ← eval o X.env
      standAt apos.atName
      let (f, first) ← holding [ov] (getMethod ov m pl)
      callWith pos f first (backTo pos (starEach (e :: es) X.env)) (backToKw pos (keywordEach [] X.env))) := by rfl) :
    PE X (.Call (.Attribute o m apos) (e :: es) [] pos) (tStat C sp E ta t) := by
  refine ⟨fun pins s σ H Q I h => ?_⟩
  refine PySem.W.methodCall_KW (pl := pl) (thn (he.run pins s σ H _ I h) fun u s1 ⟨x, H1, I1, rx, ex, q⟩ => ?_) ht
  subst ex
  obtain rfl : u = Value.ref C := rx
  obtain ⟨p, h1, rest, h2⟩ := c.at_
  refine PySem.W.method_cls I1.kIn c.ga (PySem.W.cls_bind I1.kIn c.rd h1 ?_)
  refine wpAny_call (PySem.W.sm_get (s := { s1 with toks := s1.toks + 1 }) I1.kIn h2 (PySem.W.handed_on rfl ?_))
  have I2 := I1.tok (s1.toks + 1)
  refine PySem.W.callWith_K (h₀ := X.base) I2.ok.mod.kin c.kp (thn (ha.run pos pins _ σ H1 _ I2 q) fun us s3 ⟨vs, H2, I3, rv, q2⟩ => ⟨I3.kIn, ?_⟩) hst hpl
  exact call_def F hb hx hr I3 rv q2
end
end Bd

set_option Elab.async false
set_option linter.all false
set_option maxRecDepth 100000
set_option maxHeartbeats 4000000
/-! What the start leaves, with defs that stand behind a property or a staticmethod. -/
namespace Bd
open PySem PySem.Spec PyProof.Rows L2
/-- the part of the heap that is looked at -/
def fragY (n : Nat) (g : Addr → Option Obj) : PySem.W.Frag := He.frG g (He.asD g n ++ [cStatics])
/-- all that is told of it -/
structure SaysY (fa : List He.Fa) (fn : List He.DefD) (ex : PySem.W.Frag → Bool) (fx : List He5.DefA) (K : PySem.W.Frag) : Prop where
  d : He.SaysD fa fn K
  more : ex K = true
  fns : (fx.map fun z => He5.fnA K (z.at_ K)) = fx.map He5.DefA.val
  oks : (fx.all fun z => z.ok K) = true
abbrev TellY : Type := He.AlD × (Bool × (List He5.FnW × Bool))
def tellY (fa : List He.Fa) (fn : List He.DefD) (ex : PySem.W.Frag → Bool) (fx : List He5.DefA) (K : PySem.W.Frag) : TellY := (He.obsD fa fn K, ex K, fx.map (fun z => He5.fnA K (z.at_ K)), fx.all fun z => z.ok K)
def wantY (fn : List He.DefD) (fx : List He5.DefA) : TellY := (He.valD fn, true, fx.map He5.DefA.val, true)
theorem saysY {fa : List He.Fa} {fn : List He.DefD} {ex : PySem.W.Frag → Bool} {fx : List He5.DefA} {K : PySem.W.Frag} (e : tellY fa fn ex fx K = wantY fn fx) : SaysY fa fn ex fx K :=
  ⟨congrArg (fun z : TellY => z.1) e, congrArg (fun z : TellY => z.2.1) e, congrArg (fun z : TellY => z.2.2.1) e, congrArg (fun z : TellY => z.2.2.2) e⟩
def hookY (n : Nat) (fa : List He.Fa) (fn : List He.DefD) (ex : PySem.W.Frag → Bool) (fx : List He5.DefA) : PySem.W.Hook where
  α := TellY
  obs := fun s => tellY fa fn ex fx (fragY n s.heap.get?)
  val := fun _ => wantY fn fx
  says := fun _ h => ∃ K : PySem.W.Frag, K.In h ∧ SaysY fa fn ex fx K
  of := fun _ _ e => ⟨_, He.frG_in, saysY e⟩
  keeps := fun _ _ _ ⟨K, hK, c⟩ k => ⟨K, PySem.W.Frag.In.keeps hK k, c⟩
def obsY (n : Nat) (fa : List He.Fa) (fn : List He.DefD) (ex : PySem.W.Frag → Bool) (fx : List He5.DefA) (g : Addr → Option Obj) : TellY := tellY fa fn ex fx (fragY n g)
theorem obsY_eq {n : Nat} {fa : List He.Fa} {fn : List He.DefD} {ex : PySem.W.Frag → Bool} {fx : List He5.DefA} {g : Addr → Option Obj} {s : Shared} (h : ∀ a, g a = s.heap.get? a) : obsY n fa fn ex fx g = (hookY n fa fn ex fx).obs s := by
  have e : g = s.heap.get? := funext h
  rw [e]
  rfl
/-- the i-th of these defs -/
theorem SaysY.def_ {fa : List He.Fa} {fn : List He.DefD} {ex : PySem.W.Frag → Bool} {fx : List He5.DefA} {K : PySem.W.Frag} (c : SaysY fa fn ex fx K) (i : Nat) {d : He5.DefA} (h : fx[i]? = some d) :
    ∃ fd, FunD K d.name d.qual d.params d.body d.scope (d.dvs K) (d.kws K) (d.at_ K) fd := by
  have e : (fx.map fun z => He5.fnA K (z.at_ K))[i]? = (fx.map He5.DefA.val)[i]? := by rw [c.fns]
  rw [List.getElem?_map, List.getElem?_map, h] at e
  exact He5.DefA.funD (Option.some.inj e) (List.all_eq_true.mp c.oks d (List.mem_of_getElem? h))
/-- the def behind a record -/
abbrev pAd (K : PySem.W.Frag) (c m : Str) : Addr := He5.wf K (He.ga K c) "property" m
abbrev sAd (K : PySem.W.Frag) (c m : Str) : Addr := He5.wf K (He.ga K c) "staticmethod" m
def recB (K : PySem.W.Frag) (p g : Addr) (T : String) : Bool := match PySem.W.recIn K p T with
  | some (.ref f :: _) => decide (f = g)
  | _ => false
theorem recB_ok {K : PySem.W.Frag} {p g : Addr} {T : String} (h : recB K p g T = true) : ∃ rest, PySem.W.recIn K p T = some (.ref g :: rest) := by
  unfold recB at h
  split at h
  · rename_i f r e
    rw [e, of_decide_eq_true h]
    exact ⟨r, rfl⟩
  · cases h
def propB (K : PySem.W.Frag) (C : Addr) (m : Str) : Bool :=
  He.eqO (PySem.W.findIn K (.ref C) m) (some (some (.ref (He.ma K C m)))) && (He.eqO (PySem.W.specialIn K (.ref (He.ma K C m)) "__get__") (some (some (.builtin "property.__get__"))) &&
  (decide (PySem.W.takesIn K (.ref (He.ma K C m)) = some true) && recB K (He.ma K C m) (He5.wf K C "property" m) "property"))
theorem propB_ok {K : PySem.W.Frag} {C : Addr} {m : Str} (h : propB K C m = true) : PropOf K C m (He.ma K C m) (He5.wf K C "property" m) := by
  unfold propB at h
  simp only [Bool.and_eq_true] at h
  exact ⟨He.eqO_ok h.1, He.eqO_ok h.2.1, of_decide_eq_true h.2.2.1, recB_ok h.2.2.2⟩
def statB (K : PySem.W.Frag) (C : Addr) (m : Str) : Bool :=
  PySem.W.readsIn K C (.type "type") && (He.eqO (PySem.W.specialIn K (.ref C) "__getattribute__") (some (some (.builtin "type.__getattribute__"))) &&
  (He5.wrapB K C "staticmethod" "staticmethod.__get__" m && PySem.W.keepIn K (.ref (He5.wf K C "staticmethod" m))))
theorem statB_ok {K : PySem.W.Frag} {C : Addr} {m : Str} (h : statB K C m = true) : StatC K C m (He5.wf K C "staticmethod" m) := by
  unfold statB at h
  simp only [Bool.and_eq_true] at h
  obtain ⟨h1, h2⟩ := He5.wrapB_ok h.2.2.1
  exact ⟨h.1, He.eqO_ok h.2.1, ⟨_, h1, h2⟩, h.2.2.2⟩
end Bd

set_option Elab.async false
set_option linter.all false
set_option maxRecDepth 100000
set_option maxHeartbeats 4000000
/-! What the top has written: properties, static methods, and tables with text keys. -/
namespace Bd
open PySem PySem.Spec PyProof.Rows L2
structure SaysZ (fa : List He.Fa) (fn : List He.DefD) (ts : List He.Tab) (ex : PySem.W.Frag → Bool) (fx : List He5.DefA) (w : World) (K : PySem.W.Frag) : Prop where
  y : SaysY fa fn ex fx K
  tabs : (ts.map fun t => He.dicW K (t.1 K)) = ts.map fun t => some (He.keysIn w.params t.2)
abbrev TellZ : Type := TellY × List (Option (List (Option (Str × Int))))
def tellZ (fa : List He.Fa) (fn : List He.DefD) (ts : List He.Tab) (ex : PySem.W.Frag → Bool) (fx : List He5.DefA) (K : PySem.W.Frag) : TellZ := (tellY fa fn ex fx K, ts.map fun t => He.dicW K (t.1 K))
def wantZ (fn : List He.DefD) (ts : List He.Tab) (fx : List He5.DefA) (w : World) : TellZ := (wantY fn fx, ts.map fun t => some (He.keysIn w.params t.2))
theorem saysZ {fa : List He.Fa} {fn : List He.DefD} {ts : List He.Tab} {ex : PySem.W.Frag → Bool} {fx : List He5.DefA} {w : World} {K : PySem.W.Frag} (e : tellZ fa fn ts ex fx K = wantZ fn ts fx w) : SaysZ fa fn ts ex fx w K :=
  ⟨saysY (congrArg (fun z : TellZ => z.1) e), congrArg (fun z : TellZ => z.2) e⟩
def hookZ (n : Nat) (fa : List He.Fa) (fn : List He.DefD) (ts : List He.Tab) (ex : PySem.W.Frag → Bool) (fx : List He5.DefA) : PySem.W.Hook where
  α := TellZ
  obs := fun s => tellZ fa fn ts ex fx (fragY n s.heap.get?)
  val := fun w => wantZ fn ts fx w
  says := fun w h => ∃ K : PySem.W.Frag, K.In h ∧ SaysZ fa fn ts ex fx w K
  of := fun _ _ e => ⟨_, He.frG_in, saysZ e⟩
  keeps := fun _ _ _ ⟨K, hK, c⟩ k => ⟨K, PySem.W.Frag.In.keeps hK k, c⟩
def obsZ (n : Nat) (fa : List He.Fa) (fn : List He.DefD) (ts : List He.Tab) (ex : PySem.W.Frag → Bool) (fx : List He5.DefA) (g : Addr → Option Obj) : TellZ := tellZ fa fn ts ex fx (fragY n g)
theorem obsZ_eq {n : Nat} {fa : List He.Fa} {fn : List He.DefD} {ts : List He.Tab} {ex : PySem.W.Frag → Bool} {fx : List He5.DefA} {g : Addr → Option Obj} {s : Shared} (h : ∀ a, g a = s.heap.get? a) : obsZ n fa fn ts ex fx g = (hookZ n fa fn ts ex fx).obs s := by
  have e : g = s.heap.get? := funext h
  rw [e]
  rfl
theorem SaysZ.tab {fa : List He.Fa} {fn : List He.DefD} {ts : List He.Tab} {ex : PySem.W.Frag → Bool} {fx : List He5.DefA} {w : World} {K : PySem.W.Frag} (c : SaysZ fa fn ts ex fx w K) (i : Nat) {t : He.Tab} (h : ts[i]? = some t := by rfl) : ∃ es n, KDict K w (t.1 K) es n := by
  have e2 : (ts.map fun t => He.dicW K (t.1 K))[i]? = (ts.map fun t => some (He.keysIn w.params t.2))[i]? := by rw [c.tabs]
  rw [List.getElem?_map, List.getElem?_map, h] at e2
  exact He.dicW_ok (Option.some.inj e2)
/-- the i-th key's value -/
def keyB (K : PySem.W.Frag) (a : Addr) (x : Str) (f : Addr) : Bool := match PySem.W.nsIn K a x with
  | some (some u) => decide (u = .ref f)
  | _ => false
theorem keyB_ok {K : PySem.W.Frag} {w : World} {a f : Addr} {x : Str} {es : Array DictEntry} {n : Nat} (T : KDict K w a es n) (h : keyB K a x f = true) : KDct K w a x (.ref f) := by
  unfold keyB at h
  split at h
  · rename_i u e
    have := of_decide_eq_true h
    subst this
    exact ⟨es, n, _, T.at_, T.lit, e, rfl⟩
  · cases h
end Bd

set_option Elab.async false
set_option linter.all false
set_option maxRecDepth 100000
/-! Rs: the head's run seen part by part: each part a run of its own, whose memory the kernel gives back. -/
namespace Rs
open PySem PySem.W HandSHeadRun
/-- what a look at the state behind the top says -/
def Sees {α : Type} (r : OpenRow) (q : Program) (M : Nat) (w : World) (a : SharedT → α) (x : α) : Prop :=
  ∀ os : OsState, (endF (stepQ (denQ tabQ) r.prog w) M r.prog w os).map a = some x
theorem Sees.pair {α β : Type} {r : OpenRow} {q : Program} {M : Nat} {w : World} {a : SharedT → α} {b : SharedT → β} {x : α} {y : β} (h : Sees r q M w a x) (k : Sees r q M w b y) : Sees r q M w (fun s => (a s, b s)) (x, y) := fun os => by
  have h1 := h os
  have h2 := k os
  cases e : endF (stepQ (denQ tabQ) r.prog w) M r.prog w os with
  | none => rw [e] at h1; cases h1
  | some s =>
    rw [e] at h1 h2
    cases h1
    cases h2
    rfl
theorem Sees.app {α β : Type} {r : OpenRow} {q : Program} {M : Nat} {w : World} {f : SharedT → α → β} {l m : List α} {x y : List β} (h : Sees r q M w (fun s => l.map (f s)) x) (k : Sees r q M w (fun s => m.map (f s)) y) : Sees r q M w (fun s => (l ++ m).map (f s)) (x ++ y) := fun os => by
  have h1 := h os
  have h2 := k os
  cases e : endF (stepQ (denQ tabQ) r.prog w) M r.prog w os with
  | none => rw [e] at h1; cases h1
  | some s =>
    rw [e] at h1 h2
    cases h1
    cases h2
    simp
theorem Sees.and {r : OpenRow} {q : Program} {M : Nat} {w : World} {a b : SharedT → Bool} (h : Sees r q M w a true) (k : Sees r q M w b true) : Sees r q M w (fun s => a s && b s) true := fun os => by
  have h1 := h os
  have h2 := k os
  cases e : endF (stepQ (denQ tabQ) r.prog w) M r.prog w os with
  | none => rw [e] at h1; cases h1
  | some s =>
    rw [e] at h1 h2
    have i1 : a s = true := Option.some.inj h1
    have i2 : b s = true := Option.some.inj h2
    show some (a s && b s) = some true
    rw [i1, i2]
    rfl
abbrev LookP (r : OpenRow) (q : Program) (M : Nat) (w : World) : Prop := Sees r q M w (fun s => looksF r.prog (boot_heap w.params) s.abs) true
abbrev SeenP (r : OpenRow) (q : Program) (M : Nat) (loose : List PySem.Str) (w : World) : Prop := Sees r q M w (fun s => seenQ q loose (importedModules r.prog.main.body) (fun s => xlAt q [] s && recOk r.toRowW.records s) s.abs) (openGood q loose)
theorem parts {r : OpenRow} {q : Program} {H : Hook} {ob : SharedT → H.α} {M : Nat} {loose : List PySem.Str} {w : World} (a : LookP r q M w) (b : SeenP r q M loose w) (c : Sees r q M w ob (H.val w)) : RunEq r q H ob M loose w :=
  a.pair (b.pair c)
end Rs

set_option Elab.async false
set_option linter.all false
set_option maxRecDepth 100000
/-! Data: values that are trees of ints, texts, tuples; comprehensions and loops over them. -/
namespace Dj
open PySem PySem.Spec PyProof.Rows L2
mutual
/-- no list and no dict anywhere -/
def nl : PyData → Bool
  | .none | .bool _ | .int _ | .str _ => true
  | .tuple ds => nlAll ds
  | .list _ | .dict _ => false
def nlAll : List PyData → Bool
  | [] => true
  | d :: ds => nl d && nlAll ds
end
theorem nlAll_mem : ∀ {ds : List PyData}, nlAll ds = true ↔ ∀ d ∈ ds, nl d = true
  | [] => by simp [nlAll]
  | d :: ds => by simp only [nlAll, Bool.and_eq_true, List.mem_cons, forall_eq_or_imp, nlAll_mem (ds := ds)]
/-- what is no list stays -/
def SameT (H H' : Hp) : Prop := ∀ a o, H a = some o → (∀ l, o ≠ .lst l) → H' a = some o
theorem SameT.refl (H : Hp) : SameT H H := fun _ _ h _ => h
theorem SameT.of {H H' : Hp} (e : Same H H') : SameT H H' := fun a o h _ => e a o h
theorem SameT.trans {H H1 H2 : Hp} (a : SameT H H1) (b : SameT H1 H2) : SameT H H2 := fun c o h n => b c o (a c o h n) n
theorem SameT.put {H : Hp} {p : Addr} {l : List V} {o : HO} (h : H p = some (.lst l)) : SameT H (L2.upd H p o) := fun a u ha n => by
  rw [upd_ne fun e => by subst e; rw [h] at ha; exact n l (Option.some.inj ha).symm]
  exact ha
theorem SameT.new {H : Hp} {p : Addr} {o : HO} (h : H p = none) : SameT H (upd H p o) := .of (Rd.same_new h)
theorem sqT_keep {K : PySem.W.Frag} {H H' : Hp} {a : Addr} {xs : List V} (e : SameT H H') (h : SqT K H a xs) : SqT K H' a xs := by
  rcases h with (h | ⟨o, h⟩) | h
  · exact .inl (.inl (e _ _ h fun l => by simp))
  · exact .inl (.inr ⟨o, e _ _ h fun l => by simp⟩)
  · exact .inr h
theorem dp_keep {K : PySem.W.Frag} {H H' : Hp} (e : SameT H H') : ∀ {x : V} {d : PyData}, nl d = true → Dp K H x d → Dp K H' x d
  | _, _, _, .non => .non
  | _, _, _, .bl b => .bl b
  | _, _, _, .int i => .int i
  | _, _, _, .str x => .str x
  | _, _, n, .lst h a => by simp [nl] at n
  | _, _, n, .tup h a => .tup (sqT_keep e h) (go e (by simpa [nl] using n) a)
where go {K : PySem.W.Frag} {H H' : Hp} (e : SameT H H') : ∀ {xs : List V} {ds : List PyData}, nlAll ds = true → DpAll K H xs ds → DpAll K H' xs ds
  | _, _, _, .nil => .nil
  | _, _, n, .cons h t => .cons (dp_keep e (by simp only [nlAll, Bool.and_eq_true] at n; exact n.1) h) (go e (by simp only [nlAll, Bool.and_eq_true] at n; exact n.2) t)
theorem dpAll_keep {K : PySem.W.Frag} {H H' : Hp} (e : SameT H H') {xs : List V} {ds : List PyData} (n : nlAll ds = true) (h : DpAll K H xs ds) : DpAll K H' xs ds := dp_keep.go e n h
theorem dpAll_same {K : PySem.W.Frag} {H H' : Hp} (e : Same H H') {xs : List V} {ds : List PyData} (h : DpAll K H xs ds) : DpAll K H' xs ds := Rd.dp_same.go e h
theorem dpAll_app {K : PySem.W.Frag} {H : Hp} : ∀ {xs ys : List V} {ds es : List PyData}, DpAll K H xs ds → DpAll K H ys es → DpAll K H (xs ++ ys) (ds ++ es)
  | _, _, _, _, .nil, k => k
  | _, _, _, _, .cons h t, k => .cons h (dpAll_app t k)
theorem dpAll_one {K : PySem.W.Frag} {H : Hp} {x : V} {d : PyData} (h : Dp K H x d) : DpAll K H [x] [d] := .cons h .nil
theorem dpAll_at {K : PySem.W.Frag} {H : Hp} : ∀ {xs : List V} {ds : List PyData}, DpAll K H xs ds → ∀ {i : Nat} {x : V}, xs[i]? = some x → ∃ d, ds[i]? = some d ∧ Dp K H x d
  | _, _, .nil, i, x, h => by simp at h
  | _, _, .cons h t, 0, x, e => by simp only [List.getElem?_cons_zero, Option.some.injEq] at e; subst e; exact ⟨_, rfl, h⟩
  | _, _, .cons h t, i + 1, x, e => by simp only [List.getElem?_cons_succ] at e ⊢; exact dpAll_at t e
theorem dpAll_ints {K : PySem.W.Frag} {H : Hp} : ∀ {xs : List V} {ns : List Int}, DpAll K H xs (ns.map PyData.int) → xs = ns.map V.int
  | _, [], .nil => rfl
  | _, n :: ns, .cons h t => by cases h; rw [dpAll_ints t]; rfl
theorem dp_ints {K : PySem.W.Frag} {H : Hp} : ∀ {ns : List Int}, DpAll K H (ns.map V.int) (ns.map PyData.int)
  | [] => .nil
  | n :: ns => .cons (.int n) dp_ints
theorem dp_pair {K : PySem.W.Frag} {H : Hp} {x : V} {d e : PyData} (h : Dp K H x (.tuple [d, e])) : ∃ z u v, x = .ref z ∧ SqT K H z [u, v] ∧ Dp K H u d ∧ Dp K H v e := by
  cases h with
  | tup h a => cases a with | cons h1 t => cases t with | cons h2 t2 => cases t2; exact ⟨_, _, _, rfl, h, h1, h2⟩
theorem dp_triple {K : PySem.W.Frag} {H : Hp} {x : V} {d e f : PyData} (h : Dp K H x (.tuple [d, e, f])) : ∃ z u v y, x = .ref z ∧ SqT K H z [u, v, y] ∧ Dp K H u d ∧ Dp K H v e ∧ Dp K H y f := by
  cases h with
  | tup h a => cases a with | cons h1 t => cases t with | cons h2 t2 => cases t2 with | cons h3 t3 => cases t3; exact ⟨_, _, _, _, rfl, h, h1, h2, h3⟩
theorem dp_tup {K : PySem.W.Frag} {H : Hp} {x : V} {ds : List PyData} (h : Dp K H x (.tuple ds)) : ∃ z us, x = .ref z ∧ SqT K H z us ∧ DpAll K H us ds := by
  cases h with | tup h a => exact ⟨_, _, rfl, h, a⟩
theorem dp_lst {K : PySem.W.Frag} {H : Hp} {x : V} {ds : List PyData} (h : Dp K H x (.list ds)) : ∃ z us, x = .ref z ∧ SqL K H z us ∧ DpAll K H us ds := by
  cases h with | lst h a => exact ⟨_, _, rfl, h, a⟩
theorem dp_int {K : PySem.W.Frag} {H : Hp} {x : V} {i : Int} (h : Dp K H x (.int i)) : x = .int i := by cases h; rfl
theorem dp_str {K : PySem.W.Frag} {H : Hp} {x : V} {i : Str} (h : Dp K H x (.str i)) : x = .str i := by cases h; rfl
theorem dp_bool {K : PySem.W.Frag} {H : Hp} {x : V} {i : Bool} (h : Dp K H x (.bool i)) : x = .bl i := by cases h; rfl
theorem dp_none {K : PySem.W.Frag} {H : Hp} {x : V} (h : Dp K H x .none) : x = .non := by cases h; rfl
theorem push {K : PySem.W.Frag} {H H4 : Hp} {r : Addr} {xs ys : List V} {ds : List PyData} {v : V} {d : PyData} {o : HO} (hx : DpAll K H xs ds) (n : nlAll ds = true) (s : Same H H4) (hr : H4 r = some (.lst ys)) (hv : Dp K H4 v d) (nd : nl d = true) : DpAll K (L2.upd H4 r o) (xs ++ [v]) (ds ++ [d]) :=
  dpAll_app (dpAll_keep (SameT.trans (.of s) (.put hr)) n hx) (dpAll_one (dp_keep (.put hr) nd hv))
theorem nlMap {α : Type} {R : List α} {f : α → PyData} (h : ∀ e, nl (f e) = true) : nlAll (R.map f) = true := nlAll_mem.mpr fun d hd => by
  obtain ⟨e, _, rfl⟩ := List.mem_map.mp hd
  exact h e
/-! equality -/
mutual
/-- no truth and no dict anywhere: equal are the same ones alone -/
def nb : PyData → Bool
  | .none | .int _ | .str _ => true
  | .tuple ds | .list ds => nbAll ds
  | .bool _ | .dict _ => false
def nbAll : List PyData → Bool
  | [] => true
  | d :: ds => nb d && nbAll ds
end
theorem nbAll_mem : ∀ {ds : List PyData}, nbAll ds = true ↔ ∀ d ∈ ds, nb d = true
  | [] => by simp [nbAll]
  | d :: ds => by simp only [nbAll, Bool.and_eq_true, List.mem_cons, forall_eq_or_imp, nbAll_mem (ds := ds)]
mutual
theorem eqv_nb : ∀ (d e : PyData), nb d = true → nb e = true → (PyData.eqv d e = true ↔ d = e)
  | .none, e, _, h => by cases e <;> simp_all [PyData.eqv, nb]
  | .int i, e, _, h => by cases e <;> simp_all [PyData.eqv, nb]
  | .str i, e, _, h => by cases e <;> simp_all [PyData.eqv, nb]
  | .bool _, _, h, _ => by simp [nb] at h
  | .dict _, _, h, _ => by simp [nb] at h
  | .list xs, e, h, k => by
    cases e with
    | list ys => simp only [nb] at h k; simp only [PyData.eqv, eqv_nbAll xs ys h k, PyData.list.injEq]
    | _ => simp_all [PyData.eqv, nb]
  | .tuple xs, e, h, k => by
    cases e with
    | tuple ys => simp only [nb] at h k; simp only [PyData.eqv, eqv_nbAll xs ys h k, PyData.tuple.injEq]
    | _ => simp_all [PyData.eqv, nb]
theorem eqv_nbAll : ∀ (xs ys : List PyData), nbAll xs = true → nbAll ys = true → (PyData.eqvAll xs ys = true ↔ xs = ys)
  | [], [], _, _ => by simp [PyData.eqvAll]
  | [], _ :: _, _, _ => by simp [PyData.eqvAll]
  | _ :: _, [], _, _ => by simp [PyData.eqvAll]
  | x :: xs, y :: ys, h, k => by
    simp only [nbAll, Bool.and_eq_true] at h k
    simp only [PyData.eqvAll, Bool.and_eq_true, eqv_nb x y h.1 k.1, eqv_nbAll xs ys h.2 k.2, List.cons.injEq]
end
mutual
/-- no dict anywhere: each is equal to itself -/
def nd : PyData → Bool
  | .none | .int _ | .str _ | .bool _ => true
  | .tuple ds | .list ds => ndAll ds
  | .dict _ => false
def ndAll : List PyData → Bool
  | [] => true
  | d :: ds => nd d && ndAll ds
end
mutual
theorem eqv_self : ∀ (d : PyData), nd d = true → PyData.eqv d d = true
  | .none, _ => by simp [PyData.eqv]
  | .int i, _ => by simp [PyData.eqv]
  | .str i, _ => by simp [PyData.eqv]
  | .bool _, h => by simp [PyData.eqv]
  | .dict _, h => by simp [nd] at h
  | .list xs, h => by simp only [nd] at h; simp only [PyData.eqv, eqv_selfAll xs h]
  | .tuple xs, h => by simp only [nd] at h; simp only [PyData.eqv, eqv_selfAll xs h]
theorem eqv_selfAll : ∀ (xs : List PyData), ndAll xs = true → PyData.eqvAll xs xs = true
  | [], _ => by simp [PyData.eqvAll]
  | x :: xs, h => by
    simp only [ndAll, Bool.and_eq_true] at h
    simp only [PyData.eqvAll, eqv_self x h.1, eqv_selfAll xs h.2, Bool.and_self]
end
/-! shape -/
theorem lay_mem : ∀ {ds : List PyData}, PyData.canLayAll0 ds = true ↔ ∀ d ∈ ds, PyData.canLay0 d = true
  | [] => by simp [PyData.canLayAll0]
  | d :: ds => by simp only [PyData.canLayAll0, Bool.and_eq_true, List.mem_cons, forall_eq_or_imp, lay_mem (ds := ds)]
theorem depth_mem {n : Nat} : ∀ {ds : List PyData}, PyData.depthAll ds ≤ n ↔ ∀ d ∈ ds, PyData.depth d ≤ n
  | [] => by simp [PyData.depthAll]
  | d :: ds => by simp only [PyData.depthAll, Nat.max_le, List.mem_cons, forall_eq_or_imp, depth_mem (ds := ds)]
/-- good and at most so deep -/
def Sh (n : Nat) (d : PyData) : Prop := PyData.canLay0 d = true ∧ PyData.depth d ≤ n
theorem Sh.shaped {n : Nat} {d : PyData} (h : Sh n d) (hn : n ≤ 64) : SeqAt.shaped d = true := by
  unfold SeqAt.shaped
  rw [h.1, Bool.true_and]
  exact decide_eq_true (Nat.le_trans h.2 hn)
theorem Sh.int (i : Int) (n : Nat) : Sh n (.int i) := ⟨by simp [PyData.canLay0], by simp [PyData.depth]⟩
theorem Sh.bool (i : Bool) (n : Nat) : Sh n (.bool i) := ⟨by simp [PyData.canLay0], by simp [PyData.depth]⟩
theorem Sh.none (n : Nat) : Sh n .none := ⟨by simp [PyData.canLay0], by simp [PyData.depth]⟩
theorem Sh.str {x : Str} (n : Nat) (h : PyData.strOk x = true) : Sh n (.str x) := ⟨by simpa [PyData.canLay0] using h, by simp [PyData.depth]⟩
theorem Sh.tuple {n : Nat} {ds : List PyData} (h : ∀ d ∈ ds, Sh n d) : Sh (n + 1) (.tuple ds) := ⟨by simp only [PyData.canLay0]; exact lay_mem.mpr fun d hd => (h d hd).1, by simp only [PyData.depth]; exact Nat.succ_le_succ (depth_mem.mpr fun d hd => (h d hd).2)⟩
theorem Sh.list {n : Nat} {ds : List PyData} (h : ∀ d ∈ ds, Sh n d) : Sh (n + 1) (.list ds) := ⟨by simp only [PyData.canLay0]; exact lay_mem.mpr fun d hd => (h d hd).1, by simp only [PyData.depth]; exact Nat.succ_le_succ (depth_mem.mpr fun d hd => (h d hd).2)⟩
theorem Sh.mono {n m : Nat} {d : PyData} (h : Sh n d) (hm : n ≤ m) : Sh m d := ⟨h.1, Nat.le_trans h.2 hm⟩
theorem gN {σ : L2.St} {H : Hp} {i : Nat} {x : V} {Qd : L2.St → Hp → Prop} (k : Qd (σ.set i (some x)) H) : gName i x σ H Qd := k
theorem dpS {K : PySem.W.Frag} {H H' : Hp} {xs : List V} {ds : List PyData} (h : DpAll K H xs ds) (e : Same H H') : DpAll K H' xs ds := dpAll_same e h
theorem dpS1 {K : PySem.W.Frag} {H H' : Hp} {x : V} {d : PyData} (h : Dp K H x d) (e : Same H H') : Dp K H' x d := Rd.dp_same e h
theorem sat {H0 H : Hp} {a : Addr} {o : HO} (s : Same H0 H) (h : H0 a = some o) : H a = some o := s _ _ h
theorem satL {K : PySem.W.Frag} {H0 H : Hp} {a : Addr} {xs : List V} (s : Same H0 H) (h : SqL K H0 a xs) : SqL K H a xs := s.seq h
theorem satT {K : PySem.W.Frag} {H0 H : Hp} {a : Addr} {xs : List V} (s : Same H0 H) (h : SqT K H0 a xs) : SqT K H a xs := Rd.same_tup s h
theorem fldK {K : PySem.W.Frag} {H : Hp} {Q : VK} {a C dx : Addr} {fs : List (Str × V)} {f : Str} {v : V} (h : H a = some (.ins C dx fs)) (c : Cls K C) (n : NoAttr K C f) (l : fs.lookup f = some v) (k : Q v H) :
    ∃ a' C' dx' fs' v', V.ref a = .ref a' ∧ H a' = some (.ins C' dx' fs') ∧ Cls K C' ∧ NoAttr K C' f ∧ fs'.lookup f = some v' ∧ Q v' H := ⟨a, C, dx, fs, v, rfl, h, c, n, l, k⟩
/-! tests whose outcome is known -/
theorem iteDt {p : Prop} [Decidable p] {A B : Prop} (h : p) (k : A) : if decide p = true then A else B := by rw [decide_eq_true h]; exact Rd.iteT k
theorem iteDf {p : Prop} [Decidable p] {A B : Prop} (h : ¬ p) (k : B) : if decide p = true then A else B := by rw [decide_eq_false h]; exact Rd.iteF k
theorem iteNt {p : Prop} [Decidable p] {A B : Prop} (h : ¬ p) (k : A) : if (!decide p) = true then A else B := by rw [decide_eq_false h]; exact Rd.iteT k
theorem iteNf {p : Prop} [Decidable p] {A B : Prop} (h : p) (k : B) : if (!decide p) = true then A else B := by rw [decide_eq_true h]; exact Rd.iteF k
/-! drawn numbers -/
def B3 (ns : List Int) : Prop := ∀ x ∈ ns, 0 ≤ x ∧ x < 1000
theorem B3.app {ns ms : List Int} (h : B3 ns) (k : B3 ms) : B3 (ns ++ ms) := fun x hx => (List.mem_append.mp hx).elim (h x) (k x)
theorem B3.drop {ns : List Int} (h : B3 ns) (n : Nat) : B3 (ns.drop n) := fun x hx => h x (List.mem_of_mem_drop hx)
theorem B3.take {ns : List Int} (h : B3 ns) (n : Nat) : B3 (ns.take n) := fun x hx => h x (List.mem_of_mem_take hx)
theorem B3.nil : B3 [] := fun _ h => absurd h List.not_mem_nil
theorem B3.push {ns : List Int} {x : Int} (h : B3 ns) (hx : 0 ≤ x ∧ x < 1000) : B3 (ns ++ [x]) := h.app fun y hy => by rw [List.mem_singleton.mp hy]; exact hx
section
variable {K : PySem.W.Frag} {H : Hp} {Q : VK} {l : Addr} {ns : List Int} {i : Int}
theorem ixB (h : SqL K H l (ns.map V.int)) (hb : B3 ns) (h0 : 0 ≤ i) (h1 : i < (ns.length : Int)) (k : ∀ v : Int, 0 ≤ v → v < 1000 → Q (.int v) H) : rIxL K (.ref l) (.int i) H Q := by
  have hg := hb (ns.getD i.toNat 0) (by
    have h2 : i.toNat < ns.length := by omega
    rw [List.getD_eq_getElem?_getD, List.getElem?_eq_getElem h2]
    exact List.getElem_mem h2)
  exact Rd.ixL h (Rd.atI_ints h0 h1) (k _ hg.1 hg.2)
theorem ixBm (h : SqL K H l (ns.map V.int)) (hb : B3 ns) (hn : 0 < ns.length) (k : ∀ v : Int, 0 ≤ v → v < 1000 → Q (.int v) H) : rIxL K (.ref l) (.int (i % (ns.length : Int))) H Q :=
  ixB h hb (Int.emod_nonneg _ (by omega)) (Int.emod_lt_of_pos i (by omega)) k
theorem ixAll {xs : List V} (P : V → Prop) (h : SqL K H l xs) (h0 : 0 ≤ i) (h1 : i < (xs.length : Int)) (hp : ∀ v ∈ xs, P v) (k : ∀ v, P v → Q v H) : rIxL K (.ref l) (.int i) H Q := Rd.ixLmem h h0 h1 fun v hv => k v (hp v hv)
theorem modBd {a lo hi : Int} (h : lo ≤ hi) : lo ≤ lo + a % (hi - lo + 1) ∧ lo + a % (hi - lo + 1) ≤ hi := by
  have h1 := Int.emod_nonneg a (b := hi - lo + 1) (by omega)
  have h2 := Int.emod_lt_of_pos a (b := hi - lo + 1) (by omega)
  omega
/-- an item of a list of ints, only that it is an int -/
theorem ixI (h : SqL K H l (ns.map V.int)) (h0 : 0 ≤ i) (h1 : i < (ns.length : Int)) (k : ∀ v : Int, Q (.int v) H) : rIxL K (.ref l) (.int i) H Q := Rd.ixL h (Rd.atI_ints h0 h1) (k _)
theorem lenI {n : Nat} (h : SqL K H l (ns.map V.int)) (e : ns.length = n) (k : Q (.int n) H) : Rd.LenK K [.ref l] H Q := Rd.lenL h (by rw [List.length_map]; exact e) k
end
section
variable {K : PySem.W.Frag} {H : Hp} {Q : VK} {x y : V} {d : PyData}
theorem neSame (h1 : Dp K H x d) (h2 : Dp K H y d) (n : nd d = true) (s : SeqAt.shaped d = true) (k : Q (.bl false) H) : rNeD K x y H Q := ⟨d, d, h1, h2, s, s, by rw [eqv_self d n]; exact k⟩
theorem eqSame (h1 : Dp K H x d) (h2 : Dp K H y d) (n : nd d = true) (s : SeqAt.shaped d = true) (k : Q (.bl true) H) : rEqD K x y H Q := ⟨d, d, h1, h2, s, s, by rw [eqv_self d n]; exact k⟩
end
theorem ndAll_mem : ∀ {ds : List PyData}, ndAll ds = true ↔ ∀ d ∈ ds, nd d = true
  | [] => by simp [ndAll]
  | d :: ds => by simp only [ndAll, Bool.and_eq_true, List.mem_cons, forall_eq_or_imp, ndAll_mem (ds := ds)]
theorem ndMap {α : Type} {R : List α} {f : α → PyData} (h : ∀ e, nd (f e) = true) : ndAll (R.map f) = true := ndAll_mem.mpr fun d hd => by
  obtain ⟨e, _, rfl⟩ := List.mem_map.mp hd
  exact h e
/-! comprehensions over data -/
section
variable {K : PySem.W.Frag} {σ : L2.St} {H : Hp} {Q : VK} {α : Type}
theorem map_at {R : List α} {f : α → PyData} {i : Nat} {d : PyData} (h : (R.map f)[i]? = some d) : ∃ e, R[i]? = some e ∧ f e = d := by
  rw [List.getElem?_map] at h
  cases q : R[i]? with
  | none => rw [q] at h; cases h
  | some e => rw [q] at h; exact ⟨e, rfl, Option.some.inj h⟩
theorem take_map {β : Type} {R : List α} {f : α → β} {i : Nat} {e : α} (h : R[i]? = some e) : (R.take (i + 1)).map f = (R.take i).map f ++ [f e] := by
  rw [List.take_add_one, h, List.map_append]; rfl
theorem lcD {a : Addr} {xs : List V} {g : TG} {te : TE} {vs : List Nat} {R : List α} (enc : α → PyData) (F : α → PyData) (h : SqL K H a xs) (hx : DpAll K H xs (R.map enc)) (hl : xs.length ≤ 100000) (hn : ∀ e ∈ R, nl (F e) = true)
    (hs : ∀ (e : α) (x : V) (D : Addr) (acc : List V) (H' : Hp) (C : VK), H D = none → Same H H' → e ∈ R → Dp K H' x (enc e) → H' D = some (.lst acc) → (∀ y H3, Same H' H3 → Dp K H3 y (F e) → C y H3) →
      g x (wipe σ vs) H' fun σ2 H2 => wipe σ2 vs = wipe σ vs ∧ te σ2 H2 C)
    (hd : ∀ D acc H', H D = none → Same H H' → H' D = some (.lst acc) → DpAll K H' acc (R.map F) → Q (.ref D) H') :
    ∃ p, V.ref a = .ref p ∧ (∃ ys, SqL K H p ys) ∧ Rd.LcJ g tYes te vs σ Q (Itl K p) H := by
  have hxl := Rd.dpAll_len hx
  rw [List.length_map] at hxl
  refine Rb.lcL2 (fun D i acc H' => DpAll K H' acc ((R.take i).map F)) h (fun D H' _ _ _ => .nil) ?_ ?_
  · intro i x acc D H' hD s hi hl2 hDl hacc
    obtain ⟨d, hd2, hdp⟩ := dpAll_at hx hi
    obtain ⟨e, he, rfl⟩ := map_at hd2
    have hi2 : i < xs.length := (List.getElem?_eq_some_iff.mp hi).1
    refine hs e x D acc H' _ hD s (List.mem_of_getElem? he) (Rd.dp_same s hdp) hDl fun y H3 s3 hy => ?_
    refine Rd.lcE hD (s3 _ _ hDl) (s.trans s3) hl2 (by omega) ?_
    have st : SameT H3 (upd H3 D (.lst (acc ++ [y]))) := .put (s3 _ _ hDl)
    rw [take_map he]
    refine dpAll_app (dpAll_keep (SameT.trans (.of s3) st) ?_ hacc) (dpAll_one (dp_keep st (hn e (List.mem_of_getElem? he)) hy))
    refine nlAll_mem.mpr fun d hd => ?_
    obtain ⟨e', he', rfl⟩ := List.mem_map.mp hd
    exact hn e' (List.mem_of_mem_take he')
  · intro D acc H' hD s hDl hal hacc
    rw [hxl, List.take_length] at hacc
    exact hd D acc H' hD s hDl hacc
theorem lcDT {a : Addr} {xs : List V} {g : TG} {te : TE} {vs : List Nat} {R : List α} (enc : α → PyData) (F : α → PyData) (h : SqT K H a xs) (hx : DpAll K H xs (R.map enc)) (hl : xs.length ≤ 100000) (hn : ∀ e ∈ R, nl (F e) = true)
    (hs : ∀ (e : α) (x : V) (D : Addr) (acc : List V) (H' : Hp) (C : VK), H D = none → Same H H' → e ∈ R → Dp K H' x (enc e) → H' D = some (.lst acc) → (∀ y H3, Same H' H3 → Dp K H3 y (F e) → C y H3) →
      g x (wipe σ vs) H' fun σ2 H2 => wipe σ2 vs = wipe σ vs ∧ te σ2 H2 C)
    (hd : ∀ D acc H', H D = none → Same H H' → H' D = some (.lst acc) → DpAll K H' acc (R.map F) → Q (.ref D) H') :
    ∃ p, V.ref a = .ref p ∧ (∃ ys, SqT K H p ys) ∧ Rd.LcJ g tYes te vs σ Q (Itt K p) H := by
  have hxl := Rd.dpAll_len hx
  rw [List.length_map] at hxl
  refine Rb.lcT (fun D i acc H' => DpAll K H' acc ((R.take i).map F)) h (fun D H' _ _ _ => .nil) ?_ ?_
  · intro i x acc D H' hD s hi hl2 hDl hacc
    obtain ⟨d, hd2, hdp⟩ := dpAll_at hx hi
    obtain ⟨e, he, rfl⟩ := map_at hd2
    have hi2 : i < xs.length := (List.getElem?_eq_some_iff.mp hi).1
    refine hs e x D acc H' _ hD s (List.mem_of_getElem? he) (Rd.dp_same s hdp) hDl fun y H3 s3 hy => ?_
    refine Rd.lcE hD (s3 _ _ hDl) (s.trans s3) hl2 (by omega) ?_
    have st : SameT H3 (upd H3 D (.lst (acc ++ [y]))) := .put (s3 _ _ hDl)
    rw [take_map he]
    refine dpAll_app (dpAll_keep (SameT.trans (.of s3) st) ?_ hacc) (dpAll_one (dp_keep st (hn e (List.mem_of_getElem? he)) hy))
    refine nlAll_mem.mpr fun d hd => ?_
    obtain ⟨e', he', rfl⟩ := List.mem_map.mp hd
    exact hn e' (List.mem_of_mem_take he')
  · intro D acc H' hD s hDl hal hacc
    rw [hxl, List.take_length] at hacc
    exact hd D acc H' hD s hDl hacc
/-- [e for target in xs if test]: F none where the test fails -/
theorem lcDF {a : Addr} {xs : List V} {g : TG} {tt : TT} {te : TE} {vs : List Nat} {R : List α} (enc : α → PyData) (F : α → Option PyData) (h : SqL K H a xs) (hx : DpAll K H xs (R.map enc)) (hl : xs.length ≤ 100000) (hn : ∀ e ∈ R, ∀ d, F e = some d → nl d = true)
    (hs : ∀ (e : α) (x : V) (D : Addr) (acc : List V) (H' : Hp) (C : VK) (N : Hp → Prop), H D = none → Same H H' → e ∈ R → Dp K H' x (enc e) → H' D = some (.lst acc) → (∀ y H3 d, Same H' H3 → F e = some d → Dp K H3 y d → C y H3) → (∀ H3, Same H' H3 → F e = none → N H3) →
      g x (wipe σ vs) H' fun σ2 H2 => wipe σ2 vs = wipe σ vs ∧ tt σ2 H2 fun b H3 => if b = true then te σ2 H3 C else N H3)
    (hd : ∀ D acc H', H D = none → Same H H' → H' D = some (.lst acc) → DpAll K H' acc (R.filterMap F) → Q (.ref D) H') :
    ∃ p, V.ref a = .ref p ∧ (∃ ys, SqL K H p ys) ∧ Rd.LcJ g tt te vs σ Q (Itl K p) H := by
  have hxl := Rd.dpAll_len hx
  rw [List.length_map] at hxl
  refine ⟨a, rfl, ⟨_, h⟩, fun D hD => ?_⟩
  refine lc_list (xs := xs) (fun i H' => ∃ acc, Same H H' ∧ acc.length ≤ i ∧ H' D = some (.lst acc) ∧ DpAll K H' acc ((R.take i).filterMap F)) ⟨[], Rd.same_new hD, Nat.le_refl _, upd_same, .nil⟩ (fun i H' _ ⟨_, s, _⟩ => s.seq h) ?_ ?_
  · rintro i x H' hi ⟨acc, s, hal, hDl, hacc⟩
    obtain ⟨d, hd2, hdp⟩ := dpAll_at hx hi
    obtain ⟨e, he, rfl⟩ := map_at hd2
    have hi2 : i < xs.length := (List.getElem?_eq_some_iff.mp hi).1
    have hnA : nlAll ((R.take i).filterMap F) = true := nlAll_mem.mpr fun d hd => by
      obtain ⟨e', he', q⟩ := List.mem_filterMap.mp hd
      exact hn e' (List.mem_of_mem_take he') d q
    refine hs e x D acc H' _ _ hD s (List.mem_of_getElem? he) (Rd.dp_same s hdp) hDl (fun y H3 d s3 hF hy => ?_) (fun H3 s3 hF => ?_)
    · have st : SameT H3 (upd H3 D (.lst (acc ++ [y]))) := .put (s3 _ _ hDl)
      refine ⟨acc, s3 _ _ hDl, Rd.smallT (by omega), acc ++ [y], Rd.same_mut (s.trans s3) hD, by rw [List.length_append]; simp; omega, upd_same, ?_⟩
      rw [List.take_add_one, he, List.filterMap_append]
      refine dpAll_app (dpAll_keep (SameT.trans (.of s3) st) hnA hacc) ?_
      simp only [Option.toList, List.filterMap_cons, hF, List.filterMap_nil]
      exact dpAll_one (dp_keep st (hn e (List.mem_of_getElem? he) d hF) hy)
    · refine ⟨acc, s.trans s3, by omega, s3 _ _ hDl, ?_⟩
      rw [List.take_add_one, he, List.filterMap_append]
      simp only [Option.toList, List.filterMap_cons, hF, List.filterMap_nil, List.append_nil]
      exact dpAll_same s3 hacc
  · rintro H' ⟨acc, s, hal, hDl, hacc⟩
    rw [hxl, List.take_length] at hacc
    exact hd D acc H' hD s hDl hacc
/-- [e for target in xs if test]: F none where the test fails -/
theorem lcDTF {a : Addr} {xs : List V} {g : TG} {tt : TT} {te : TE} {vs : List Nat} {R : List α} (enc : α → PyData) (F : α → Option PyData) (h : SqT K H a xs) (hx : DpAll K H xs (R.map enc)) (hl : xs.length ≤ 100000) (hn : ∀ e ∈ R, ∀ d, F e = some d → nl d = true)
    (hs : ∀ (e : α) (x : V) (D : Addr) (acc : List V) (H' : Hp) (C : VK) (N : Hp → Prop), H D = none → Same H H' → e ∈ R → Dp K H' x (enc e) → H' D = some (.lst acc) → (∀ y H3 d, Same H' H3 → F e = some d → Dp K H3 y d → C y H3) → (∀ H3, Same H' H3 → F e = none → N H3) →
      g x (wipe σ vs) H' fun σ2 H2 => wipe σ2 vs = wipe σ vs ∧ tt σ2 H2 fun b H3 => if b = true then te σ2 H3 C else N H3)
    (hd : ∀ D acc H', H D = none → Same H H' → H' D = some (.lst acc) → DpAll K H' acc (R.filterMap F) → Q (.ref D) H') :
    ∃ p, V.ref a = .ref p ∧ (∃ ys, SqT K H p ys) ∧ Rd.LcJ g tt te vs σ Q (Itt K p) H := by
  have hxl := Rd.dpAll_len hx
  rw [List.length_map] at hxl
  refine ⟨a, rfl, ⟨_, h⟩, fun D hD => ?_⟩
  refine lc_tup (xs := xs) (fun i H' => ∃ acc, Same H H' ∧ acc.length ≤ i ∧ H' D = some (.lst acc) ∧ DpAll K H' acc ((R.take i).filterMap F)) ⟨[], Rd.same_new hD, Nat.le_refl _, upd_same, .nil⟩ (fun i H' _ ⟨_, s, _⟩ => Rd.same_tup s h) ?_ ?_
  · rintro i x H' hi ⟨acc, s, hal, hDl, hacc⟩
    obtain ⟨d, hd2, hdp⟩ := dpAll_at hx hi
    obtain ⟨e, he, rfl⟩ := map_at hd2
    have hi2 : i < xs.length := (List.getElem?_eq_some_iff.mp hi).1
    have hnA : nlAll ((R.take i).filterMap F) = true := nlAll_mem.mpr fun d hd => by
      obtain ⟨e', he', q⟩ := List.mem_filterMap.mp hd
      exact hn e' (List.mem_of_mem_take he') d q
    refine hs e x D acc H' _ _ hD s (List.mem_of_getElem? he) (Rd.dp_same s hdp) hDl (fun y H3 d s3 hF hy => ?_) (fun H3 s3 hF => ?_)
    · have st : SameT H3 (upd H3 D (.lst (acc ++ [y]))) := .put (s3 _ _ hDl)
      refine ⟨acc, s3 _ _ hDl, Rd.smallT (by omega), acc ++ [y], Rd.same_mut (s.trans s3) hD, by rw [List.length_append]; simp; omega, upd_same, ?_⟩
      rw [List.take_add_one, he, List.filterMap_append]
      refine dpAll_app (dpAll_keep (SameT.trans (.of s3) st) hnA hacc) ?_
      simp only [Option.toList, List.filterMap_cons, hF, List.filterMap_nil]
      exact dpAll_one (dp_keep st (hn e (List.mem_of_getElem? he) d hF) hy)
    · refine ⟨acc, s.trans s3, by omega, s3 _ _ hDl, ?_⟩
      rw [List.take_add_one, he, List.filterMap_append]
      simp only [Option.toList, List.filterMap_cons, hF, List.filterMap_nil, List.append_nil]
      exact dpAll_same s3 hacc
  · rintro H' ⟨acc, s, hal, hDl, hacc⟩
    rw [hxl, List.take_length] at hacc
    exact hd D acc H' hD s hDl hacc
theorem lcDTJ {a : Addr} {xs : List V} {g : TG} {te : TE} {vs : List Nat} {R : List α} (enc : α → PyData) (F : α → PyData) (h : SqT K H a xs) (hx : DpAll K H xs (R.map enc)) (hl : xs.length ≤ 100000) (hn : ∀ e ∈ R, nl (F e) = true)
    (hs : ∀ (e : α) (x : V) (D : Addr) (acc : List V) (H' : Hp) (C : VK), H D = none → Same H H' → e ∈ R → Dp K H' x (enc e) → H' D = some (.lst acc) → (∀ y H3, Same H' H3 → Dp K H3 y (F e) → C y H3) →
      g x (wipe σ vs) H' fun σ2 H2 => wipe σ2 vs = wipe σ vs ∧ te σ2 H2 C)
    (hd : ∀ D acc H', H D = none → Same H H' → H' D = some (.lst acc) → DpAll K H' acc (R.map F) → Q (.ref D) H') : Rd.LcJ g tYes te vs σ Q (Itt K a) H := by
  obtain ⟨p, e, _, hL⟩ := lcDT (σ := σ) (Q := Q) (g := g) (te := te) (vs := vs) enc F h hx hl hn hs hd
  cases e
  exact hL
theorem pair_of {z : Addr} {x y : V} {i j : Nat} {Qd : L2.St → Hp → Prop} (h : SqT K H z [x, y]) (k : Qd ((σ.set i (some x)).set j (some y)) H) : gTup K 2 (gCons (gName i) (gCons (gName j) gNil)) (.ref z) σ H Qd :=
  ⟨z, _, rfl, h, rfl, x, [y], rfl, y, [], rfl, rfl, k⟩
theorem lcDI {a : Addr} {xs : List V} {g : TG} {te : TE} {vs : List Nat} {R : List α} (enc : α → PyData) (F : α → Int) (h : SqL K H a xs) (hx : DpAll K H xs (R.map enc)) (hl : xs.length ≤ 100000)
    (hs : ∀ (e : α) (x : V) (D : Addr) (acc : List V) (H' : Hp) (C : VK), H D = none → Same H H' → e ∈ R → Dp K H' x (enc e) → H' D = some (.lst acc) → (∀ H3, Same H' H3 → C (.int (F e)) H3) →
      g x (wipe σ vs) H' fun σ2 H2 => wipe σ2 vs = wipe σ vs ∧ te σ2 H2 C)
    (hd : ∀ D H', H D = none → Same H H' → H' D = some (.lst ((R.map F).map V.int)) → Q (.ref D) H') :
    ∃ p, V.ref a = .ref p ∧ (∃ ys, SqL K H p ys) ∧ Rd.LcJ g tYes te vs σ Q (Itl K p) H := by
  refine lcD enc (fun e => .int (F e)) h hx hl (fun _ _ => rfl) (fun e x D acc H' C hD s he hx hDl hC => hs e x D acc H' C hD s he hx hDl fun H3 s3 => hC _ _ s3 (.int _)) ?_
  intro D acc H' hD s hDl hacc
  have e : R.map (fun e => PyData.int (F e)) = (R.map F).map PyData.int := by rw [List.map_map]; rfl
  rw [e] at hacc
  rw [dpAll_ints hacc] at hDl
  exact hd D H' hD s hDl
theorem lcDFI {a : Addr} {xs : List V} {g : TG} {tt : TT} {te : TE} {vs : List Nat} {R : List α} (enc : α → PyData) (F : α → Option Int) (h : SqL K H a xs) (hx : DpAll K H xs (R.map enc)) (hl : xs.length ≤ 100000)
    (hs : ∀ (e : α) (x : V) (D : Addr) (acc : List V) (H' : Hp) (C : VK) (N : Hp → Prop), H D = none → Same H H' → e ∈ R → Dp K H' x (enc e) → H' D = some (.lst acc) → (∀ H3 d, Same H' H3 → F e = some d → C (.int d) H3) → (∀ H3, Same H' H3 → F e = none → N H3) →
      g x (wipe σ vs) H' fun σ2 H2 => wipe σ2 vs = wipe σ vs ∧ tt σ2 H2 fun b H3 => if b = true then te σ2 H3 C else N H3)
    (hd : ∀ D H', H D = none → Same H H' → H' D = some (.lst ((R.filterMap F).map V.int)) → Q (.ref D) H') :
    ∃ p, V.ref a = .ref p ∧ (∃ ys, SqL K H p ys) ∧ Rd.LcJ g tt te vs σ Q (Itl K p) H := by
  refine lcDF enc (fun e => (F e).map PyData.int) h hx hl (fun e _ d q => by cases hF : F e with | none => rw [hF] at q; cases q | some i => rw [hF] at q; cases q; rfl) (fun e x D acc H' C N hD s he hx hDl hC hN => hs e x D acc H' C N hD s he hx hDl (fun H3 d s3 q => hC _ _ (.int d) s3 (by rw [q]; rfl) (.int _)) (fun H3 s3 q => hN H3 s3 (by rw [q]; rfl))) ?_
  intro D acc H' hD s hDl hacc
  have e : R.filterMap (fun e => (F e).map PyData.int) = (R.filterMap F).map PyData.int := by rw [List.map_filterMap]
  rw [e] at hacc
  rw [dpAll_ints hacc] at hDl
  exact hd D H' hD s hDl
end
end Dj
namespace Rb
open PySem PySem.Spec PyProof.Rows L2
theorem call_lenK {X : Cx} {K : PySem.W.Frag} (h : X.K = K) : CallR X (.builtin "len") (fun xs H Q => ∃ p ys, xs = [V.ref p] ∧ (SqL K H p ys ∨ SqT K H p ys) ∧ Q (.int ys.length) H) := by
  subst h; exact call_len_seq
end Rb

set_option Elab.async false
set_option linter.all false
set_option maxRecDepth 100000
set_option maxHeartbeats 4000000
/-! Dicts whose keys are tuples, tracked ones or constants of the module: the dict's own entries stand in dX, its keys are told by SqT. -/
namespace Es
open PySem PySem.Spec PyProof.Rows L2 Bd
/-- tuples stay when something else is written -/
theorem sqT_upd {K : PySem.W.Frag} {H : Hp} {a p : Addr} {xs : List V} {o o' : HO} (hp : H p = some o) (h1 : ∀ ys, o ≠ .tup ys) (h2 : ∀ z u, o ≠ .frz z u) (h : SqT K H a xs) : SqT K (upd H p o') a xs := by
  rcases h with (h | ⟨z, h⟩) | h
  · exact .inl (.inl ((upd_ne fun e => by rw [e, hp] at h; exact h1 _ (Option.some.inj h)).trans h))
  · exact .inl (.inr ⟨z, (upd_ne fun e => by rw [e, hp] at h; exact h2 _ _ (Option.some.inj h)).trans h⟩)
  · exact .inr h
/-- keys (where their tuples stand) and values -/
abbrev KTS (K : PySem.W.Frag) (H : Hp) : List (List Key × V) → List (List Key × Addr × Value) → Prop := Paired fun p q => p.1 = q.1 ∧ SqT K H q.2.1 (p.1.map kV) ∧ RelV p.2 q.2.2
theorem KTS.val {K : PySem.W.Frag} {H : Hp} {kvs : List (List Key × V)} {xs : List (List Key × Addr × Value)} (r : KTS K H kvs xs) (k : List Key) : RelO (valV kvs k) ((atKey xs k).map (·.2)) := by
  induction r with
  | nil => exact True.intro
  | @cons p q ps qs h t ih =>
    obtain ⟨z1, _, z2⟩ := h
    by_cases e : p.1 = k
    · rw [valV_pos e, show atKey (q :: qs) k = some q.2 by simp [atKey, List.find?_cons, z1.symm.trans e]]; exact z2
    · rw [valV_neg e, show atKey (q :: qs) k = atKey qs k by simp [atKey, List.find?_cons, show ¬ q.1 = k from fun y => e (z1.trans y)]]; exact ih
theorem KTS.repl {K : PySem.W.Frag} {H : Hp} {kvs : List (List Key × V)} {xs : List (List Key × Addr × Value)} (r : KTS K H kvs xs) (k : List Key) {y : V} {u : Value} (ry : RelV y u) : KTS K H (kvs.map fun kv => if kv.1 = k then (kv.1, y) else kv) (xs.map (putAt k u)) := by
  induction r with
  | nil => exact .nil
  | @cons p q ps qs h t ih =>
    rw [List.map_cons, List.map_cons]
    refine .cons ?_ ih
    unfold putAt
    by_cases e : p.1 = k
    · rw [if_pos e, if_pos (h.1.symm.trans e)]; exact ⟨h.1, h.2.1, ry⟩
    · rw [if_neg e, if_neg fun z => e (h.1.trans z)]; exact h
theorem KTS.put {K : PySem.W.Frag} {H : Hp} {kvs : List (List Key × V)} {xs : List (List Key × Addr × Value)} (r : KTS K H kvs xs) (k : List Key) {b : Addr} {y : V} {u : Value} (hb : SqT K H b (k.map kV)) (ry : RelV y u) : KTS K H (putK kvs k y) (storedH xs k b u) := by
  unfold putK storedH
  rw [show (kvs.any fun kv => decide (kv.1 = k)) = (atKey xs k).isSome by rw [valV_any, (r.val k).isSome_eq, Option.isSome_map]]
  by_cases q : (atKey xs k).isSome = true
  · rw [if_pos q, if_pos q]; exact r.repl k ry
  · rw [if_neg q, if_neg q]; exact Paired.snoc r ⟨rfl, hb, ry⟩
theorem KTS.keeps {K : PySem.W.Frag} {H H' : Hp} {kvs : List (List Key × V)} {xs : List (List Key × Addr × Value)} (r : KTS K H kvs xs) (ht : ∀ b ys, SqT K H b ys → SqT K H' b ys) : KTS K H' kvs xs := Paired.mapP r fun _ _ z => ⟨z.1, ht _ _ z.2.1, z.2.2⟩
theorem KTS.drop {K : PySem.W.Frag} {H : Hp} (k : List L2.Key) : ∀ {kvs : List (List L2.Key × V)} {xs : List (List L2.Key × Addr × Value)}, KTS K H kvs xs → KTS K H (L2.dropK kvs k) (DT.dropH xs k)
  | _, _, Paired.nil => Paired.nil
  | _, _, Paired.cons (a := p) (b := q) (l₁ := kvs) (l₂ := xs) h t => by
    have ih := KTS.drop k t
    by_cases e : p.1 = k
    · rw [show L2.dropK (p :: kvs) k = L2.dropK kvs k from List.filter_cons_of_neg (by simp [e]), show DT.dropH (q :: xs) k = DT.dropH xs k from List.filter_cons_of_neg (by simp [h.1.symm.trans e])]
      exact ih
    · rw [show L2.dropK (p :: kvs) k = p :: L2.dropK kvs k from List.filter_cons_of_pos (by simp [e]), show DT.dropH (q :: xs) k = q :: DT.dropH xs k from List.filter_cons_of_pos (by simp [show ¬ q.1 = k from fun z => e (h.1.trans z)])]
      exact Paired.cons h ih
def AsS (K : PySem.W.Frag) (H : Hp) (ps : List (Addr × (Str × Int))) : Prop := ∀ z ∈ ps, SqT K H z.1 [.str z.2.1, .int z.2.2]
theorem kts_as {K : PySem.W.Frag} {H : Hp} : ∀ {m : List ((Str × Int) × V)} {ks : List (List Key × Addr × Value)}, KTS K H (m.map fun e => (eK e.1, e.2)) ks → ∃ ps : List (Addr × (Str × Int)), AsS K H ps ∧ ps.map (·.2) = m.map (·.1) ∧ ps.map (·.1) = ks.map fun x => x.2.1
  | [], _, Paired.nil => ⟨[], fun _ h => absurd h List.not_mem_nil, rfl, rfl⟩
  | e :: m, _, Paired.cons (b := x) h t => by
    obtain ⟨ps, h1, h2, h3⟩ := kts_as (m := m) t
    refine ⟨(x.2.1, e.1) :: ps, fun z hz => ?_, by rw [List.map_cons, List.map_cons, h2], by rw [List.map_cons, List.map_cons, h3]⟩
    rcases List.mem_cons.mp hz with rfl | hz
    · exact h.2.1
    · exact h1 z hz
/-- the dict at a, its keys where xs says -/
def dX (P : Program) (w : World) (a : Addr) (xs : List (List Key × Addr × Value)) : HO := .ext fun h => (a == sysModules) = false ∧ ∃ o es ep, h.get? a = some o ∧ o.ExactDict ∧ o.data = .dict es ep ∧ es.toList = xs.map (entryOfKey (tupleKind (mixKind P w))) ∧ (xs.map (·.1)).Nodup
theorem dX_ok {P : Program} {w : World} {H : Hp} {h : Heap} {a : Addr} {xs : List (List Key × Addr × Value)} (z : (a == sysModules) = false)
    (d : ∃ o es ep, h.get? a = some o ∧ o.ExactDict ∧ o.data = .dict es ep ∧ es.toList = xs.map (entryOfKey (tupleKind (mixKind P w))) ∧ (xs.map (·.1)).Nodup) : ObjOk P w H h a (dX P w a xs) := by
  obtain ⟨o, es, ep, e1, e2⟩ := d
  exact ⟨⟨z, o, es, ep, e1, e2⟩, ⟨o, e1⟩, fun g g' ⟨y, o', es', ep', f1, f2⟩ k => ⟨y, o', es', ep', k _ f1, f2⟩⟩
/-- at a stands a dict with the keys and values kvs -/
def DS (P : Program) (w : World) (K : PySem.W.Frag) (H : Hp) (a : Addr) (kvs : List (List Key × V)) : Prop := kvs.length ≤ sizeLine ∧ ∃ xs, H a = some (dX P w a xs) ∧ KTS K H kvs xs
theorem dX_mut {P : Program} {w : World} {a : Addr} {xs : List (List Key × Addr × Value)} : Mut (some (dX P w a xs)) := True.intro
theorem dX_tup {P : Program} {w : World} {a : Addr} {xs : List (List Key × Addr × Value)} {ys : List V} : HO.tup ys ≠ dX P w a xs := fun z => by
  have z' : HO.tup ys = HO.ext _ := z
  cases z'
section
variable {X : Cx} {pins : List (Addr × Obj)} {σ : L2.St} {H : Hp} {s : Shared} {a b : Addr} {k : List Key} {kvs : List (List Key × V)} {y v : V} {u r : Value} {A : Around} {E : Value → Shared → Prop}
theorem keyC (I : Inv X pins σ H s) (e : SqT X.K H b (k.map kV)) : (tupleKind (mixKind X.prog X.w)).is s.heap k b := by
  obtain ⟨its, rel, ⟨o, h1, h2, n, h3⟩, _⟩ := I.tuple e
  exact ⟨o, its.toArray, n, h1, h2, h3, by simpa using items_are rel⟩
theorem dx_at (I : Inv X pins σ H s) (d : DS X.prog X.w X.K H a kvs) : (a == sysModules) = false ∧ ∃ xs, H a = some (dX X.prog X.w a xs) ∧ KTS X.K H kvs xs ∧ s.heap.DictOfH (tupleKind (mixKind X.prog X.w)) a xs := by
  obtain ⟨_, xs, e, rel⟩ := d
  have q : ObjOk X.prog X.w H s.heap a (.ext fun h => (a == sysModules) = false ∧ ∃ o es ep, h.get? a = some o ∧ o.ExactDict ∧ o.data = .dict es ep ∧ es.toList = xs.map (entryOfKey (tupleKind (mixKind X.prog X.w))) ∧ (xs.map (·.1)).Nodup) := I.hok a _ e
  obtain ⟨⟨z, o, es, ep, f1, f2, f3, f4, f5⟩, _⟩ := q
  refine ⟨z, xs, e, rel, o, es, ep, f1, f2, f3, f4, fun x hx => ?_, f5⟩
  have all : ∀ (l : List (List Key × V)) (m : List (List Key × Addr × Value)), KTS X.K H l m → ∀ x ∈ m, (tupleKind (mixKind X.prog X.w)).is s.heap x.1 x.2.1 := by
    intro l m p
    induction p with
    | nil => exact fun x h => absurd h List.not_mem_nil
    | cons t _ ih =>
      intro x hx
      cases List.mem_cons.mp hx with
      | inl e' => rw [e', ← t.1]; exact keyC I t.2.1
      | inr e' => exact ih x e'
  exact all _ _ rel x hx
/-- what the dict holds at the key y -/
def GX (P : Program) (w : World) (K : PySem.W.Frag) (H : Hp) (a : Addr) (y : V) (o : Option V) : Prop := ∃ kvs k b, DS P w K H a kvs ∧ y = .ref b ∧ SqT K H b (k.map kV) ∧ o = valV kvs k
theorem dx_get {Q : Value → Shared → Prop} (hu : A.units + 1 < cLine) (I : Inv X pins σ H s) (g : GX X.prog X.w X.K H a y (some v)) (ry : RelV y u) (h : ∀ w' s', Inv X pins σ H s' → RelV v w' → Q w' s') :
    wpAny (model X.prog X.w) A (getItem (.ref a) u) Q E s := by
  obtain ⟨kvs, k, b, d, rfl, eb, l⟩ := g
  cases (show u = Value.ref b from ry)
  obtain ⟨_, xs, _, rel, dd⟩ := dx_at I d
  have q := rel.val k
  rw [← l] at q
  obtain ⟨w', hw, rw'⟩ := RelO.some_of q
  obtain ⟨p, hp, hp2⟩ := Option.map_eq_some_iff.mp hw
  exact wpAny_getItem_heap (tupleKind_room_in1 hu) (keyC I eb) dd hp (by rw [hp2]; exact h w' _ (I.tok _) rw')
theorem dx_get2 {o : Option V} {d0 : V} {Q : Value → Shared → Prop} (hu : A.units + 1 < cLine) (I : Inv X pins σ H s) (g : GX X.prog X.w X.K H a y o) (ry : RelV y u) (rd : RelV d0 r) (h : ∀ w' s', Inv X pins σ H s' → RelV (o.getD d0) w' → Q w' s') :
    wpAny (model X.prog X.w) A (call (.builtin "dict.get") [.ref a, u, r]) Q E s := by
  obtain ⟨kvs, k, b, d, rfl, eb, rfl⟩ := g
  cases (show u = Value.ref b from ry)
  obtain ⟨hd, xs, _, rel, dd⟩ := dx_at I d
  exact call_meetsIn PySem.F.slot_dict_get dd.typeIs PySem.F.entry_dict_get (PySem.F.args_dict_get_3 _ _ _) (meetsH_dict_get_default (tupleKind (mixKind X.prog X.w)) a b hd r) ⟨tupleKind_room_in1 hu, k, xs, keyC I eb, dd, h _ _ (I.tok _) ((rel.val k).getD rd)⟩
theorem dx_in {o : Option V} {Q : Value → Shared → Prop} (hu : A.units + 1 < cLine) (I : Inv X pins σ H s) (g : GX X.prog X.w X.K H a y o) (ry : RelV y u) (h : ∀ s', Inv X pins σ H s' → Q (.bool o.isSome) s') :
    wpAny (model X.prog X.w) A (compareOp .In u (.ref a)) Q E s := by
  obtain ⟨kvs, k, b, d, rfl, eb, rfl⟩ := g
  cases (show u = Value.ref b from ry)
  obtain ⟨hd, xs, _, rel, dd⟩ := dx_at I d
  refine wpAny_in_heap (tupleKind_room_in1 hu) (keyC I eb) hd dd ?_
  have q := (rel.val k).isSome_eq
  rw [Option.isSome_map] at q
  rw [← q]
  exact h _ (I.tok _)
/-- the dict with one more value, in the heap that has it -/
theorem dx_put {xs : List (List Key × Addr × Value)} {h' : Heap} {t' : Nat} (I : Inv X pins σ H s) (e : H a = some (dX X.prog X.w a xs)) (rel : KTS X.K H kvs xs) (hz : kvs.length < sizeLine) (hd : (a == sysModules) = false)
    (eb : SqT X.K H b (k.map kV)) (rv : RelV v r) (dd' : h'.DictOfH (tupleKind (mixKind X.prog X.w)) a (storedH xs k b r)) (hs : Heap.SameBut a s.heap h') :
    Inv X pins σ (upd H a (dX X.prog X.w a (storedH xs k b r))) { s with heap := h', toks := t' } ∧ DS X.prog X.w X.K (upd H a (dX X.prog X.w a (storedH xs k b r))) a (putK kvs k v) := by
  obtain ⟨o, es, ep, f1, f2, f3, f4, _, f5⟩ := dd'
  refine ⟨d_write I (by rw [e]; exact dX_mut) hs ⟨o, f1⟩ (dX_ok hd ⟨o, es, ep, f1, f2, f3, f4, f5⟩), ?_, _, upd_same, (rel.put k eb rv).keeps fun q ys eq => ?_⟩
  · have := length_putK kvs k v; omega
  · exact sqT_upd (o := dX X.prog X.w a xs) e (fun ys q => by cases q) (fun o u q => by cases q) eq
theorem dx_set {Q : Unit → Shared → Prop} (hu : A.units + 1 < cLine) (I : Inv X pins σ H s) (d : DS X.prog X.w X.K H a kvs) (hz : kvs.length < sizeLine) (eb : SqT X.K H b (k.map kV)) (ry : RelV (.ref b) u) (rv : RelV v r)
    (h : ∀ s' ys, Inv X pins σ (upd H a (dX X.prog X.w a ys)) s' → DS X.prog X.w X.K (upd H a (dX X.prog X.w a ys)) a (putK kvs k v) → Q () s') : wpAny (model X.prog X.w) A (setItem (.ref a) u r) Q E s := by
  cases (show u = Value.ref b from ry)
  obtain ⟨hd, xs, e, rel, dd⟩ := dx_at I d
  have hl : xs.length ≤ sizeLine := by rw [← Paired.length rel]; omega
  exact wpAny_setItem_heap (hsz := hl) (tupleKind_room_in1 hu) (keyC I eb) dd fun h' dd' hs => by
    obtain ⟨J, d'⟩ := dx_put (t' := s.toks + (tupleKind (mixKind X.prog X.w)).draws k) I e rel hz hd eb rv dd' hs
    exact h _ _ J d'
theorem isSI_C {p : Str × Int} (I : Inv X pins σ H s) (e : SqT X.K H b [.str p.1, .int p.2]) : IsSI s.heap (.ref b) p := by
  obtain ⟨its, rel, ⟨o, h1, h2, n, h3⟩, _⟩ := I.tuple e
  cases rel with
  | cons ra rest =>
    cases rest with
    | cons rb rest =>
      cases rest
      obtain ⟨t1, e1⟩ := (show ∃ t, _ = Value.str p.1 t from ra)
      obtain ⟨t2, e2⟩ := (show ∃ t, _ = Value.int p.2 t from rb)
      subst e1 e2
      exact ⟨b, o, t1, t2, n, rfl, h1, h2, h3⟩
end
section
variable {X : Cx}
def rSortedX (P : Program) (w : World) (K : PySem.W.Frag) : List V → Hp → VK → Prop := fun xs H Q => ∃ (a : Addr) (m : List ((Str × Int) × V)), xs = [.ref a] ∧ DS P w K H a (m.map fun e => (eK e.1, e.2)) ∧
  ∀ (ps : List (Addr × (Str × Int))) (p : Addr), AsS K H ps → SrtO.Srtd ltSI (ps.map (·.2)) → (ps.map (·.2)).Perm (m.map (·.1)) → H p = none → Q (.ref p) (upd H p (.lst (ps.map fun z => V.ref z.1)))
theorem cr_sortedX (hcalm : X.calm = true) : CallR X (.builtin "sorted") (rSortedX X.prog X.w X.K) := by
  intro pins s σ H xs us Q I r q
  obtain ⟨a, m, rfl, hd, q⟩ := q
  obtain ⟨u, rfl, rx⟩ := vals1 r
  cases rx
  have z := hd.1
  obtain ⟨hs, ks, _, pr, o, es, ep, ho, hx, hdt, he, _, hn⟩ := dx_at I hd
  have l1 : es.size = ks.length := size_of_entries he
  have l2 : (m.map fun e => (eK e.1, e.2)).length = ks.length := Paired.length pr
  have l3 : m.length = ks.length := by simpa using l2
  refine Calls.call_function_entry PyProof.Rows.kind_sorted PyProof.Rows.plain_sorted PyProof.Rows.entry_sorted (PyProof.Rows.args_sorted1 _) ?_
  unfold Builtin.«sorted»
  refine wpAny_bind (m := checkCount "sorted" 1 1 _) (wpAny_pure ?_)
  refine wpAny_bind (PySem.W.kdu_collect (A := X.A.in1) (kdl_raw hs hx hdt) (I.ok.hd hcalm) ho (by omega) fun h' tk acc hk it => ?_)
  have ea : acc.toList = (ks.map fun x => x.2.1).map Value.ref := by
    have hl : acc.toList.length = ks.length := by rw [Array.length_toList, it.1]; exact l1
    apply List.ext_getElem?
    intro j
    rw [List.map_map, List.getElem?_map]
    cases hj : acc.toList[j]? with
    | none =>
      have h1 := List.getElem?_eq_none_iff.mp hj
      rw [List.getElem?_eq_none (by omega)]
      rfl
    | some v =>
      obtain ⟨en, hen, hv⟩ := it.2 j v (by rw [← Array.getElem?_toList]; exact hj)
      have qe := entry_at he j
      rw [hen] at qe
      cases hb : ks[j]? with
      | none =>
        rw [hb] at qe
        exact nomatch (show some en = none from qe)
      | some b =>
        rw [hb] at qe
        have e2 : en = entryOfKey (tupleKind (mixKind X.prog X.w)) b := Option.some.inj qe
        rw [hv, e2]
        rfl
  have I1 : Inv X pins σ H { s with heap := h', toks := tk } := I.kept hk
  obtain ⟨ps0, a1, a2, a3⟩ := kts_as pr
  have eb : acc.toList = ps0.map fun z => Value.ref z.1 := by rw [ea, ← a3, List.map_map]; rfl
  have hal : acc.toList.length ≤ sizeLine := by
    rw [Array.length_toList, it.1]; omega
  refine wpAny_bind (wpAny_newList ?_ hal)
  have hoL : (h'.push (seqObj "list" acc.toList.toArray 0)).get? h'.objs.size = some (seqObj "list" acc.toList.toArray 0) := Heap.get?_push_size _ rfl
  have hsi : ∀ v ∈ acc.toList, IsSI (h'.push (seqObj "list" acc.toList.toArray 0)) v (siOf s.heap v) := fun v hv => by
    rw [eb] at hv
    obtain ⟨zz, hz, rfl⟩ := List.mem_map.mp hv
    have q := isSI_C I (a1 zz hz)
    rw [q.of]
    exact (isSI_C I1 (a1 zz hz)).keeps fun b ob e _ => Heap.get?_push_of_some _ e
  show wpAny _ _ _ _ _ { s with heap := h'.push (seqObj "list" acc.toList.toArray 0), toks := tk }
  refine wpAny_bind (wpAny_holding (wpAny_call_entry PyProof.Rows.slot_list_sort ⟨_, hoL, rfl⟩ PyProof.Rows.entry_list_sort
    (SrtO.list_sort_ord (ltv := fun v u => ltSI (siOf s.heap v) (siOf s.heap u)) (s := { s with heap := h'.push (seqObj "list" acc.toList.toArray 0), toks := tk }) (swo_SI (siOf s.heap)) hoL hal (fun h2 => si_sortable (by omega) hsi fun ob e => by
      have e' := e.symm.trans hoL
      cases e'
      intro c
      exact absurd (Value.type.inj c) (by decide)) fun out h1 h2 => ⟨_, rfl, ?_⟩)
    (PyProof.Rows.args_list_sort _)))
  obtain ⟨ps, b1, b2⟩ := perm_lift (fun z : Addr × (Str × Int) => Value.ref z.1) h2.perm ps0 eb.symm
  have hAs : AsS X.K H ps := fun z hz => a1 z (b1.mem_iff.mp hz)
  have hk2 : ∀ z ∈ ps, siOf s.heap (Value.ref z.1) = z.2 := fun z hz => (isSI_C I (hAs z hz)).of
  have hsr : SrtO.Srtd ltSI (ps.map (·.2)) := by
    rw [← b2] at h1
    have h1' := List.pairwise_map.mp h1
    refine List.pairwise_map.mpr (h1'.imp_of_mem fun {x y} hx hy hh => ?_)
    have hh' : ltSI (siOf s.heap (Value.ref y.1)) (siOf s.heap (Value.ref x.1)) = false := hh
    rw [hk2 x hx, hk2 y hy] at hh'
    exact hh'
  obtain ⟨e', he'⟩ := PyProof.Rows.sortedHeap_at (vs := acc.toList) (out := out.toArray) hoL
  have hlen : (ps.map fun z => V.ref z.1).length ≤ sizeLine := by
    rw [List.length_map, b1.length_eq]
    have : ps0.length = acc.toList.length := by rw [eb, List.length_map]
    omega
  refine wpAny_pure ⟨_, rfl, .ref h'.objs.size, upd H h'.objs.size (.lst (ps.map fun z => V.ref z.1)), I1.laid (t' := tk) (fun b u e => ?_) (Nat.le_refl _)
    (show ObjOk X.prog X.w _ _ _ (.lst _) from ⟨hlen, out, e', ?_, he'⟩), rfl, q ps _ hAs hsr ((b1.map _).trans (by rw [a2])) (I1.hok.fresh (Nat.le_refl _))⟩
  · have hb : b < h'.objs.size := Heap.lt_size e
    rw [PyProof.Rows.sortedHeap_old (Nat.ne_of_lt hb) (by rw [size_push']; exact Nat.lt_succ_of_lt hb)]
    exact Heap.get?_push_of_some _ e
  · rw [← b2]
    have := vals_refs (ps.map (·.1))
    rw [List.map_map, List.map_map] at this
    exact this
end
end Es
namespace Es
open PySem PySem.Spec PyProof.Rows L2 L2.DX Bd
section
variable {X : Cx}
/-- tuple(d.items()): a row of pairs (asset, value) -/
def rTupX (P : Program) (w : World) (K : PySem.W.Frag) : List V → Hp → VK → Prop := fun vs H Q => ∃ (p a : Addr) (m : List ((Str × Int) × V)), vs = [.ref p] ∧ H p = some (itemsO p a) ∧ DS P w K H a (m.map fun e => (eK e.1, e.2)) ∧
  ∀ (H' : Hp) (q : Addr) (zs : List (Addr × ((Str × Int) × V))), (∀ b o, H b = some o → H' b = some o) → H q = none → zs.map (·.2) = m → H' q = some (.tup (zs.map fun z => V.ref z.1)) →
    (∀ z ∈ zs, ∃ kq, H' z.1 = some (.tup [.ref kq, z.2.2]) ∧ SqT K H' kq [.str z.2.1.1, .int z.2.1.2]) → Q (.ref q) H'
theorem cr_tupX (hc : X.calm = true) : CallR X (.type "tuple") (rTupX X.prog X.w X.K) := by
  intro pins s σ H xs us Q I r h
  obtain ⟨p, a, m, rfl, hp, ha, q⟩ := h
  obtain ⟨u, rfl, ru⟩ := vals1 r
  obtain rfl : u = Value.ref p := ru
  have view : s.heap.IsItemsView p a := (show ObjOk X.prog X.w H s.heap p (itemsO p a) from I.hok p _ hp).1
  have z := ha.1
  obtain ⟨hd, xs', _, rel, o, es, ep, ho, hx, hdat, hes, his, hn⟩ := dx_at I ha
  have l1 : (m.map fun e => (eK e.1, e.2)).length = xs'.length := Paired.length rel
  rw [List.length_map] at l1 z
  have l2 : es.size = xs'.length := size_of_entries hes
  refine call_tuple_items (es := es) (ep := ep) (I.ok.hd hc) view ⟨o, ho, hx, hdat⟩ (by omega) fun h' tk as hk hlt hl hG => ?_
  have lam : as.length = m.length := by omega
  have nd : as.Nodup := List.Pairwise.imp (fun h => Nat.ne_of_lt h) hG.rise
  have hN : s.heap.objs.size < h'.objs.size := hlt
  generalize hh : h'.push { cls := .type "tuple", data := .seq (as.map Value.ref).toArray } = h2
  have ka : ∀ b o, h'.get? b = some o → h2.get? b = some o := fun b o e => by rw [← hh]; exact Heap.get?_push_of_some _ e
  have hob : h2.get? h'.objs.size = some { cls := .type "tuple", data := .seq (as.map Value.ref).toArray } := by rw [← hh]; exact Heap.get?_push_size _ rfl
  have I1 : Inv X pins σ H { s with heap := h2, toks := tk } := I.kept (t' := tk) fun b o e => ka _ _ (hk b o e)
  have hn0 : H h'.objs.size = none := I.hok.fresh (Nat.le_of_lt hN)
  have I2 : Inv X pins σ (upd H h'.objs.size (.tup (as.map V.ref))) { s with heap := h2, toks := tk } :=
    I1.take (h' := h2) (t' := tk) (fun b ob _ e => e) (I.fpOk (Nat.le_of_lt hN) hn0) ⟨by rw [List.length_map]; omega, as.map Value.ref, vals_refs as, ⟨_, hob, rfl, 0, rfl⟩⟩
  obtain ⟨H2, I3, g, qt⟩ := takeT (P := fun b vs => ∃ (j : Nat) (e : (Str × Int) × V) (kq : Addr), as[j]? = some b ∧ m[j]? = some e ∧ vs = [.ref kq, e.2] ∧ SqT X.K H kq [.str e.1.1, .int e.1.2]) I as _ I2 nd fun b hb => by
    obtain ⟨j, hj⟩ := List.mem_iff_getElem?.mp hb
    obtain ⟨en, he, hg⟩ := hG.pairs j b hj
    rw [entry_at hes j] at he
    cases hxj : xs'[j]? with
    | none =>
      rw [hxj] at he
      exact nomatch (show (none : Option DictEntry) = some en from he)
    | some x =>
      rw [hxj] at he
      have een : entryOfKey (tupleKind (mixKind X.prog X.w)) x = en := Option.some.inj he
      obtain ⟨e0, he0, r1, r2, r3⟩ := pget rel hxj
      rw [List.getElem?_map] at he0
      cases hkj : m[j]? with
      | none =>
        rw [hkj] at he0
        exact nomatch (show (none : Option (List L2.Key × V)) = some e0 from he0)
      | some e =>
        rw [hkj] at he0
        have ee : (eK e.1, e.2) = e0 := Option.some.inj he0
        rw [← ee] at r2 r3
        have hbl : s.heap.objs.size ≤ b := Nat.le_of_lt (hG.above b hb)
        have hbn : b ≠ h'.objs.size := Nat.ne_of_lt (Heap.lt_size hg)
        refine ⟨hbl, by rw [upd_ne hbn]; exact I.hok.fresh hbl, [.ref x.2.1, e.2], ⟨j, e, x.2.1, hj, hkj, rfl, r2⟩, fun H3 => ⟨by rw [sizeLine_eq]; show 2 ≤ 16777216; omega, [Value.ref x.2.1, x.2.2], .cons rfl (.cons r3 .nil), ⟨_, ka _ _ hg, rfl, 0, ?_⟩⟩⟩
        rw [← een]
        rfl
  have gr : ∀ b o, H b = some o → H2 b = some o := fun b o e => g b o (by rw [upd_ne (ne_of_none e hn0)]; exact e)
  refine ⟨.ref h'.objs.size, H2, I3, rfl, q H2 h'.objs.size (as.zip m) gr hn0 (List.map_snd_zip (by omega)) ?_ fun z' hz' => ?_⟩
  · have e1 : ((as.zip m).map fun z => V.ref z.1) = as.map V.ref := by
      have := List.map_fst_zip (l₁ := as) (l₂ := m) (by omega)
      conv => rhs; rw [← this]
      rw [List.map_map]; rfl
    rw [e1]
    exact g _ _ upd_same
  · obtain ⟨i, hi⟩ := List.mem_iff_getElem?.mp hz'
    obtain ⟨i1, i2⟩ := List.getElem?_zip_eq_some.mp hi
    obtain ⟨vs, ⟨j, e, kq, j1, j2, ev, hkq⟩, hH⟩ := qt z'.1 (List.mem_of_getElem? i1)
    have eij : i = j := (List.getElem?_inj (List.getElem?_eq_some_iff.mp i1).1 nd).mp (i1.trans j1.symm)
    subst eij
    have ee : e = z'.2 := Option.some.inj (j2.symm.trans i2)
    rw [ev, ee] at hH
    rw [ee] at hkq
    exact ⟨kq, hH, Rd.same_tup gr hkq⟩
end
end Es
namespace Es
open PySem PySem.Spec PyProof.Rows L2 Bd
section
variable {X : Cx} {pins : List (Addr × Obj)} {σ : L2.St} {H : Hp} {s : Shared} {a b : Addr} {k : List Key} {kvs : List (List Key × V)} {y v : V} {u r : Value} {A : Around} {E : Value → Shared → Prop}
theorem dX_new {P : Program} {w : World} {H : Hp} (h : Heap) (hb : sysModules < h.objs.size) : ObjOk P w H (h.push { cls := .type "dict", data := .dict #[] }) h.objs.size (dX P w h.objs.size []) :=
  dX_ok (beq_eq_false_iff_ne.mpr (Ne.symm (Nat.ne_of_lt hb))) ⟨_, #[], 0, Heap.get?_push_size _ rfl, ⟨rfl, rfl, rfl⟩, rfl, rfl, List.nodup_nil⟩
theorem DS.nil {P : Program} {w : World} {K : PySem.W.Frag} {a : Addr} {H : Hp} : DS P w K (upd H a (dX P w a [])) a [] := ⟨Nat.zero_le _, [], upd_same, .nil⟩
theorem dx_dset {Q : Unit → Shared → Prop} (hu : X.A.units + 1 < cLine) (I : Inv X pins σ H s) (d : DS X.prog X.w X.K H a kvs) (hz : kvs.length < sizeLine) (eb : SqT X.K H b (k.map kV)) (ry : RelV (.ref b) u) (rv : RelV v r)
    (h : ∀ s' ys, Inv X pins σ (upd H a (dX X.prog X.w a ys)) s' → DS X.prog X.w X.K (upd H a (dX X.prog X.w a ys)) a (putK kvs k v) → Q () s') : wpAny (model X.prog X.w) X.A (dictSet a u r) Q E s := by
  cases (show u = Value.ref b from ry)
  obtain ⟨hd, xs, e, rel, dd⟩ := dx_at I d
  have hl : xs.length ≤ sizeLine := by rw [← Paired.length rel]; omega
  exact wpAny_dictSet_heap (hsz := hl) (show (tupleKind (mixKind X.prog X.w)).room X.A from (show X.A.units < cLine by omega)) (keyC I eb) dd fun h' dd' hs => by
    obtain ⟨J, d'⟩ := dx_put (t' := s.toks + (tupleKind (mixKind X.prog X.w)).draws k) I e rel hz hd eb rv dd' hs
    exact h _ _ J d'
end
section
variable {X : Cx}
def DcX (P : Program) (w : World) (K : PySem.W.Frag) (g : TG) (tt : TT) (tk tv : TE) (vs : List Nat) (σ : L2.St) (Q : VK) (J : It) (H1 : Hp) : Prop := ∀ D, H1 D = none → ∃ W : Nat → Nat → Hp → Prop, (∃ m, W 0 m (upd H1 D (dX P w D []))) ∧ ∀ i m H, W i m H →
  (J.stop i H ∧ Q (.ref D) H) ∨ (J.go i H ∧ ∃ Nx : Hp → Prop, (∀ H', Nx H' → ∃ m', m' < m ∧ W (i + 1) m' H') ∧ ∀ x H', J.yld i H x H' → g x (wipe σ vs) H' fun σ2 H2 => wipe σ2 vs = wipe σ vs ∧ tt σ2 H2 fun t H3 =>
    if t = true then tk σ2 H3 fun y H4 => tv σ2 H4 fun z H5 => ∃ kvs k b, y = .ref b ∧ SqT K H5 b (k.map kV) ∧ DS P w K H5 D kvs ∧ kvs.length < sizeLine ∧ (∀ ys, DS P w K (upd H5 D (dX P w D ys)) D (putK kvs k z) → Nx (upd H5 D (dX P w D ys))) else Nx H3)
def tDcX (P : Program) (w : World) (K : PySem.W.Frag) (wi : TI) (g : TG) (tt : TT) (tk tv : TE) (vs : List Nat) : TE := fun σ H Q => wi σ H fun J H1 => DcX P w K g tt tk tv vs σ Q J H1
theorem pe_dcX {kx vx tg iter : Expr} {ifs : List Expr} {scope : Scope} {own : List (Str × Nat)} {pos : Pos} {wi : TI} {g : TG} {tt : TT} {tk tv : TE} (hu : X.A.units + 1 < cLine) (hc : X.calm = true) (hN : X.N.Nodup) (hi : PI X tg iter wi) (ok : BlkOk X.N X.env.scope scope own)
    (hg : ∀ (s : Shared) (H : Hp) (C : Addr) (cl : List (Str × Addr)) (fp : List Addr), PG (X.blk s H scope (compEnvC scope cl C X.env) fp) tg g) (ht : ∀ (s : Shared) (H : Hp) (C : Addr) (cl : List (Str × Addr)) (fp : List Addr), PTs (X.blk s H scope (compEnvC scope cl C X.env) fp) ifs tt)
    (hk : ∀ (s : Shared) (H : Hp) (C : Addr) (cl : List (Str × Addr)) (fp : List Addr), PE (X.blk s H scope (compEnvC scope cl C X.env) fp) kx tk)
    (he : ∀ (s : Shared) (H : Hp) (C : Addr) (cl : List (Str × Addr)) (fp : List Addr), PE (X.blk s H scope (compEnvC scope cl C X.env) fp) vx tv) (hs : ∀ x, foldedSetIterable iter X.env x = pure x := by intro _; rfl) :
    PE X (.DictComp kx vx [⟨tg, iter, ifs, 0⟩] scope pos) (tDcX X.prog X.w X.K wi g tt tk tv (own.map (·.2))) := by
  refine ⟨fun pins s σ H Q I h => ?_⟩
  rw [arm_eval_DictComp]
  have free : ∀ y ∈ scope.names, y.2 = .free → ∃ c, X.env.cells.lookup y.1 = some c := fun y hy e => by
    rcases ok.free y hy e with k | k
    · exact I.ok.has _ (.inl k)
    · exact I.ok.has _ (.inr k)
  refine wpAny_comprehension_free rfl hs (closure_ok free) ok.kind (fun y hy e => by rw [ok.uniq y hy, e]) (thn (hi.run pins s σ H _ I h) fun xv s1 hx => thn hx fun itv s2 h2 => ?_)
  obtain ⟨it, fp, tn, J, H2, rfl, I2, T, st2, f2, q⟩ := h2
  -- the dict that is made, at D
  obtain ⟨D, hD⟩ : ∃ D : Addr, D = s2.heap.objs.size := ⟨_, rfl⟩
  have D0 : H2 D = none := I2.hok.fresh (Nat.le_of_eq hD.symm)
  obtain ⟨W, ⟨m0, w0⟩, turn⟩ := q D D0
  refine wpAny_newObj_type (newEnv_comp ?_)
  rw [← hD]
  obtain ⟨s3, e3⟩ : ∃ s3 : Shared, s3 = { s2 with heap := s2.heap.push { cls := .type "dict", data := .dict #[] } } := ⟨_, rfl⟩
  have p3 : ∀ b o, s2.heap.get? b = some o → s3.heap.get? b = some o := fun b o e => by rw [e3]; exact Heap.get?_push_of_some _ e
  have I3 : Inv X pins σ (upd H2 D (dX X.prog X.w D [])) s3 := by
    rw [e3]
    exact I2.laid (t' := s2.toks) (fun b o e => Heap.get?_push_of_some _ e) (Nat.le_of_eq hD.symm) (by rw [hD]; exact dX_new s2.heap I2.big)
  have f3 : ∀ b ∈ fp, FpOk X pins (upd H2 D (dX X.prog X.w D [])) b ∧ b < s3.heap.objs.size := fun b hb => by
    obtain ⟨o, e, _⟩ := T.obj _ _ st2 b hb
    exact ⟨⟨by rw [upd_ne (by rw [hD]; exact Nat.ne_of_lt (Heap.lt_size e))]; exact (f2 b hb).1, (f2 b hb).2⟩, Heap.lt_size (p3 b o e)⟩
  have I4 := block_start I3 ok hN f3
  have pg := hg s3 (upd H2 D (dX X.prog X.w D [])) s3.heap.objs.size (cellsFrom (s3.heap.objs.size + 1) scope.names (cloFrom X.env.cells scope.names [])) fp
  have pt := ht s3 (upd H2 D (dX X.prog X.w D [])) s3.heap.objs.size (cellsFrom (s3.heap.objs.size + 1) scope.names (cloFrom X.env.cells scope.names [])) fp
  have pk := hk s3 (upd H2 D (dX X.prog X.w D [])) s3.heap.objs.size (cellsFrom (s3.heap.objs.size + 1) scope.names (cloFrom X.env.cells scope.names [])) fp
  have pe := he s3 (upd H2 D (dX X.prog X.w D [])) s3.heap.objs.size (cellsFrom (s3.heap.objs.size + 1) scope.names (cloFrom X.env.cells scope.names [])) fp
  rw [← e3]
  show codeAny _ _ (.compStart (.DictComp kx vx [⟨tg, iter, ifs, 0⟩] scope pos) 0 (.ref it) (.ref D) (compEnvC scope (cellsFrom (s3.heap.objs.size + 1) scope.names (cloFrom X.env.cells scope.names [])) s3.heap.objs.size X.env))
    (compPost (model X.prog X.w) X.A X.xe none (EP X pins σ Q) (.ref D) s3.heap.objs.size) { s3 with heap := pushCells (s3.heap.push { cls := .type "dict", data := .dict #[] }) scope.names }
  have nf : ∀ b ∈ fp, (upd H2 D (dX X.prog X.w D [])) b = none := fun b hb => (f3 b hb).1.1
  have t4 : tn 0 (pushCells (s3.heap.push { cls := .type "dict", data := .dict #[] }) scope.names) := T.keep _ _ _ st2 fun b _ o e => pushCells_keeps _ _ _ _ (Heap.get?_push_of_some _ (p3 b o e))
  generalize hce : compEnvC scope (cellsFrom (s3.heap.objs.size + 1) scope.names (cloFrom X.env.cells scope.names [])) s3.heap.objs.size X.env = ce at I4 pg pt pk pe ⊢
  have cL : ce.locals = s3.heap.objs.size := by rw [← hce]; rfl
  generalize upd H2 D (dX X.prog X.w D []) = H3 at I3 f3 I4 pg pt pk pe nf w0
  generalize hs4 : ({ s3 with heap := pushCells (s3.heap.push { cls := .type "dict", data := .dict #[] }) scope.names } : Shared) = s4 at I4 ⊢
  have t4' : tn 0 s4.heap := by rw [← hs4]; exact t4
  -- the iterator's objects stand outside of the block
  have outer : ∀ {σ' : L2.St} {H' : Hp} {s' : Shared}, Inv (X.blk s3 H3 scope ce fp) [] σ' H' s' → (∀ b ∈ fp, H' b = none) → ∀ b ∈ fp, FpOk (X.blk s3 H3 scope ce fp) [] H' b := fun {σ' H' s'} J n b hb =>
    ⟨n b hb, (J.ok.exf b hb).1, J.ok.exfs b hb, .inl hb, fun x c e => (J.ok.exf b hb).2 x c e, fun p hp => absurd (show p ∈ ([] : List (Addr × Obj)) ++ [] from hp) (by simp)⟩
  have loop : codeAny (model X.prog X.w) X.A (.compLoop (.DictComp kx vx [⟨tg, iter, ifs, 0⟩] scope pos) 0 (.ref it) (.ref D) ce) (compPost (model X.prog X.w) X.A X.xe none (EP X pins σ Q) (.ref D) s3.heap.objs.size) s4 := by
    refine compLoop_anyD (fun n s' => ∃ i H', Inv (X.blk s3 H3 scope ce fp) [] (wipe σ (own.map (·.2))) H' s' ∧ tn i s'.heap ∧ (∀ b ∈ fp, H' b = none) ∧ W i n H') ?_ m0 ⟨0, H3, I4, t4', nf, w0⟩
    rintro n s5 ⟨i, H5, I5, t5, n5, w5⟩
    rcases turn i n H5 w5 with ⟨stop, fin⟩ | ⟨go, Nx, hNx, step⟩
    · -- the walk is at its end: the def goes on
      refine thnF (T.done (X.blk s3 H3 scope ce fp) rfl rfl rfl hc i [] s5 _ H5 (fun _ _ => False) I5 (outer I5 n5) t5 stop) fun r s6 ⟨hr, I6⟩ => ?_
      subst hr
      have I7 : Inv X pins σ H5 s6 := I3.call' (ch := fp) I6.os I6.base I6.hok I6.bare fun b hb => ⟨(f3 b hb).1.2.2.2.1, (f3 b hb).1.2.1, (f3 b hb).1.2.2.2.2.1, (f3 b hb).1.2.2.2.2.2⟩
      have nC : H5 s3.heap.objs.size = none := by rw [← cL]; exact I6.free
      obtain ⟨m, hn, _⟩ := I6.loc
      have hn' : s6.heap.Ns s3.heap.objs.size m := by rw [← cL]; exact hn
      obtain ⟨g0, g1, g2, g3, g4, g5⟩ := I3.fpOk (Nat.le_refl _) nC
      exact ⟨m, hn', fun h'' sb => ⟨.ref D, H5, I7.turned (t' := s6.toks) (fun b o hb e => (sb.2 b hb).trans e) g0 g1 g3 g4 g5, rfl, fin⟩⟩
    · -- one more turn
      refine thnF (T.item (X.blk s3 H3 scope ce fp) rfl rfl rfl hc i [] s5 _ H5 (fun _ _ => False) I5 (outer I5 n5) t5 go) fun r s6 ⟨u, hr, h6⟩ => ?_
      subst hr
      refine thnF h6 fun _ s7 ⟨x, H7, I7, r7, y7, t7, n7⟩ => ?_
      have I7' := I7.pinned (outer I7 n7) (T.obj _ _ t7)
      refine thnF (pg.run _ s7 _ H7 x u _ I7' r7 (step x H7 y7)) fun _ s8 ⟨σ8, H8, I8, w8, q8⟩ => ?_
      refine thnF (pt.run _ s8 σ8 H8 _ I8 q8) fun b s9 ⟨H9, I9, q9⟩ => ?_
      have again : ∀ {s' : Shared} {H' : Hp}, Inv (X.blk s3 H3 scope ce fp) ([] ++ pinsAt fp s7.heap) σ8 H' s' → Nx H' → ∃ m, m < n ∧ ∃ i H', Inv (X.blk s3 H3 scope ce fp) [] (wipe σ (own.map (·.2))) H' s' ∧ tn i s'.heap ∧ (∀ b ∈ fp, H' b = none) ∧ W i m H' := by
        intro s' H' J nx
        obtain ⟨m', hm, w'⟩ := hNx H' nx
        have stay : ∀ b ∈ fp, ∀ o, s7.heap.get? b = some o → s'.heap.get? b = some o ∧ H' b = none := fun b hb o e => by
          have z := J.pin (b, o) (List.mem_append_right _ (List.mem_append_right _ (mem_pinsAt hb e)))
          exact ⟨z.1, z.2.1⟩
        refine ⟨m', hm, i + 1, H', (J.unpinned (pins := [])).weak (by rw [← w8, wipe_length]) (fun j v e => ?_), T.keep _ _ _ t7 fun b hb o e => (stay b hb o e).1, fun b hb => ?_, w'⟩
        · rw [← w8] at e; exact (wipe_some e).1
        · obtain ⟨o, e, _⟩ := T.obj _ _ t7 b hb
          exact (stay b hb o e).2
      cases b with
      | false =>
        simp only [Bool.false_eq_true, if_false] at q9 ⊢
        exact again I9 q9
      | true =>
        simp only [if_true] at q9 ⊢
        refine thnF (pk.run _ s9 σ8 H9 _ I9 q9) fun ky s10 ⟨yk, H10, I10, r10, q10⟩ => ?_
        refine thnF (pe.run _ s10 σ8 H10 _ I10 q10) fun vv s11 ⟨yv, H11, I11, r11, kvs, k, kb, ek, hkb, hD11, hz11, nx⟩ => ?_
        subst ek
        exact dx_dset (X := X.blk s3 H3 scope ce fp) hu I11 hD11 hz11 hkb r10 r11 fun s12 ys I12 d12 => again I12 (nx ys d12)
  exact codeAny_compStart_dict loop (T.self X.A 0 _ _ _ t4' loop)
end
/-- d[y] -/
def tDGetX (P : Program) (w : World) (K : PySem.W.Frag) (td ty : TE) : TE := fun σ H Q => td σ H fun x H1 => ty σ H1 fun y H2 => ∃ a v, x = .ref a ∧ GX P w K H2 a y (some v) ∧ Q v H2
/-- d.get(y, z) -/
def tDGet2X (P : Program) (w : World) (K : PySem.W.Frag) (td ty tx : TE) : TE := fun σ H Q => td σ H fun x H1 => ∃ a, x = .ref a ∧ (∃ kvs, DS P w K H1 a kvs) ∧ ty σ H1 fun y H2 => tx σ H2 fun z H3 => ∃ o, GX P w K H3 a y o ∧ Q (o.getD z) H3
/-- y in d -/
def tDInX (P : Program) (w : World) (K : PySem.W.Frag) (ty td : TE) : TE := fun σ H Q => ty σ H fun y H1 => td σ H1 fun x H2 => ∃ a o, x = .ref a ∧ GX P w K H2 a y o ∧ Q (.bl o.isSome) H2
/-- d[y] = v -/
def sDPutX (P : Program) (w : World) (K : PySem.W.Frag) (td ty tv : TE) : TS := fun D σ H => tv σ H fun v H1 => td σ H1 fun x H2 => ty σ H2 fun y H3 => ∃ a kvs k b, x = .ref a ∧ y = .ref b ∧ DS P w K H3 a kvs ∧ kvs.length < sizeLine ∧
  SqT K H3 b (k.map kV) ∧ ∀ ys, DS P w K (upd H3 a (dX P w a ys)) a (putK kvs k v) → D.nx σ (upd H3 a (dX P w a ys))
/-- {} -/
def tDNewX (P : Program) (w : World) (K : PySem.W.Frag) : TE := fun _ H Q => ∀ p, H p = none → DS P w K (upd H p (dX P w p [])) p [] → Q (.ref p) (upd H p (dX P w p []))
section
variable {X : Cx} {o i e f value : Expr} {pos pos' apos cpos : Pos} {td ty tv tx : TE}
theorem dx_typeIs {pins : List (Addr × Obj)} {σ : L2.St} {H : Hp} {s : Shared} {a : Addr} {kvs : List (List Key × V)} (I : Inv X pins σ H s) (d : DS X.prog X.w X.K H a kvs) :
    s.TypeIs (.ref a) "dict" ∧ ∀ b, Value.ref a = .ref b → ∃ ob, s.heap.get? b = some ob ∧ ob.dict = none := by
  obtain ⟨_, xs, _, _, dd⟩ := dx_at I d
  refine ⟨dd.typeIs, fun b q => ?_⟩
  cases q
  obtain ⟨ob, _, _, h1, h2, _⟩ := dd
  exact ⟨ob, h1, h2.2.1⟩
theorem pe_dgetX (hu : X.A.units + 1 < cLine) (ho : PE X o td) (hi : PE X i ty) (hs : NoSl i) : PE X (.Subscript o i pos) (tDGetX X.prog X.w X.K td ty) := by
  refine ⟨fun pins s σ H Q I h => ?_⟩
  refine subD_of PySem.F.slot_dict_getitem.lookup hs (thn (ho.run pins s σ H _ I h) fun u s1 ⟨x, H1, I1, rx, q1⟩ => thn (hi.run pins s1 σ H1 _ I1 q1) fun iv s2 ⟨y, H2, I2, ry, a, v, ex, g, q2⟩ => ?_)
  subst ex
  obtain rfl : u = Value.ref a := rx
  have t := dx_typeIs I2 g.choose_spec.choose_spec.choose_spec.1
  exact ⟨t.1, dx_get hu I2 g ry fun w' s3 I3 rw' => ⟨v, H2, I3, rw', q2⟩⟩
theorem pc_dinX (hu : X.A.units + 1 < cLine) (hi : PE X i ty) (ho : PE X o td) : PC X .In i o (tDInX X.prog X.w X.K ty td) := by
  refine ⟨fun pins s σ H Q I h => ?_⟩
  refine thn (hi.run pins s σ H _ I h) fun iv s1 ⟨y, H1, I1, ry, q1⟩ => thn (ho.run pins s1 σ H1 _ I1 q1) fun u s2 ⟨x, H2, I2, rx, a, ov, ex, g, q2⟩ => ?_
  subst ex
  obtain rfl : u = Value.ref a := rx
  exact dx_in hu I2 g ry fun s3 I3 => ⟨.bl ov.isSome, H2, I3, rfl, q2⟩
theorem pe_dget2X (hu : X.A.units + 1 < cLine) (ho : PE X o td) (he : PE X e ty) (hf : PE X f tx) (m : M2 X o "get" apos e f cpos) : PE X (.Call (.Attribute o "get" apos) [e, f] [] cpos) (tDGet2X X.prog X.w X.K td ty tx) := by
  refine ⟨fun pins s σ H Q I h => ?_⟩
  refine wpAny_Call_method m.base m.few m.line PySem.F.plainAttrs_dict PySem.F.slot_dict_get PySem.F.type_dict_get (thn (ho.run pins s σ H _ I h) fun u s1 ⟨x, H1, I1, rx, a, ex, ⟨kvs, d⟩, q1⟩ => ?_)
  subst ex
  obtain rfl : u = Value.ref a := rx
  obtain ⟨t1, t2⟩ := dx_typeIs I1 d
  refine ⟨t1, t2, ?_⟩
  rw [m.trees]
  refine Calls.callWith_builtin rfl (Calls.evalArgs_plain (Calls.spliced_cons (thn (he.run pins s1 σ H1 _ I1 q1) fun iv s2 ⟨y, H2, I2, ry, q2⟩ =>
    Calls.spliced_cons (thn (hf.run pins s2 σ H2 _ I2 q2) fun fv s3 ⟨z, H3, I3, rz, ov, g, q3⟩ => Calls.spliced_nil ?_))))
  exact dx_get2 hu I3 g ry rz fun w' s4 I4 rw' => ⟨_, H3, I4, rw', q3⟩
theorem ps_dputX (hu : X.A.units + 1 < cLine) (ho : PE X o td) (hi : PE X i ty) (hv : PE X value tv) (hs : swapsWith value (some (.Subscript o i pos')) pos.line X.env = pure false) :
    PS X (.Assign [.Subscript o i pos'] value pos) (sDPutX X.prog X.w X.K td ty tv) := by
  refine ⟨fun pins s σ H D I h => ?_⟩
  refine wpAny_Assign_Subscript (thn (hv.run pins s σ H _ I h) fun r s1 ⟨v, H1, I1, rv, q1⟩ => thn (ho.run pins s1 σ H1 _ I1 q1) fun u s2 ⟨x, H2, I2, rx, q2⟩ => thn (hi.run pins s2 σ H2 _ I2 q2) fun iv s3 ⟨y, H3, I3, ry, a, kvs, k, b, ex, ey, d, hz, eb, q3⟩ => ?_) hs
  subst ex ey
  obtain rfl : u = Value.ref a := rx
  exact dx_set hu I3 d hz eb ry rv fun s4 ys I4 d4 => ⟨σ, _, I4, q3 ys d4⟩
theorem pe_dnewX : PE X (.Dict [] [] pos) (tDNewX X.prog X.w X.K) := ⟨fun pins s σ H Q I h =>
  wpAny_Dict_empty ⟨.ref s.heap.objs.size, _, I.laid (a := s.heap.objs.size) (o := dX X.prog X.w s.heap.objs.size []) (t' := s.toks) (fun _ _ q => Heap.get?_push_of_some _ q) (Nat.le_refl _) (dX_new s.heap I.big), rfl,
    h _ (I.hok.fresh (Nat.le_refl _)) DS.nil⟩⟩
theorem pe_dgetXk {K : PySem.W.Frag} {P : Program} {w : World} (hu : X.A.units + 1 < cLine) (ho : PE X o td) (hi : PE X i ty) (e : X.K = K) (e1 : X.prog = P) (e2 : X.w = w) (hs : NoSl i) : PE X (.Subscript o i pos) (tDGetX P w K td ty) := by
  subst e e1 e2
  exact pe_dgetX hu ho hi hs
/-- d.items() -/
def tItemsX (P : Program) (w : World) (K : PySem.W.Frag) (td : TE) : TE := fun σ H Q => td σ H fun x H1 => ∃ a kvs, x = .ref a ∧ DS P w K H1 a kvs ∧ ∀ p, H1 p = none → Q (.ref p) (upd H1 p (L2.DX.itemsO p a))
theorem pe_ditemsX (ho : PE X o td) (hbase : attributeBase o "items" X.env (eval o X.env) = eval o X.env := by rfl) (hline : (apos.endLine == cpos.line) = true := by rfl) : PE X (.Call (.Attribute o "items" apos) [] [] cpos) (tItemsX X.prog X.w X.K td) := by
  refine ⟨fun pins s σ H Q I h => ?_⟩
  refine wpAny_Call_method0_late hbase hline (thn (ho.run pins s σ H _ I h) fun v s1 ⟨x, H1, I1, r1, a, kvs, ex, d, q⟩ => ?_)
  subst ex
  obtain rfl : v = Value.ref a := r1
  obtain ⟨t1, t2⟩ := dx_typeIs I1 d
  refine ⟨"dict", _, PySem.F.plainAttrs_dict, PySem.F.slot_dict_items, PySem.F.type_dict_items, t1, t2, Calls.callWith_builtin rfl (PySem.evalArgs_none ?_)⟩
  obtain ⟨hd, xs, _, _, o', es, ep, e1, e2, e3, _⟩ := dx_at I1 d
  exact DT.callItems (es := es) (ep := ep) hd ⟨o', e1, e2, e3⟩ ⟨.ref s1.heap.objs.size, upd H1 s1.heap.objs.size (L2.DX.itemsO s1.heap.objs.size a), I1.laid (t' := s1.toks) (fun b u e => Heap.get?_push_of_some _ e) (Nat.le_refl _) (L2.DX.itemsO_ok (Heap.get?_push_size _ rfl)), rfl, q _ (I1.hok.fresh (Nat.le_refl _))⟩
end
end Es

set_option Elab.async false
set_option linter.all false
set_option maxRecDepth 100000
set_option maxHeartbeats 4000000
/-! Rows and bundles as data; dicts with tuple keys, as rules of reading. -/
namespace Es
open PySem PySem.Spec PyProof.Rows L2 Bd Dj
theorem DS.keep {P : Program} {w : World} {K : PySem.W.Frag} {H H' : Hp} {a : Addr} {kvs : List (List Key × V)} (e : Same H H') (h : DS P w K H a kvs) : DS P w K H' a kvs := by
  obtain ⟨z, xs, h1, h2⟩ := h
  exact ⟨z, xs, e _ _ h1, h2.keeps fun b ys q => Rd.same_tup e q⟩
theorem DS.keepT {P : Program} {w : World} {K : PySem.W.Frag} {H H' : Hp} {a : Addr} {kvs : List (List Key × V)} (e : H' a = H a) (t : ∀ q ys, SqT K H q ys → SqT K H' q ys) (h : DS P w K H a kvs) : DS P w K H' a kvs := by
  obtain ⟨z, xs, h1, h2⟩ := h
  exact ⟨z, xs, e.trans h1, h2.keeps t⟩
theorem GX.of {P : Program} {w : World} {K : PySem.W.Frag} {H : Hp} {a kq : Addr} {p : Ast} {m : List (Ast × V)} (d : DS P w K H a (eD m)) (e : SqT K H kq [.str p.1, .int p.2]) : GX P w K H a (.ref kq) (valV (eD m) (eK p)) := ⟨eD m, eK p, kq, d, rfl, e, rfl⟩
theorem encR_nl (e : Ast × Int) : nl (encR e) = true := by simp [encR, nl, nlAll]
theorem encR_nd (e : Ast × Int) : nd (encR e) = true := by simp [encR, nd, ndAll]
theorem encR_nb (e : Ast × Int) : nb (encR e) = true := by simp [encR, nb, nbAll]
theorem encA_nl (e : Ast) : nl (encA e) = true := by simp [encA, nl, nlAll]
theorem encA_nd (e : Ast) : nd (encA e) = true := by simp [encA, nd, ndAll]
theorem encA_nb (e : Ast) : nb (encA e) = true := by simp [encA, nb, nbAll]
section
variable {K : PySem.W.Frag} {H : Hp}
theorem dpRow {x : V} {e : Ast × Int} (h : Dp K H x (encR e)) : ∃ z kq, x = .ref z ∧ SqT K H z [.ref kq, .int e.2] ∧ SqT K H kq [.str e.1.1, .int e.1.2] := by
  obtain ⟨z, u, v, rfl, hz, hu, hv⟩ := dp_pair h
  obtain ⟨kq, a, b, rfl, hk, ha, hb⟩ := dp_pair hu
  cases dp_str ha; cases dp_int hb; cases dp_int hv
  exact ⟨z, kq, rfl, hz, hk⟩
theorem rowDp {z kq : Addr} {p : Ast} {q : Int} (h : SqT K H z [.ref kq, .int q]) (k : SqT K H kq [.str p.1, .int p.2]) : Dp K H (.ref z) (encR (p, q)) := .tup h (.cons (.tup k (.cons (.str _) (.cons (.int _) .nil))) (.cons (.int _) .nil))
theorem astDp {kq : Addr} {p : Ast} (k : SqT K H kq [.str p.1, .int p.2]) : Dp K H (.ref kq) (encA p) := .tup k (.cons (.str _) (.cons (.int _) .nil))
theorem dpAst {x : V} {p : Ast} (h : Dp K H x (encA p)) : ∃ z, x = .ref z ∧ SqT K H z [.str p.1, .int p.2] := by
  obtain ⟨z, u, v, rfl, hz, hu, hv⟩ := dp_pair h
  cases dp_str hu; cases dp_int hv
  exact ⟨z, rfl, hz⟩
theorem rowAt {xs : List V} {R : List (Ast × Int)} {i : Nat} {x : V} (h : DpAll K H xs (R.map encR)) (hi : xs[i]? = some x) : ∃ z kq e, x = .ref z ∧ R[i]? = some e ∧ SqT K H z [.ref kq, .int e.2] ∧ SqT K H kq [.str e.1.1, .int e.1.2] := by
  obtain ⟨d, hd, hx⟩ := dpAll_at h hi
  obtain ⟨e, he, rfl⟩ := map_at hd
  obtain ⟨z, kq, rfl, h1, h2⟩ := dpRow hx
  exact ⟨z, kq, e, rfl, he, h1, h2⟩
theorem rowsLen {xs : List V} {R : List (Ast × Int)} (h : DpAll K H xs (R.map encR)) : xs.length = R.length := by rw [Rd.dpAll_len h, List.length_map]
theorem rowsOf : ∀ {zs : List (Addr × (Ast × V))} {R : List (Ast × Int)}, zs.map (·.2) = R.map (fun e => (e.1, V.int e.2)) →
    (∀ z ∈ zs, ∃ kq, H z.1 = some (.tup [.ref kq, z.2.2]) ∧ SqT K H kq [.str z.2.1.1, .int z.2.1.2]) → DpAll K H (zs.map fun z => V.ref z.1) (R.map encR)
  | [], [], _, _ => .nil
  | z :: zs, [], h, _ => by simp at h
  | [], e :: R, h, _ => by simp at h
  | z :: zs, e :: R, h, k => by
    simp only [List.map_cons, List.cons.injEq] at h
    obtain ⟨kq, h1, h2⟩ := k z List.mem_cons_self
    rw [h.1] at h1 h2
    exact .cons (rowDp (SqT.of h1) h2) (rowsOf h.2 fun y hy => k y (List.mem_cons_of_mem _ hy))
end
/-- the bundle at b has the rows N -/
def BdS (P : Program) (w : World) (K : PySem.W.Frag) (H : Hp) (b : Addr) (N : List (Ast × Int)) : Prop := ∃ dx r d xs, H b = some (.ins (He.ga K "Bundle") dx [("_quantities", .ref d), ("rows", .ref r)]) ∧ H r = some (.tup xs) ∧ DpAll K H xs (N.map encR) ∧ DS P w K H d (eD (N.map fun e => (e.1, V.int e.2))) ∧ Nrm N
theorem BdS.keep {P : Program} {w : World} {K : PySem.W.Frag} {H H' : Hp} {b : Addr} {N : List (Ast × Int)} (h : BdS P w K H b N) (e : Same H H') : BdS P w K H' b N := by
  obtain ⟨dx, r, d, xs, h1, h2, h3, h4, h5⟩ := h
  exact ⟨dx, r, d, xs, e _ _ h1, e _ _ h2, dpAll_same e h3, h4.keep e, h5⟩
theorem BdS.nrm {P : Program} {w : World} {K : PySem.W.Frag} {H : Hp} {b : Addr} {N : List (Ast × Int)} (h : BdS P w K H b N) : Nrm N := by
  obtain ⟨_, _, _, _, _, _, _, _, h⟩ := h; exact h
/-- what tells the quantity of an asset in a bundle's dict -/
theorem tot_of {p : Ast} : ∀ {N : List (Ast × Int)}, (N.map (·.1)).Nodup → (valV (N.map fun e => (e.1, V.int e.2)) p).getD (.int 0) = .int (tot N p)
  | [], _ => rfl
  | e :: N, h => by
    have h1 : e.1 ∉ N.map (·.1) := (List.nodup_cons.mp h).1
    have h2 := tot_of (p := p) (List.nodup_cons.mp h).2
    by_cases q : e.1 = p
    · have hz : tot N p = 0 := tot_none (by rw [← q]; exact h1)
      rw [List.map_cons, valV_pos q]
      show V.int e.2 = V.int (tot (e :: N) p)
      have : tot (e :: N) p = e.2 + tot N p := by show (if e.1 = p then e.2 else 0) + tot N p = _; rw [if_pos q]
      rw [this, hz, Int.add_zero]
    · rw [List.map_cons, valV_neg q, h2]
      have : tot (e :: N) p = tot N p := by show (if e.1 = p then e.2 else 0) + tot N p = _; rw [if_neg q, Int.zero_add]
      rw [this]
theorem has_of {p : Ast} : ∀ {N : List (Ast × Int)}, (N.map (·.1)).Nodup → (∀ e ∈ N, e.2 ≠ 0) → (valV (N.map fun e => (e.1, V.int e.2)) p).isSome = decide (tot N p ≠ 0)
  | [], _, _ => rfl
  | e :: N, h, z => by
    have h1 : e.1 ∉ N.map (·.1) := (List.nodup_cons.mp h).1
    have h2 := has_of (p := p) (List.nodup_cons.mp h).2 fun f hf => z f (List.mem_cons_of_mem _ hf)
    by_cases q : e.1 = p
    · have hz : tot N p = 0 := tot_none (by rw [← q]; exact h1)
      rw [List.map_cons, valV_pos q]
      have : tot (e :: N) p = e.2 + tot N p := by show (if e.1 = p then e.2 else 0) + tot N p = _; rw [if_pos q]
      rw [this, hz, Int.add_zero]
      exact (decide_eq_true (z e List.mem_cons_self)).symm
    · rw [List.map_cons, valV_neg q, h2]
      have : tot (e :: N) p = tot N p := by show (if e.1 = p then e.2 else 0) + tot N p = _; rw [if_neg q, Int.zero_add]
      rw [this]
/-- the same of the first i keys, each taken once -/
theorem rowsC_dp {K : PySem.W.Frag} {H : Hp} {ps : List (Addr × Ast)} (h : AsS K H ps) : DpAll K H (ps.map fun z => V.ref z.1) ((ps.map (·.2)).map encA) := by
  induction ps with
  | nil => exact .nil
  | cons z ps ih => exact .cons (astDp (h z List.mem_cons_self)) (ih fun y hy => h y (List.mem_cons_of_mem _ hy))
end Es
namespace Re
open PySem PySem.Spec PyProof.Rows L2 Bd Es
section
variable {P : Program} {w : World} {K : PySem.W.Frag} {σ : L2.St} {H : Hp} {Q : VK} {td ty tx tv : TE} {n b c : L2.St → Hp → Prop} {r : VK}
theorem itemsX (k : td σ H fun x H1 => ∃ a kvs, x = .ref a ∧ DS P w K H1 a kvs ∧ ∀ p, H1 p = none → Q (.ref p) (upd H1 p (L2.DX.itemsO p a))) : tItemsX P w K td σ H Q := k
theorem dnewX (k : ∀ p, H p = none → DS P w K (upd H p (dX P w p [])) p [] → Q (.ref p) (upd H p (dX P w p []))) : tDNewX P w K σ H Q := k
theorem dget2X (k : td σ H fun x H1 => ∃ a, x = .ref a ∧ (∃ kvs, DS P w K H1 a kvs) ∧ ty σ H1 fun y H2 => tx σ H2 fun z H3 => ∃ o, GX P w K H3 a y o ∧ Q (o.getD z) H3) : tDGet2X P w K td ty tx σ H Q := k
theorem dgetX (k : td σ H fun x H1 => ty σ H1 fun y H2 => ∃ a v, x = .ref a ∧ GX P w K H2 a y (some v) ∧ Q v H2) : tDGetX P w K td ty σ H Q := k
theorem dinX (k : ty σ H fun y H1 => td σ H1 fun x H2 => ∃ a o, x = .ref a ∧ GX P w K H2 a y o ∧ Q (.bl o.isSome) H2) : tDInX P w K ty td σ H Q := k
theorem isX {a : Addr} {kvs : List (List Key × V)} {R : Addr → Prop} (h : DS P w K H a kvs) (k : R a) : ∃ a', V.ref a = .ref a' ∧ (∃ kvs, DS P w K H a' kvs) ∧ R a' := ⟨a, rfl, ⟨kvs, h⟩, k⟩
theorem dgetOX {a z : Addr} {m : List (Ast × V)} {p : Ast} {R : Option V → Prop} (h : DS P w K H a (eD m)) (hz : SqT K H z [.str p.1, .int p.2]) (k : R (valV m p)) : ∃ o, GX P w K H a (.ref z) o ∧ R o := ⟨_, GX.of h hz, by rw [valV_eD]; exact k⟩
theorem dgetSX {a z : Addr} {m : List (Ast × V)} {p : Ast} {v : V} {R : V → Prop} (h : DS P w K H a (eD m)) (hz : SqT K H z [.str p.1, .int p.2]) (e : valV m p = some v) (k : R v) : ∃ a' v', V.ref a = .ref a' ∧ GX P w K H a' (.ref z) (some v') ∧ R v' :=
  ⟨a, v, rfl, by rw [← e, ← valV_eD]; exact GX.of h hz, k⟩
theorem dputX (k : tv σ H fun v H1 => td σ H1 fun x H2 => ty σ H2 fun y H3 => ∃ a kvs k b, x = .ref a ∧ y = .ref b ∧ DS P w K H3 a kvs ∧ kvs.length < sizeLine ∧
  SqT K H3 b (k.map kV) ∧ ∀ ys, DS P w K (upd H3 a (dX P w a ys)) a (putK kvs k v) → n σ (upd H3 a (dX P w a ys))) : sDPutX P w K td ty tv ⟨n, r, b, c⟩ σ H := k
theorem dcTX {wi : TI} {g : TG} {tt : TT} {tk : TE} {vs : List Nat} (k : wi σ H fun J H1 => DcX P w K g tt tk tv vs σ Q J H1) : tDcX P w K wi g tt tk tv vs σ H Q := k
theorem dcLX {a : Addr} {xs : List V} {g : TG} {tt : TT} {tk : TE} {vs : List Nat} {H1 : Hp} (Pv : Addr → Nat → Hp → Prop) (h : SqL K H1 a xs) (h0 : ∀ D, H1 D = none → DS P w K (upd H1 D (dX P w D [])) D [] → Pv D 0 (upd H1 D (dX P w D [])))
    (hl : ∀ D i H, i ≤ xs.length → Pv D i H → SqL K H a xs)
    (hs : ∀ D i x H, H1 D = none → xs[i]? = some x → Pv D i H → g x (wipe σ vs) H fun σ2 H2 => wipe σ2 vs = wipe σ vs ∧ tt σ2 H2 fun t H3 =>
      if t = true then tk σ2 H3 fun y H4 => tv σ2 H4 fun z H5 => ∃ kvs k b, y = .ref b ∧ SqT K H5 b (k.map kV) ∧ DS P w K H5 D kvs ∧ kvs.length < sizeLine ∧
        (∀ ys, DS P w K (upd H5 D (dX P w D ys)) D (putK kvs k z) → Pv D (i + 1) (upd H5 D (dX P w D ys))) else Pv D (i + 1) H3)
    (hd : ∀ D H, H1 D = none → Pv D xs.length H → Q (.ref D) H) : ∃ p, V.ref a = .ref p ∧ (∃ ys, SqL K H1 p ys) ∧ DcX P w K g tt tk tv vs σ Q (Itl K p) H1 := by
  refine ⟨a, rfl, ⟨_, h⟩, fun D hD => ⟨fun i m H => m = xs.length - i ∧ i ≤ xs.length ∧ Pv D i H, ⟨xs.length, by simp, Nat.zero_le _, h0 D hD DS.nil⟩, ?_⟩⟩
  rintro i m H ⟨rfl, hi, p⟩
  have q := hl D i H hi p
  by_cases hlt : i < xs.length
  · refine .inr ⟨⟨xs, xs[i], q, by simp [hlt]⟩, Pv D (i + 1), fun H' p' => ⟨xs.length - (i + 1), by omega, rfl, hlt, p'⟩, fun x H' y => ?_⟩
    obtain ⟨e, y⟩ := y
    subst e
    exact hs D i x _ hD (y xs q) p
  · have e : i = xs.length := by omega
    subst e
    refine .inl ⟨⟨xs, q, Nat.le_refl _⟩, hd D H hD p⟩
end
end Re
namespace Re
open PySem PySem.Spec PyProof.Rows L2 Bd Es
theorem cxP {CX : CXT} {P : Program} {w : World} {K : PySem.W.Frag} {mg : Str → Option Value} {base : Heap} {N : List Str} {q : Str} {sc : Scope} {f : Addr} {cdv : Value} {A : Around} {outer : List Env} {s : Shared} {H : Hp} {E : XK} : (cxOf CX P w K mg base N q sc f cdv A outer s H E).prog = P := rfl
theorem cxW {CX : CXT} {P : Program} {w : World} {K : PySem.W.Frag} {mg : Str → Option Value} {base : Heap} {N : List Str} {q : Str} {sc : Scope} {f : Addr} {cdv : Value} {A : Around} {outer : List Env} {s : Shared} {H : Hp} {E : XK} : (cxOf CX P w K mg base N q sc f cdv A outer s H E).w = w := rfl
end Re
namespace Es
open PySem PySem.Spec PyProof.Rows L2 Bd Dj
section
variable {P : Program} {w : World} {K : PySem.W.Frag} {H H' : Hp} {b : Addr}
/-- all but what stands at b -/
def Beside (b : Addr) (H H' : Hp) : Prop := ∀ a o, a ≠ b → H a = some o → H' a = some o
theorem Beside.sqT {C dx : Addr} {fs : List (Str × V)} (e : Beside b H H') (hb : H b = some (.ins C dx fs)) {a : Addr} {xs : List V} (h : SqT K H a xs) : SqT K H' a xs := by
  rcases h with (h | ⟨o, h⟩) | h
  · exact .inl (.inl (e _ _ (fun q => by rw [q, hb] at h; cases h) h))
  · exact .inl (.inr ⟨o, e _ _ (fun q => by rw [q, hb] at h; cases h) h⟩)
  · exact .inr h
theorem Beside.sqL {C dx : Addr} {fs : List (Str × V)} (e : Beside b H H') (hb : H b = some (.ins C dx fs)) {a : Addr} {xs : List V} (h : SqL K H a xs) : SqL K H' a xs := by
  rcases h with (h | ⟨o, h⟩) | h
  · exact .inl (.inl (e _ _ (fun q => by rw [q, hb] at h; cases h) h))
  · exact .inl (.inr ⟨o, e _ _ (fun q => by rw [q, hb] at h; cases h) h⟩)
  · exact .inr h
theorem Beside.dp {C dx : Addr} {fs : List (Str × V)} (e : Beside b H H') (hb : H b = some (.ins C dx fs)) : ∀ {x : V} {d : PyData}, Dp K H x d → Dp K H' x d
  | _, _, .non => .non
  | _, _, .bl b => .bl b
  | _, _, .int i => .int i
  | _, _, .str x => .str x
  | _, _, .lst h a => .lst (e.sqL hb h) (go e hb a)
  | _, _, .tup h a => .tup (e.sqT hb h) (go e hb a)
where go {C dx : Addr} {fs : List (Str × V)} (e : Beside b H H') (hb : H b = some (.ins C dx fs)) : ∀ {xs : List V} {ds : List PyData}, DpAll K H xs ds → DpAll K H' xs ds
  | _, _, .nil => .nil
  | _, _, .cons h t => .cons (Beside.dp e hb h) (go e hb t)
theorem Beside.dpAll {C dx : Addr} {fs : List (Str × V)} (e : Beside b H H') (hb : H b = some (.ins C dx fs)) {xs : List V} {ds : List PyData} (h : DpAll K H xs ds) : DpAll K H' xs ds := Beside.dp.go e hb h
end
/-- what isinstance and != ask of a class -/
structure IsX (K : PySem.W.Frag) (C : Addr) : Prop where
  isc : C8.InsC K C
  ne : PySem.W.findIn K (.ref C) "__ne__" = some (some (.builtin "object.__ne__"))
  ob : PySem.W.subIn K (.ref C) (.type "object") = some true
theorem IsX.mk' {K : PySem.W.Frag} {C : Addr} (c : Cls K C) (h : exE K C = true) : IsX K C := by
  unfold exE at h
  simp only [Bool.and_eq_true] at h
  obtain ⟨h1, h2, h3, h4, h5, h6, h7⟩ := h
  exact ⟨⟨c, He.eqO_ok h1, of_decide_eq_true h2, of_decide_eq_true h3, of_decide_eq_true h4, of_decide_eq_true h5⟩, He.eqO_ok h6, of_decide_eq_true h7⟩
end Es
namespace Re
open PySem PySem.Spec PyProof.Rows L2 Bd Es
section
variable {P : Program} {w : World} {K : PySem.W.Frag} {σ : L2.St} {H : Hp} {Q : VK} {E : XK} {ta : TE} {t : TA} {C a dx : Addr} {fs : List (Str × V)} {m : Str} {sp : Sp} {dvs : List V} {R : Prop}
theorem meth (k : ta σ H fun x H1 => ∃ a dx fs, x = .ref a ∧ H1 a = some (.ins C dx fs) ∧ fs.lookup m = none ∧ t σ H1 fun vs H2 => sp (x :: (vs ++ dvs)) H2 Q E) : tMeth C m sp dvs E ta t σ H Q := k
theorem prop (k : ta σ H fun x H1 => ∃ a dx fs, x = .ref a ∧ H1 a = some (.ins C dx fs) ∧ sp (.ref a :: dvs) H1 Q E) : tProp C sp dvs E ta σ H Q := k
theorem stat (k : ta σ H fun x H1 => x = .ref C ∧ t σ H1 fun vs H2 => sp vs H2 Q E) : tStat C sp E ta t σ H Q := k
theorem statC {x : V} (k : R) (e : x = .ref C) : x = .ref C ∧ R := ⟨e, k⟩
/-- an object that is told: its method, its property -/
theorem methI (h : H a = some (.ins C dx fs)) (l : fs.lookup m = none) (k : R) : ∃ a' dx' fs', V.ref a = .ref a' ∧ H a' = some (.ins C dx' fs') ∧ fs'.lookup m = none ∧ R := ⟨a, dx, fs, rfl, h, l, k⟩
theorem propI {S : Addr → Prop} (h : H a = some (.ins C dx fs)) (k : S a) : ∃ a' dx' fs', V.ref a = .ref a' ∧ H a' = some (.ins C dx' fs') ∧ S a' := ⟨a, dx, fs, rfl, h, k⟩
theorem bd_ins {b : Addr} {N : List (Ast × Int)} (h : BdS P w K H b N) : ∃ dx fs, H b = some (.ins (He.ga K "Bundle") dx fs) ∧ ∃ u v : V, fs = [(("_quantities" : Str), u), (("rows" : Str), v)] := by
  obtain ⟨dx, r, d, xs, h1, _⟩ := h
  exact ⟨dx, _, h1, _, _, rfl⟩
theorem methB {b : Addr} {N : List (Ast × Int)} (h : BdS P w K H b N) (n : ("_quantities" : Str) ≠ m ∧ ("rows" : Str) ≠ m) (k : R) : ∃ a' dx' fs', V.ref b = .ref a' ∧ H a' = some (.ins (He.ga K "Bundle") dx' fs') ∧ fs'.lookup m = none ∧ R := by
  obtain ⟨dx, fs, h1, u, v, rfl⟩ := bd_ins h
  exact ⟨b, dx, _, rfl, h1, by simp [List.lookup, beq_eq_false_iff_ne.mpr (Ne.symm n.1), beq_eq_false_iff_ne.mpr (Ne.symm n.2)], k⟩
theorem propB {b : Addr} {N : List (Ast × Int)} {S : Addr → Prop} (h : BdS P w K H b N) (k : S b) : ∃ a' dx' fs', V.ref b = .ref a' ∧ H a' = some (.ins (He.ga K "Bundle") dx' fs') ∧ S a' := by
  obtain ⟨dx, fs, h1, _⟩ := bd_ins h
  exact ⟨b, dx, _, rfl, h1, k⟩
theorem own2B {b c : Addr} {N M : List (Ast × Int)} (h : BdS P w K H b N) (h' : BdS P w K H c M) (k : sp [.ref b, .ref c] H Q E) : rOwn2 (He.ga K "Bundle") sp E (.ref b) (.ref c) H Q := by
  obtain ⟨dx, fs, h1, _⟩ := bd_ins h
  obtain ⟨dy, gs, h2, _⟩ := bd_ins h'
  exact ⟨b, c, dx, dy, fs, gs, rfl, rfl, h1, h2, k⟩
theorem own1B {b : Addr} {N : List (Ast × Int)} (h : BdS P w K H b N) (k : sp [.ref b] H Q E) : rOwn1 (He.ga K "Bundle") sp E (.ref b) H Q := by
  obtain ⟨dx, fs, h1, _⟩ := bd_ins h
  exact ⟨b, dx, fs, rfl, h1, k⟩
theorem rowsB {b : Addr} {N : List (Ast × Int)} {f : V → Prop} (h : BdS P w K H b N) (c : Cls K (He.ga K "Bundle")) (n : NoAttr K (He.ga K "Bundle") "rows") (k : ∀ r xs, H r = some (.tup xs) → DpAll K H xs (N.map encR) → f (.ref r)) :
    ∃ a' C' dx' fs' v', V.ref b = .ref a' ∧ H a' = some (.ins C' dx' fs') ∧ Cls K C' ∧ NoAttr K C' "rows" ∧ fs'.lookup ("rows" : Str) = some v' ∧ f v' := by
  obtain ⟨dx, r, d, xs, h1, h2, h3, _⟩ := h
  exact ⟨b, _, dx, _, _, rfl, h1, c, n, rfl, k r xs h2 h3⟩
theorem catT {a b : Addr} {xs ys : List V} (ha : SqT K H a xs) (hb : SqT K H b ys) (hl : xs.length + ys.length ≤ 100000) (k : ∀ p H', Same H H' → SqT K H' p (xs ++ ys) → Q (.ref p) H') : rCatA K (.ref a) (.ref b) H Q := Rb.catA ha hb hl k
end
end Re
namespace Re
open PySem PySem.Spec PyProof.Rows L2 Bd Es Dj
section
variable {K : PySem.W.Frag} {H : Hp} {Q : VK} {a b : Addr} {x y : Str} {i j : Int}
theorem neAst (h1 : SqT K H a [.str x, .int i]) (h2 : SqT K H b [.str y, .int j]) (o1 : OkA (x, i)) (o2 : OkA (y, j)) (k : Q (.bl (!decide ((x, i) = (y, j)))) H) : rNeD K (.ref a) (.ref b) H Q :=
  ⟨encA (x, i), encA (y, j), astDp h1, astDp h2, encA_shaped o1, encA_shaped o2, by rw [encA_eqv]; exact k⟩
theorem eqAst (h1 : SqT K H a [.str x, .int i]) (h2 : SqT K H b [.str y, .int j]) (o1 : OkA (x, i)) (o2 : OkA (y, j)) (k : Q (.bl (decide ((x, i) = (y, j)))) H) : rEqD K (.ref a) (.ref b) H Q :=
  ⟨encA (x, i), encA (y, j), astDp h1, astDp h2, encA_shaped o1, encA_shaped o2, by rw [encA_eqv]; exact k⟩
end
end Re
namespace Es
open PySem Bd
theorem fm_no {α β : Type} (f : α → β) (p : α → Prop) [DecidablePred p] : ∀ N : List α, N.filterMap (fun e => if p e then none else some (f e)) = (N.filter fun e => !decide (p e)).map f
  | [] => rfl
  | a :: N => by
    have ih := fm_no f p N
    by_cases h : p a <;> simp [List.filterMap_cons, List.filter_cons, h, ih]
theorem fm_yes {α β : Type} (f : α → β) (p : α → Prop) [DecidablePred p] : ∀ N : List α, N.filterMap (fun e => if p e then some (f e) else none) = (N.filter fun e => decide (p e)).map f
  | [] => rfl
  | a :: N => by
    have ih := fm_yes f p N
    by_cases h : p a <;> simp [List.filterMap_cons, List.filter_cons, h, ih]
end Es
namespace Es
open PySem PySem.Spec PyProof.Rows L2 Bd Dj
theorem asS_of {K : PySem.W.Frag} {H : Hp} : ∀ {xs : List V} {A : List Ast}, DpAll K H xs (A.map encA) → ∃ ps : List (Addr × Ast), xs = ps.map (fun z => V.ref z.1) ∧ ps.map (·.2) = A ∧ AsS K H ps
  | _, [], .nil => ⟨[], rfl, rfl, fun _ h => absurd h List.not_mem_nil⟩
  | _, p :: A, .cons h t => by
    obtain ⟨z, rfl, hz⟩ := dpAst h
    obtain ⟨ps, rfl, h2, h3⟩ := asS_of t
    refine ⟨(z, p) :: ps, rfl, by rw [List.map_cons, h2], fun y hy => ?_⟩
    rcases List.mem_cons.mp hy with rfl | hy
    · exact hz
    · exact h3 y hy
section
variable {X : Cx}
/-- sorted(xs), xs a list of assets -/
def rSortedSS (K : PySem.W.Frag) : List V → Hp → VK → Prop := fun vs H Q => ∃ (a : Addr) (xs : List V) (A : List Ast), vs = [.ref a] ∧ SqL K H a xs ∧ DpAll K H xs (A.map encA) ∧
  ∀ (B : List Ast) (ys : List V) (p : Addr), B.Perm A → SrtO.Srtd ltSI B → H p = none → DpAll K H ys (B.map encA) → Q (.ref p) (upd H p (.lst ys))
theorem cr_sortedSS : CallR X (.builtin "sorted") (rSortedSS X.K) := by
  intro pins s σ H xs us Q I r q
  obtain ⟨a, xs0, A, rfl, hs, hA0, q⟩ := q
  obtain ⟨ps0, rfl, rfl, hA⟩ := asS_of hA0
  obtain ⟨its, rv, hl, hz⟩ := I.list hs
  obtain ⟨u, rfl, ru⟩ := vals1 r
  obtain rfl : u = Value.ref a := ru
  have eb : its = ps0.map fun z => Value.ref z.1 := by
    have h1 : ∀ {ps : List (Addr × (Str × Int))} {us : List Value}, Vals (ps.map fun z => V.ref z.1) us → us = ps.map fun z => Value.ref z.1 := by
      intro ps
      induction ps with
      | nil => intro us h; cases h; rfl
      | cons z ps ih =>
        intro us h
        rw [List.map_cons] at h
        cases h with
        | cons h t => rw [ih t, List.map_cons, show _ = Value.ref z.1 from h]
    exact h1 rv
  have hsi : ∀ v ∈ its, IsSI s.heap v (siOf s.heap v) := fun v hv => by
    rw [eb] at hv
    obtain ⟨zz, hz, rfl⟩ := List.mem_map.mp hv
    have q := isSI_C I (hA zz hz)
    rw [q.of]; exact q
  refine SrtO.sorted_ord (ltv := fun v u => ltSI (siOf s.heap v) (siOf s.heap u)) (swo_SI (siOf s.heap)) hl.isList (by rw [← rv.length]; exact hz) (fun h2 h₁ a' ha' kk => ?_) fun out h1 h2 => ?_
  · refine si_sortable (s := { s with heap := h₁ }) (by omega) (fun v hm => (hsi v hm).keeps fun b o e _ => (kk b o e).2) fun o e => ?_
    have e' : some o = some (seqObj "list" its.toArray 0) := e.symm.trans ha'
    cases e'
    intro c
    exact absurd (Value.type.inj c) (by decide)
  · obtain ⟨ps, b1, b2⟩ := perm_lift (fun z : Addr × (Str × Int) => Value.ref z.1) h2.perm ps0 eb.symm
    have hAs : AsS X.K H ps := fun z hz => hA z (b1.mem_iff.mp hz)
    have hk2 : ∀ z ∈ ps, siOf s.heap (Value.ref z.1) = z.2 := fun z hz => (isSI_C I (hAs z hz)).of
    have hsr : SrtO.Srtd ltSI (ps.map (·.2)) := by
      rw [← b2] at h1
      have h1' := List.pairwise_map.mp h1
      refine List.pairwise_map.mpr (h1'.imp_of_mem fun {x y} hx hy hh => ?_)
      have hh' : ltSI (siOf s.heap (Value.ref y.1)) (siOf s.heap (Value.ref x.1)) = false := hh
      rw [hk2 x hx, hk2 y hy] at hh'
      exact hh'
    have hd : s.heap.objs.size ≤ s.heap.objs.size + 1 := Nat.le_succ _
    obtain ⟨n, hn⟩ := sortedAll_at s.heap its out.toArray
    refine ⟨.ref (s.heap.objs.size + 1), upd H (s.heap.objs.size + 1) (.lst (ps.map fun z => V.ref z.1)), I.laid (t' := s.toks) (fun b o e => sortedAll_old e) hd ⟨?_, out, n, ?_, hn⟩, rfl, q (ps.map (·.2)) _ _ (b1.map _) hsr (I.hok.fresh hd) (rowsC_dp hAs)⟩
    · rw [List.length_map] at hz ⊢; rw [b1.length_eq]; exact hz
    · rw [← b2]
      have := vals_refs (ps.map (·.1))
      rw [List.map_map, List.map_map] at this
      exact this
end
end Es
namespace Re
open PySem PySem.Spec PyProof.Rows L2 Bd Es Dj
theorem notInAst {K : PySem.W.Frag} {H : Hp} {Q : VK} {a b : Addr} {x : Str} {i : Int} {xs : List V} {A : List Ast} (h1 : SqT K H a [.str x, .int i]) (h2 : SqL K H b xs) (hA : DpAll K H xs (A.map encA)) (o1 : OkA (x, i)) (o2 : ∀ p ∈ A, OkA p) (k : Q (.bl (!decide ((x, i) ∈ A))) H) : rNotInD K (.ref a) (.ref b) H Q :=
  ⟨encA (x, i), A.map encA, astDp h1, .lst h2 hA, encA_shaped o1, encAs_shaped o2, by rw [encA_any]; exact k⟩
end Re
namespace Re
open PySem PySem.Spec PyProof.Rows L2 Bd Es Dj
theorem inOwnB {P : Program} {w : World} {K : PySem.W.Frag} {H : Hp} {Q : VK} {E : XK} {sp : Sp} {x : V} {b : Addr} {N : List (Ast × Int)} (h : BdS P w K H b N) (k : sp [.ref b, x] H (fun v H' => ∃ t, v = .bl t ∧ Q (.bl t) H') E) : rInOwn (He.ga K "Bundle") sp E x (.ref b) H Q := by
  obtain ⟨dx, fs, h1, _⟩ := bd_ins h
  exact ⟨b, dx, fs, rfl, h1, k⟩
theorem boolOwnB {P : Program} {w : World} {K : PySem.W.Frag} {H : Hp} {Q : VK} {E : XK} {sp : Sp} {b : Addr} {N : List (Ast × Int)} (h : BdS P w K H b N) (k : sp [.ref b] H (fun v H' => ∃ t, v = .bl t ∧ Q (.bl t) H') E) : rBoolOwn (He.ga K "Bundle") sp E [.ref b] H Q := by
  obtain ⟨dx, fs, h1, _⟩ := bd_ins h
  exact ⟨b, dx, fs, rfl, h1, k⟩
end Re
namespace Re
open PySem PySem.Spec PyProof.Rows L2 Bd Es Dj
theorem fldK {K : PySem.W.Frag} {H : Hp} {R : V → Prop} {a C dx : Addr} {fs : List (Str × V)} {f : Str} {v : V} (h : H a = some (.ins C dx fs)) (c : Cls K C) (n : NoAttr K C f) (l : fs.lookup f = some v) (k : R v) :
    ∃ a' C' dx' fs' v', V.ref a = .ref a' ∧ H a' = some (.ins C' dx' fs') ∧ Cls K C' ∧ NoAttr K C' f ∧ fs'.lookup f = some v' ∧ R v' := ⟨a, C, dx, fs, v, rfl, h, c, n, l, k⟩
end Re
namespace Es
open PySem PySem.Spec PyProof.Rows L2 Bd Dj
theorem astAt {K : PySem.W.Frag} {H : Hp} {xs : List V} {A : List Ast} {i : Nat} (h : DpAll K H xs (A.map encA)) (hi : i < A.length) : ∃ z p, atI xs (i : Int) = some (.ref z) ∧ A[i]? = some p ∧ p ∈ A ∧ SqT K H z [.str p.1, .int p.2] := by
  have hl : xs.length = A.length := by rw [Rd.dpAll_len h, List.length_map]
  have h1 : xs[i]? = some xs[i] := List.getElem?_eq_getElem (by omega)
  obtain ⟨d, hd, hx⟩ := dpAll_at h h1
  obtain ⟨p, hp, rfl⟩ := map_at hd
  obtain ⟨z, hz0, hz⟩ := dpAst hx
  exact ⟨z, p, atI_nat (h1.trans (by rw [hz0])), hp, List.mem_of_getElem? hp, hz⟩
theorem strOk_SS {l m : List Nat} (h : PyData.strOk (Rd.S l) = true) (k : PyData.strOk (Rd.S m) = true) : PyData.strOk (Rd.S (l ++ m)) = true := by rw [← Rd.S_app]; exact strOk_app h k
end Es

set_option Elab.async false
set_option linter.all false
set_option maxRecDepth 100000
/-! Texts of up to a million signs; a scanner over a text; the notation of values. -/
namespace Ez
open PySem PySem.Spec PyProof.Rows L2 Dj Es
theorem sz2 {n : Nat} (h : n ≤ 1000000) : n ≤ sizeLine := Nat.le_trans h (by decide)
section
variable {X : Cx} {K : PySem.W.Frag} {σ : L2.St} {H : Hp} {Q : VK}
def LeSK : R2 := fun x y H Q => ∃ i j : List Nat, x = .str (Rd.S i) ∧ y = .str (Rd.S j) ∧ Q (.bl (!decide (j < i))) H
theorem op_leS : OpR X (compareOp .LtE) LeSK := by
  intro pins s σ H x y v u Q I rx ry h
  obtain ⟨i, j, e1, e2, q⟩ := h
  exact op_le_str pins s σ H x y v u Q I rx ry ⟨_, _, e1, e2, by rw [Rd.S_tl, Rd.S_tl]; exact q⟩
theorem leS {i j : List Nat} (k : Q (.bl (!decide (j < i))) H) : LeSK (.str (Rd.S i)) (.str (Rd.S j)) H Q := ⟨i, j, rfl, rfl, k⟩
theorem ixS2 {l : List Nat} {i : Int} {c : Nat} (h : l.length ≤ 1000000) (a : atI l i = some c) (k : Q (.str (Rd.S [c])) H) : rIxS (.str (Rd.S l)) (.int i) H Q := ⟨Rd.S l, i, c, rfl, rfl, sz2 (by rw [Rd.S_len]; exact h), by rw [Rd.S_tl]; exact a, k⟩
theorem lenS2 {l : List Nat} (h : l.length ≤ 1000000) (k : Q (.int l.length) H) : Rd.LenSK [.str (Rd.S l)] H Q := ⟨_, rfl, sz2 (by rw [Rd.S_len]; exact h), by rw [Rd.S_len]; exact k⟩
theorem addS2 {l m : List Nat} (h : l.length + m.length ≤ 1000000) (k : Q (.str (Rd.S (l ++ m))) H) : Rd.AddSK (.str (Rd.S l)) (.str (Rd.S m)) H Q := ⟨_, _, rfl, rfl, sz2 (by rw [Rd.S_len, Rd.S_len]; exact h), by rw [Rd.S_app]; exact k⟩
theorem slS2 {l : List Nat} {a b : Nat} {i j : Int} (ha : i = a) (hb : j = b) (hl : l.length ≤ 1000000) (hab : a ≤ l.length) (k : Q (.str (Rd.S ((l.drop a).take (b - a)))) H) : rSlS (.str (Rd.S l)) (some i) (some j) H Q := by
  subst ha hb
  refine ⟨Rd.S l, rfl, sz2 (by rw [Rd.S_len]; exact hl), ?_⟩
  have e : cutS (Rd.S l) (some (a : Int)) (some (b : Int)) = Rd.S ((l.drop a).take (b - a)) := by
    unfold cutS
    rw [Rd.S_tl, Rd.S_len, HT.sIx_nat, HT.sIx_nat]
    show Rd.S _ = Rd.S _
    congr 1
    rw [Nat.min_eq_left hab]
    by_cases h : b ≤ l.length
    · rw [Nat.min_eq_left h]
    · rw [Nat.min_eq_right (by omega), List.take_of_length_le (by simp), List.take_of_length_le (by simp; omega)]
  rw [e]; exact k
/-- for sign in a text -/
theorem iS {te : TE} {R : It → Hp → Prop} (k : te σ H fun v H1 => ∃ x, v = .str x ∧ R (Its x) H1) : iStr te σ H R := k
theorem forS {l : List Nat} {j : Nat} {tb : TS} {n b c : L2.St → Hp → Prop} {r : VK} (Pv : Nat → L2.St → Hp → Prop) (h0 : Pv 0 σ H)
    (hs : ∀ (i : Nat) (x : Nat) (σ' : L2.St) (H' : Hp), l[i]? = some x → Pv i σ' H' → tb ⟨Pv (i + 1), r, n, Pv (i + 1)⟩ (σ'.set j (some (.str (Rd.S [x])))) H') (hd : ∀ σ' H', Pv l.length σ' H' → n σ' H') :
    ∃ x, V.str (Rd.S l) = V.str x ∧ Rd.ForJ (gName j) tb ⟨n, r, b, c⟩ σ (Its x) H := by
  refine ⟨_, rfl, fun i m σ H => m = l.length - i ∧ i ≤ l.length ∧ Pv i σ H, ⟨_, rfl, Nat.zero_le _, h0⟩, ?_⟩
  rintro i m σ' H' ⟨rfl, hi, p⟩
  have hz : (Rd.S l).cps.size = l.length := Rd.S_len l
  by_cases hlt : i < l.length
  · refine .inr ⟨by show i < (Rd.S l).cps.size; omega, Pv (i + 1), fun σ2 H2 p2 => ⟨l.length - (i + 1), by omega, rfl, hlt, p2⟩, ?_⟩
    rintro x H2 ⟨e, z, hz2, rfl⟩
    subst e
    have hz3 : l[i]? = some z := by
      have : (Rd.S l).cps[i]? = l[i]? := by show l.toArray[i]? = l[i]?; simp
      rw [← this]; exact hz2
    exact hs i z σ' _ hz3 p
  · have e : i = l.length := by omega
    subst e
    exact .inl ⟨by show (Rd.S l).cps.size ≤ l.length; omega, hd _ _ p⟩
/-- sep.join(texts) -/
def JoinK (K : PySem.W.Frag) : V → List V → Hp → VK → Prop := fun x xs H Q => ∃ (a : List Nat) (p : Addr) (ys : List (List Nat)), x = .str (Rd.S a) ∧ xs = [.ref p] ∧ SqL K H p (ys.map fun y => V.str (Rd.S y)) ∧ (ys.map List.length).sum + ys.length * a.length ≤ 16777216 ∧ Q (.str (Rd.S (TL.joinL a ys))) H
theorem mt_joinK : MtR X "str.join" (JoinK X.K) := by
  intro pins s σ H x xs v us Q I rx rs h
  obtain ⟨a, p, ys, e1, e2, h1, h2, q⟩ := h
  refine mt_join pins s σ H x xs v us Q I rx rs ⟨Rd.S a, p, ys.map Rd.S, e1, e2, .inl (by rw [List.map_map]; exact h1), ?_, ?_⟩
  · rw [List.map_map, List.length_map, Rd.S_len]
    have e : (ys.map ((fun x : Str => x.length) ∘ Rd.S)) = ys.map List.length := List.map_congr_left fun y _ => Rd.S_len y
    rw [e]; exact h2
  · have e : Txt.join (Rd.S a) (ys.map Rd.S) = Rd.S (TL.joinL a ys) := SX.join_S a ys
    rw [e]; exact q
theorem pe_joinK {o e : Expr} {to te : TE} {apos pos : Pos} (ho : PE X o to) (he : PE X e te) (hs : starEach [e] X.env = [(false, eval e X.env)] := by rfl) (hbase : attributeBase o "join" X.env (eval o X.env) = eval o X.env := by rfl) (hline : (apos.endLine == pos.line) = true := by rfl) :
    PE X (.Call (.Attribute o "join" apos) [e] [] pos) (tM1 (JoinK X.K) to te) :=
  pe_m1 PySem.F.slot_str_join PySem.F.type_str_join mt_joinK ho he hs hbase hline
theorem joinR {r : V → List V → Hp → VK → Prop} {to te : TE} (k : to σ H fun x H1 => (∃ a, x = .str a) ∧ te σ H1 fun y H2 => r x [y] H2 Q) : tM1 r to te σ H Q := k
theorem strA {a : Str} {P : Prop} (k : P) : (∃ b, V.str a = .str b) ∧ P := ⟨⟨a, rfl⟩, k⟩
theorem joinS {a : List Nat} {p : Addr} {ys : List (List Nat)} (h : SqL K H p (ys.map fun y => V.str (Rd.S y))) (hz : (ys.map List.length).sum + ys.length * a.length ≤ 16777216) (k : Q (.str (Rd.S (TL.joinL a ys))) H) : JoinK K (.str (Rd.S a)) [.ref p] H Q := ⟨a, p, ys, rfl, rfl, h, hz, k⟩
/-- f-strings -/
theorem tJ0 {acc : Str} {Qs : Str → Hp → Prop} (k : Qs acc H) : tJs [] acc σ H Qs := k
theorem tJ1 {t : TE} {ts : List TE} {acc : Str} {Qs : Str → Hp → Prop} (k : t σ H fun x H1 => ∃ y : Str, x = .str y ∧ (acc ++ y).length ≤ sizeLine ∧ tJs ts (acc ++ y) σ H1 Qs) : tJs (t :: ts) acc σ H Qs := k
theorem fmt {te : TE} (k : te σ H fun x H1 => (∃ y : Str, x = .str y ∧ y.length ≤ sizeLine ∧ Q (.str y) H1) ∨ ∃ i : Int, x = .int i ∧ i.natAbs.log2 < 1920 ∧ Q (.str (toString i)) H1) : tFmt te σ H Q := k
/-- a field that grows -/
theorem fldAug {ta tv : TE} {rd : V → V → Hp → VK → Prop} {f : Str} {n b c : L2.St → Hp → Prop} {r : VK} (k : ta σ H fun x H1 => ∃ a C dx fs v, x = .ref a ∧ H1 a = some (.ins C dx fs) ∧ Cls K C ∧ NoAttr K C f ∧ fs.lookup f = some v ∧
  tv σ H1 fun y H2 => rd v y H2 fun z H3 => ∃ dx' fs', H3 a = some (.ins C dx' fs') ∧ fs'.length < 1000 ∧ n σ (upd H3 a (.ins C dx' (putF f z fs')))) : sFldAug K ta tv rd f ⟨n, r, b, c⟩ σ H := k
def OrdK : List V → Hp → VK → Prop := fun xs H Q => ∃ c : Nat, xs = [.str (Rd.S [c])] ∧ Q (.int (c : Int)) H
theorem call_ordK : CallR X (.builtin "ord") OrdK := by
  intro pins s σ H xs us Q I r h
  obtain ⟨c, e, q⟩ := h
  exact call_ord pins s σ H xs us Q I r ⟨Rd.S [c], e, rfl, q⟩
theorem ordS {c : Nat} (k : Q (.int (c : Int)) H) : OrdK [.str (Rd.S [c])] H Q := ⟨c, rfl, k⟩
/-- the greatest of a list -/
theorem maxL {a : Addr} {ns : List Int} (h : SqL K H a (ns.map V.int)) (hl : 0 < ns.length) (k : ∀ m, m ∈ ns → (∀ y, y ∈ ns → y ≤ m) → Q (.int m) H) : rMax K [.ref a] H Q := ⟨a, ns, rfl, h, hl, k⟩
end
theorem iteC {p : Prop} [Decidable p] {σ : L2.St} {H : Hp} {Q : VK} {a b : Int} (L : Int → Prop) (ha : p → L a) (hb : ¬ p → L b) (hQ : ∀ M, L M → Q (.int M) H) : if decide p = true then tC (.int a) σ H Q else tC (.int b) σ H Q := by
  by_cases h : p
  · rw [decide_eq_true h, if_pos rfl]; exact hQ a (ha h)
  · rw [decide_eq_false h, if_neg Bool.false_ne_true]; exact hQ b (hb h)
/-! the notation -/
def num (i : Int) : List Nat := if i < 0 then 45 :: TL.numL i.natAbs else TL.numL i.natAbs
mutual
def wr : PyData → List Nat
  | .bool b => [if b then 84 else 70]
  | .int i => num i
  | .str s => TL.numL s.cps.toList.length ++ 58 :: s.cps.toList
  | .tuple ds => 40 :: (TL.joinL [32] (wrl ds) ++ [41])
  | _ => [63]
def wrl : List PyData → List (List Nat)
  | [] => []
  | d :: ds => wr d :: wrl ds
end
def gs (l : List Nat) : Bool := decide (l.length ≤ 1000) && l.all fun c => decide (32 ≤ c) && decide (c ≤ 126) && !decide (c = 37)
mutual
def gd : PyData → Bool
  | .bool _ => true
  | .int i => decide (i.natAbs < 10 ^ 60)
  | .str s => gs s.cps.toList
  | .tuple ds => decide (ds.length ≤ 1000) && gds ds
  | _ => false
def gds : List PyData → Bool
  | [] => true
  | d :: ds => gd d && gds ds
end
theorem wrl_map : ∀ ds : List PyData, wrl ds = ds.map wr
  | [] => by simp only [wrl, List.map_nil]
  | d :: ds => by simp only [wrl, List.map_cons, wrl_map ds]
theorem gds_mem : ∀ {ds : List PyData}, gds ds = true ↔ ∀ d ∈ ds, gd d = true
  | [] => by simp [gds]
  | d :: ds => by simp only [gds, Bool.and_eq_true, List.mem_cons, forall_eq_or_imp, gds_mem (ds := ds)]
theorem gd_tup {ds : List PyData} (h : gd (.tuple ds) = true) : ds.length ≤ 1000 ∧ gds ds = true := by
  simp only [gd, Bool.and_eq_true] at h
  exact ⟨of_decide_eq_true h.1, h.2⟩
mutual
theorem gd_nl : ∀ {d : PyData}, gd d = true → nl d = true
  | .bool _, _ => rfl
  | .int _, _ => rfl
  | .str _, _ => rfl
  | .tuple ds, h => by simp only [gd, Bool.and_eq_true] at h; simp only [nl]; exact gds_nl h.2
  | .none, h => by simp [gd] at h
  | .list _, h => by simp [gd] at h
  | .dict _, h => by simp [gd] at h
theorem gds_nl : ∀ {ds : List PyData}, gds ds = true → nlAll ds = true
  | [], _ => rfl
  | d :: ds, h => by simp only [gds, Bool.and_eq_true] at h; simp only [nlAll, Bool.and_eq_true]; exact ⟨gd_nl h.1, gds_nl h.2⟩
end
theorem num_str (i : Int) : (Str.ofString (toString i)) = Rd.S (num i) := by
  unfold num
  by_cases h : i < 0
  · rw [if_pos h, PyProof.Rows.toString_neg h]
    obtain ⟨n, hn⟩ : ∃ n : Nat, 0 - i = (n : Int) := ⟨(-i).toNat, by omega⟩
    have hn2 : i.natAbs = n := by omega
    have e := SX.num_S n
    rw [hn, hn2]
    rw [Str.ofString_eq_toList] at e ⊢
    rw [String.toList_append, List.map_append]
    have e2 : ((toString (n : Int)).toList.map Char.toNat) = TL.numL n := SX.S_inj e
    rw [e2]
    rfl
  · rw [if_neg h]
    obtain ⟨n, rfl⟩ : ∃ n : Nat, i = (n : Int) := ⟨i.toNat, by omega⟩
    exact SX.num_S n

/-! the scanner -/
section
variable {K : PySem.W.Frag} {H H1 H2 : Hp} {s dx p : Addr} {t : List Nat} {i j : Nat} {o : HO}
abbrev scO (K : PySem.W.Frag) (dx : Addr) (t : List Nat) (i : Int) : HO := .ins (He.ga K "Scanner") dx [(("text" : Str), .str (Rd.S t)), (("at" : Str), .int i)]
abbrev Sc (K : PySem.W.Frag) (H : Hp) (s dx : Addr) (t : List Nat) (i : Nat) : Prop := H s = some (scO K dx t (i : Int))
structure Adv (K : PySem.W.Frag) (s dx : Addr) (t : List Nat) (i : Nat) (H H' : Hp) : Prop where
  keep : Beside s H H'
  sc : Sc K H' s dx t i
theorem Adv.refl (h : Sc K H s dx t i) : Adv K s dx t i H H := ⟨fun _ _ _ e => e, h⟩
theorem Adv.trans (a : Adv K s dx t i H H1) (b : Adv K s dx t j H1 H2) : Adv K s dx t j H H2 := ⟨fun x o h e => b.keep x o h (a.keep x o h e), b.sc⟩
theorem Adv.same (a : Adv K s dx t i H H1) (e : Same H1 H2) : Adv K s dx t i H H2 := ⟨fun x o h q => e _ _ (a.keep x o h q), e _ _ a.sc⟩
theorem Adv.new (a : Adv K s dx t i H H1) (hp : H1 p = none) : Adv K s dx t i H (upd H1 p o) := a.same (Rd.same_new hp)
theorem Adv.step (a : Adv K s dx t i H H1) {z : Int} (e : z = (j : Int)) : Adv K s dx t j H (upd H1 s (scO K dx t z)) := ⟨fun x o h q => (upd_ne h).trans (a.keep x o h q), by subst e; exact upd_same⟩
theorem Adv.step0 (h : Sc K H s dx t i) {z : Int} (e : z = (j : Int)) : Adv K s dx t j H (upd H s (scO K dx t z)) := (Adv.refl h).step e
theorem Adv.dp (a : Adv K s dx t j H H1) (h : Sc K H s dx t i) {x : V} {d : PyData} (q : Dp K H x d) : Dp K H1 x d := a.keep.dp h q
theorem Adv.dpAll (a : Adv K s dx t j H H1) (h : Sc K H s dx t i) {xs : List V} {ds : List PyData} (q : DpAll K H xs ds) : DpAll K H1 xs ds := a.keep.dpAll h q
/-- a list beside the scanner that grows -/
theorem Adv.at (a : Adv K s dx t j H H1) (h : Sc K H s dx t i) {xs : List V} (q : H p = some (.lst xs)) : H1 p = some (.lst xs) := a.keep _ _ (fun e => by subst e; have h2 := q.symm.trans h; cases h2) q
end
section
variable {K : PySem.W.Frag} {H H1 H2 : Hp} {s dx p : Addr} {t : List Nat} {i j : Nat} {o : HO}
theorem Adv.free (a : Adv K s dx t i H H1) (hp : H1 p = none) : H p = none := by
  cases e : H p with
  | none => rfl
  | some o =>
    by_cases q : p = s
    · subst q; have h2 := hp.symm.trans a.sc; cases h2
    · rw [a.keep _ _ q e] at hp; cases hp
theorem Adv.mut (a : Adv K s dx t i H H1) (hp : H p = none) (h : Sc K H s dx t j) : Adv K s dx t i H (upd H1 p o) := by
  have hne : s ≠ p := fun e => by subst e; have h2 := hp.symm.trans h; cases h2
  exact ⟨fun x o h e => by
    rw [upd_ne (fun q => by subst q; rw [hp] at e; cases e)]
    exact a.keep x o h e, (upd_ne hne).trans a.sc⟩
end
theorem augSc {K : PySem.W.Frag} {σ : L2.St} {H : Hp} {s dx : Addr} {t : List Nat} {i q : Nat} {n b c : L2.St → Hp → Prop} {r : VK} (hv : σ[q]? = some (some (.ref s))) (h : Sc K H s dx t i) (hc : Cls K (He.ga K "Scanner")) (hn : NoAttr K (He.ga K "Scanner") "at")
    (k : n σ (upd H s (scO K dx t ((i : Int) + 1)))) : sFldAug K (tVar q) (tC (.int 1)) rAdd "at" ⟨n, r, b, c⟩ σ H := by
  refine fldAug (Rd.var hv ⟨s, _, dx, _, _, rfl, h, hc, hn, rfl, ?_⟩)
  exact Rd.cst ⟨_, _, rfl, rfl, dx, _, h, by show 2 < 1000; decide, k⟩
theorem head_at {t r : List Nat} {i c : Nat} (h : t.drop i = c :: r) : t[i]? = some c ∧ i < t.length ∧ t.drop (i + 1) = r := by
  have h1 : i < t.length := by
    by_cases q : i < t.length
    · exact q
    · rw [List.drop_of_length_le (by omega)] at h; cases h
  refine ⟨?_, h1, ?_⟩
  · have := congrArg List.head? h
    rw [List.head?_drop] at this
    exact this
  · rw [← List.drop_drop, h]; rfl
theorem drop_app {t l r : List Nat} {i : Nat} (h : t.drop i = l ++ r) : t.drop (i + l.length) = r := by rw [← List.drop_drop, h, List.drop_left]
theorem drop_bd {t l r : List Nat} {i : Nat} (h : t.drop i = l ++ r) (hl : l ≠ []) : i + l.length ≤ t.length := by
  have e := congrArg List.length h
  rw [List.length_drop, List.length_append] at e
  have : 0 < l.length := List.length_pos_iff.mpr hl
  omega
def isd : List Nat → Bool
  | [] => false
  | c :: _ => decide (48 ≤ c) && decide (c ≤ 57)
theorem lt11 {a b : Nat} : (([a] : List Nat) < [b]) ↔ a < b := by simp [List.cons_lt_cons_iff]
theorem lt01 {b : Nat} : (([] : List Nat) < [b]) := by simp
theorem numL_head (n : Nat) : ∃ c r, TL.numL n = c :: r ∧ 48 ≤ c ∧ c ≤ 57 ∧ (0 < n → 49 ≤ c) ∧ (c = 48 → r = []) := by
  induction n using Nat.strongRecOn with
  | _ n ih =>
    by_cases h : n < 10
    · rw [TL.numL_lt h]
      exact ⟨48 + n, [], rfl, by omega, by omega, by omega, fun _ => rfl⟩
    · rw [TL.numL_step (by omega)]
      obtain ⟨c, r, e, h1, h2, h3, h4⟩ := ih (n / 10) (by omega)
      have h5 := h3 (by omega)
      exact ⟨c, r ++ [48 + n % 10], by rw [e]; rfl, h1, h2, fun _ => h5, by omega⟩
theorem numL_int {n : Nat} (h : n < 10 ^ 60) : PySem.intText? (Rd.S (TL.numL n)) = some (n : Int) ∧ (TL.numL n).length ≤ 60 := by
  have hl := TL.numL_len (n := n) (k := 60) (by decide) h
  have e := TL.int_num (n := n) (by omega)
  rw [SX.num_S] at e
  exact ⟨e, hl⟩
/-- what may stand behind a value -/
def stp (r : List Nat) : Prop := ∀ c l, r = c :: l → c = 32 ∨ c = 41
theorem stp_nil : stp [] := fun _ _ h => by cases h
theorem stp_32 (l : List Nat) : stp (32 :: l) := fun c l' h => by cases h; exact .inl rfl
theorem stp_41 (l : List Nat) : stp (41 :: l) := fun c l' h => by cases h; exact .inr rfl
/-- what stands behind a tuple's first item -/
def tlw : List PyData → List Nat
  | [] => []
  | e :: es => 32 :: (wr e ++ tlw es)
theorem wr_head {d : PyData} (h : gd d = true) : ∃ c l, wr d = c :: l ∧ c ≠ 32 ∧ c ≠ 41 := by
  cases d with
  | bool b => exact ⟨_, _, rfl, by cases b <;> decide, by cases b <;> decide⟩
  | int i =>
    simp only [wr, num]
    split
    · exact ⟨_, _, rfl, by decide, by decide⟩
    · obtain ⟨c, r, e, h1, h2, _⟩ := numL_head i.natAbs
      exact ⟨c, r, e, by omega, by omega⟩
  | str z =>
    obtain ⟨c, r, e, h1, h2, _⟩ := numL_head z.cps.toList.length
    exact ⟨c, r ++ 58 :: z.cps.toList, by simp only [wr, e, List.cons_append], by omega, by omega⟩
  | tuple ds => exact ⟨_, _, rfl, by decide, by decide⟩
  | none => simp [gd] at h
  | list _ => simp [gd] at h
  | dict _ => simp [gd] at h
theorem wr_tup (d : PyData) (ds : List PyData) : TL.joinL [32] (wrl (d :: ds)) = wr d ++ tlw ds := by
  induction ds generalizing d with
  | nil => simp [wrl, TL.joinL, tlw]
  | cons e es ih =>
    have h := ih e
    simp only [wrl] at h ⊢
    simp only [TL.joinL, tlw, h, List.cons_append, List.nil_append]
theorem stp_tlw (es : List PyData) (r : List Nat) : stp (tlw es ++ 41 :: r) := by
  cases es with
  | nil => exact stp_41 _
  | cons e es => exact stp_32 _
theorem stp_isd {r : List Nat} (h : stp r) : isd r = false := by
  cases r with
  | nil => rfl
  | cons c l =>
    have := h c l rfl
    show (decide (48 ≤ c) && decide (c ≤ 57)) = false
    rw [decide_eq_false (by omega : ¬ 48 ≤ c)]; rfl
theorem wr_neg {m : Nat} (h : 0 < m) : wr (.int (-(m : Int))) = 45 :: TL.numL m := by
  simp only [wr, num]
  rw [if_pos (by omega), Int.natAbs_neg, Int.natAbs_natCast]
theorem wr_nat {m : Nat} : wr (.int (m : Int)) = TL.numL m := by
  simp only [wr, num]
  rw [if_neg (by omega), Int.natAbs_natCast]
theorem gd_nat {m : Nat} (h : gd (.int (m : Int)) = true) : m < 10 ^ 60 := by
  simp only [gd] at h
  have := of_decide_eq_true h
  omega
theorem gd_neg {m : Nat} (h : gd (.int (-(m : Int))) = true) : m < 10 ^ 60 := by
  simp only [gd] at h
  have := of_decide_eq_true h
  omega
theorem gs_len {l : List Nat} (h : gs l = true) : l.length ≤ 1000 := by
  unfold gs at h
  rw [Bool.and_eq_true] at h
  exact of_decide_eq_true h.1
theorem appd2 {l : Addr} {xs : List V} {v : V} {H : Hp} {Q : VK} (h : H l = some (.lst xs)) (hz : xs.length < 1000000) (k : Q .non (upd H l (.lst (xs ++ [v])))) : rAppend (.ref l) [v] H Q := ⟨l, xs, v, rfl, rfl, h, Nat.lt_of_lt_of_le hz (by decide), k⟩
theorem len_tlw (es : List PyData) : es.length ≤ (tlw es).length := by
  induction es with
  | nil => simp
  | cons e es ih => simp only [tlw, List.length_cons, List.length_append]; omega
theorem wr_len (d : PyData) (ds : List PyData) : (wr (.tuple (d :: ds))).length = (wr d).length + (tlw ds).length + 2 := by
  simp only [wr, wr_tup, List.length_cons, List.length_append, List.length_nil]
theorem z60 {z : Int} (h : gd (.int z) = true) : z.natAbs.log2 < 1920 := by
  simp only [gd] at h
  have h2 := of_decide_eq_true h
  exact Nat.lt_of_lt_of_le (PySem.Flt.log2_lt_of (k := 200) (by decide) (Nat.lt_of_lt_of_le h2 (by decide))) (by decide)
theorem join_sum : ∀ ys : List (List Nat), (ys.map List.length).sum + ys.length ≤ (TL.joinL [32] ys).length + 1
  | [] => by simp [TL.joinL]
  | [y] => by simp [TL.joinL]
  | y :: z :: ys => by
    have := join_sum (z :: ys)
    simp only [TL.joinL, List.map_cons, List.sum_cons, List.length_cons, List.length_append, List.length_nil] at this ⊢
    omega
theorem join_mem {y : List Nat} : ∀ {ys : List (List Nat)}, y ∈ ys → y.length ≤ (TL.joinL [32] ys).length := fun {ys} h => by
  have h1 := join_sum ys
  have h2 : y.length ≤ (ys.map List.length).sum := by
    clear h1
    induction ys with
    | nil => cases h
    | cons z ys ih =>
      rcases List.mem_cons.mp h with rfl | h
      · simp only [List.map_cons, List.sum_cons]; omega
      · have := ih h; simp only [List.map_cons, List.sum_cons]; omega
  have h3 : 0 < ys.length := List.length_pos_of_mem h
  omega
theorem strI2 {z : Int} (h : gd (.int z) = true) {H : Hp} {Q : VK} (k : Q (.str (Rd.S (wr (.int z)))) H) : Rd.StrIK [.int z] H Q := Rd.strI (z60 h) (num_str z) k
theorem gdN {m : Nat} (h : m < 10 ^ 60) : gd (.int (m : Int)) = true := by simp only [gd]; exact decide_eq_true (by omega)
theorem strN {m : Nat} (h : m < 10 ^ 60) {H : Hp} {Q : VK} (k : Q (.str (Rd.S (TL.numL m))) H) : Rd.StrIK [.int (m : Int)] H Q := Rd.strI (z60 (gdN h)) (SX.num_S m) k
theorem dp_strs {K : PySem.W.Frag} {H : Hp} : ∀ {xs : List V} {ls : List PyData}, DpAll K H xs (ls.map fun d => .str (Rd.S (wr d))) → xs = (wrl ls).map fun y => V.str (Rd.S y)
  | _, [], .nil => rfl
  | _, l :: ls, .cons h t => by cases h; rw [dp_strs t]; simp only [wrl, List.map_cons]
section
variable {σ : L2.St} {H : Hp} {Q : VK}
theorem fmtI {R : Str → Prop} {m : Nat} (h : m < 10 ^ 60) (k : R (Rd.S (TL.numL m))) : (∃ y : Str, V.int (m : Int) = .str y ∧ y.length ≤ sizeLine ∧ R y) ∨ ∃ i : Int, V.int (m : Int) = .int i ∧ i.natAbs.log2 < 1920 ∧ R (toString i) :=
  .inr ⟨m, rfl, z60 (gdN h), by rw [SX.num_S m]; exact k⟩
theorem fmtS {R : Str → Prop} {l : List Nat} (h : l.length ≤ 1000000) (k : R (Rd.S l)) : (∃ y : Str, V.str (Rd.S l) = .str y ∧ y.length ≤ sizeLine ∧ R y) ∨ ∃ i : Int, V.str (Rd.S l) = .int i ∧ i.natAbs.log2 < 1920 ∧ R (toString i) :=
  .inl ⟨_, rfl, sz2 (by rw [Rd.S_len]; exact h), k⟩
theorem jS {ts : List TE} {Qs : Str → Hp → Prop} {a l : List Nat} (h : a.length + l.length ≤ 1000000) (k : tJs ts (Rd.S (a ++ l)) σ H Qs) : ∃ y : Str, V.str (Rd.S l) = .str y ∧ (Rd.S a ++ y).length ≤ sizeLine ∧ tJs ts (Rd.S a ++ y) σ H Qs :=
  ⟨_, rfl, by rw [Rd.S_app, Rd.S_len, List.length_append]; exact sz2 h, by rw [Rd.S_app]; exact k⟩
theorem jS0 {ts : List TE} {Qs : Str → Hp → Prop} {l : List Nat} (h : l.length ≤ 1000000) (k : tJs ts (Rd.S l) σ H Qs) : ∃ y : Str, V.str (Rd.S l) = .str y ∧ (Str.empty ++ y).length ≤ sizeLine ∧ tJs ts (Str.empty ++ y) σ H Qs := by
  have e : (Str.empty : Str) = Rd.S [] := rfl
  rw [e]
  exact jS (by simpa using h) k
end
end Ez

set_option Elab.async false
set_option linter.all false
set_option maxRecDepth 100000
set_option maxHeartbeats 4000000
/-! the end of a law whose numbers' bits are told; the weight of written values -/
namespace L2
open PySem PySem.Spec PyProof.Rows
theorem walk_ofEB {l : PySem.W.OpenLaw} {n k : Nat} {q : Program} {loose : List Str} {XP : (Str → Option Value) → Heap → Prop} {YP : World → Heap → Prop} {d : DefRec} {CX : CXT} {x : Str}
    (hn : l.most = some n) (hn2 : n ≤ sizeLine) (hdf : d.params.defaults = []) (hr : Room k callerA)
    (F : ∀ (w : World) (mg : Str → Option Value) (fa : Addr) (h : Heap), YP w h → h.Ns mainGlobals mg → mg d.name = some (.ref fa) →
      ∃ (K : PySem.W.Frag) (fd : FuncData) (sp : Sp), K.In h ∧ (∀ (s : Shared) (u : Value), BindsTo s fd ⟨[u], []⟩ [(x, u)]) ∧
        (∀ (H : Hp) (a : Addr) (ns : List Int), ns.length ≤ n → (∀ z ∈ ns, Builtin.Int.intBits z ≤ 1048576) → Only H → SqL K H a (ns.map V.int) → sp [.ref a] H (fun v _ => v = .bl true) fun _ _ _ => False) ∧
        ∀ base : Heap, K.In base → base.Ns mainGlobals mg → FnOk l.prog w K mg base CX k fa fd [x] sp)
    (hCX : ∀ (H : Hp) (s : Shared) (e : Value) (s' : Shared), CX [] H s (fun _ _ _ => False) e s' → False) :
    PySem.W.WalkO q loose XP YP l.row.toRowW d [] (fun f vs => PySem.call f vs) := by
  refine Att.attach_callB hn hdf fun w s₀ s₁ mg mb fa o pm cd doc a vs ns G Y ho hd hcd hmg hobj hints hlen hbits hg => ?_
  obtain ⟨K, fd, sp, KX, hb, hsp, hF⟩ := F w mg fa _ Y G.T.g hmg
  exact law_call KX G.T.g G.T.b G.T.builtins G.T.nolimit hg hobj hints (Nat.le_trans hlen hn2) hr hF hb (fun H hO hS => hsp H a ns hlen hbits hO hS) fun H e s' => hCX H s₁ e s'
end L2
namespace Ez
open PySem PySem.Spec PyProof.Rows L2
/-- the weight of values: what a text of them takes -/
def wt (ds : List PyData) : Nat := ((wrl ds).map fun l => l.length + 1).sum
theorem wt_nil : wt [] = 0 := rfl
theorem wt_cons (d : PyData) (ds : List PyData) : wt (d :: ds) = (wr d).length + 1 + wt ds := by
  unfold wt; rw [wrl_map, wrl_map]; simp
theorem wt_app (a b : List PyData) : wt (a ++ b) = wt a + wt b := by
  unfold wt; rw [wrl_map, wrl_map, wrl_map]; simp
theorem wt_split (a : List PyData) (n : Nat) : wt (a.take n) + wt (a.drop n) = wt a := by
  rw [← wt_app, List.take_append_drop]
theorem join_wt : ∀ ds : List PyData, (TL.joinL [32] (wrl ds)).length ≤ wt ds
  | [] => by simp [wrl, TL.joinL, wt]
  | [d] => by simp [wrl, TL.joinL, wt]
  | d :: e :: ds => by
    have ih := join_wt (e :: ds)
    rw [wt_cons]
    simp only [wrl, TL.joinL, List.length_append, List.length_cons, List.length_nil] at ih ⊢
    omega
theorem wr_wt (ds : List PyData) : (wr (.tuple ds)).length ≤ wt ds + 2 := by
  have := join_wt ds
  simp only [wr, List.length_cons, List.length_append, List.length_nil]
  omega
theorem int_len {z : Int} (h : gd (.int z) = true) : (wr (.int z)).length ≤ 61 := by
  obtain ⟨m, rfl | rfl⟩ := Int.eq_nat_or_neg z
  · rw [wr_nat]; have := (numL_int (gd_nat h)).2; omega
  · by_cases c : m = 0
    · subst c
      rw [show (-((0 : Nat) : Int)) = ((0 : Nat) : Int) from rfl, wr_nat]
      have := (numL_int (n := 0) (by decide)).2
      omega
    · rw [wr_neg (by omega)]
      have := (numL_int (gd_neg h)).2
      simp only [List.length_cons]; omega
theorem str_len {l : List Nat} (h : gs l = true) : (wr (.str (Rd.S l))).length ≤ 1010 := by
  have hl := gs_len h
  have e : wr (.str (Rd.S l)) = TL.numL l.length ++ 58 :: l := by simp only [wr, Rd.S_tl]
  rw [e]
  have := TL.numL_len (n := l.length) (k := 4) (by decide) (by omega)
  simp only [List.length_append, List.length_cons]
  omega
theorem gd_int {z : Int} (h : z.natAbs < 10 ^ 60) : gd (.int z) = true := by simp only [gd]; exact decide_eq_true h
theorem gd_str {l : List Nat} (h : gs l = true) : gd (.str (Rd.S l)) = true := by simp only [gd, Rd.S_tl]; exact h
theorem gs_of {l : List Nat} (h : l.length ≤ 1000) (k : ∀ c ∈ l, 32 ≤ c ∧ c ≤ 126 ∧ c ≠ 37) : gs l = true := by
  unfold gs
  rw [Bool.and_eq_true]
  refine ⟨decide_eq_true h, List.all_eq_true.mpr fun c hc => ?_⟩
  obtain ⟨a, b, d⟩ := k c hc
  simp [a, b, d]
theorem gd_tuple {ds : List PyData} (hl : ds.length ≤ 1000) (h : ∀ d ∈ ds, gd d = true) : gd (.tuple ds) = true := by
  simp only [gd, Bool.and_eq_true]
  exact ⟨decide_eq_true hl, gds_mem.mpr h⟩
theorem joinE : ∀ cs : List Nat, TL.joinL [] (cs.map fun c => [c]) = cs
  | [] => rfl
  | [c] => rfl
  | c :: d :: cs => by
    have ih := joinE (d :: cs)
    simp only [List.map_cons, TL.joinL, List.nil_append, List.append_nil, List.cons_append] at ih ⊢
    rw [ih]
end Ez
namespace Ez
open PySem PySem.Spec PyProof.Rows L2
theorem cut_ints {ns : List Int} {lo hi : Option Int} : ∃ ms : List Int, cutV (ns.map V.int) lo hi = ms.map V.int ∧ ms.length ≤ ns.length ∧ ∀ x ∈ ms, x ∈ ns := by
  refine ⟨(ns.drop (HT.sIx ns.length 0 lo)).take (HT.sIx ns.length ns.length hi - HT.sIx ns.length 0 lo), ?_, ?_, fun x hx => List.mem_of_mem_drop (List.mem_of_mem_take hx)⟩
  · unfold cutV; rw [List.length_map, List.map_take, List.map_drop]
  · rw [List.length_take, List.length_drop]; omega
theorem cut_dropN {xs : List V} {k : Nat} (h : k ≤ xs.length) : cutV xs (some (k : Int)) none = xs.drop k := Bd.cut_drop h
theorem bits_lt {c : Int} (h : Builtin.Int.intBits c ≤ 1048576) : c.natAbs < 2 ^ 1048576 := by
  unfold Builtin.Int.intBits at h
  by_cases z : c = 0
  · subst z; exact Nat.two_pow_pos _
  · rw [if_neg (by simpa using z)] at h
    exact (Nat.log2_lt (by omega)).mp (by omega)
theorem mul_bits {c z p m : Int} (h : Builtin.Int.intBits c ≤ 1048576) (hz : z = c ∨ z = -c) (hp : 0 ≤ p ∧ p < 1000) (hm : 0 ≤ m ∧ m < 2 ^ 200) : CMulX (z + p) m := by
  have b := bits_lt h
  have e : (2 : Nat) ^ 1048577 = 2 ^ 1048576 + 2 ^ 1048576 := by rw [Nat.pow_succ]; omega
  have l : (1000 : Nat) ≤ 2 ^ 1048576 := Nat.le_trans (show 1000 ≤ 2 ^ 10 by decide) (Nat.pow_le_pow_right (by decide) (by decide))
  refine mulx_ok (a := 1048577) (b := 200) ?_ (by have : (2 : Int) ^ 200 = ((2 ^ 200 : Nat) : Int) := by norm_cast
                                                  omega) (by decide)
  rw [e]
  generalize 2 ^ 1048576 = Z at *
  omega
theorem joinOk {cs : List Nat} (h : cs.length ≤ 1000) : (((cs.map fun c => [c]).map List.length).sum + (cs.map fun c => [c]).length * ([] : List Nat).length ≤ 16777216) := by
  have e : ∀ cs : List Nat, ((cs.map fun c => [c]).map List.length).sum = cs.length := fun cs => by
    induction cs with
    | nil => rfl
    | cons c cs ih => simp only [List.map_cons, List.sum_cons, List.length_cons, List.length_nil] at ih ⊢; omega
  rw [e]
  simp only [List.length_nil, Nat.mul_zero]; omega
theorem i60 {x : Int} (h0 : 0 ≤ x) (h1 : x < 10 ^ Int.toNat 60) : gd (.int x) = true ∧ gd (.int (-x)) = true ∧ 0 ≤ 10 ^ Int.toNat 60 - 1 - x ∧ 10 ^ Int.toNat 60 - 1 - x < 10 ^ Int.toNat 60 := by
  have e : (10 : Int) ^ Int.toNat 60 = ((10 ^ 60 : Nat) : Int) := by norm_cast
  rw [e] at h1 ⊢
  refine ⟨gd_int (by omega), gd_int (by omega), by omega, by omega⟩
end Ez
namespace Ez
open PySem PySem.Spec PyProof.Rows L2 Dj
/-- values and their told depths -/
def Dpt (ds : List PyData) (es : List Int) : Prop := ds.length = es.length ∧ ∀ (j : Nat) (d : PyData), ds[j]? = some d → ∃ e : Int, es[j]? = some e ∧ (PyData.depth d : Int) ≤ e ∧ 0 ≤ e ∧ e ≤ 11
theorem Dpt.nil : Dpt [] [] := ⟨rfl, fun j d h => by simp at h⟩
theorem Dpt.take {ds : List PyData} {es : List Int} (h : Dpt ds es) (n : Nat) : Dpt (ds.take n) (es.take n) := by
  refine ⟨by rw [List.length_take, List.length_take, h.1], fun j d hj => ?_⟩
  have hjn : j < n := by have := (List.getElem?_eq_some_iff.mp hj).1; rw [List.length_take] at this; omega
  rw [List.getElem?_take_of_lt hjn] at hj ⊢
  exact h.2 j d hj
theorem Dpt.drop {ds : List PyData} {es : List Int} (h : Dpt ds es) (n : Nat) : Dpt (ds.drop n) (es.drop n) := by
  refine ⟨by rw [List.length_drop, List.length_drop, h.1], fun j d hj => ?_⟩
  rw [List.getElem?_drop] at hj ⊢
  exact h.2 _ d hj
theorem Dpt.snoc {ds : List PyData} {es : List Int} {d : PyData} {e : Int} (h : Dpt ds es) (k : (PyData.depth d : Int) ≤ e ∧ 0 ≤ e ∧ e ≤ 11) : Dpt (ds ++ [d]) (es ++ [e]) := by
  refine ⟨by rw [List.length_append, List.length_append, h.1]; rfl, fun j x hj => ?_⟩
  by_cases c : j < ds.length
  · rw [List.getElem?_append_left c] at hj
    rw [List.getElem?_append_left (by rw [← h.1]; exact c)]
    exact h.2 j x hj
  · have hl := (List.getElem?_eq_some_iff.mp hj).1
    rw [List.length_append, List.length_singleton] at hl
    have e1 : j = ds.length := by omega
    rw [List.getElem?_append_right (by omega), show j - ds.length = 0 by omega] at hj
    cases hj
    rw [List.getElem?_append_right (by rw [← h.1]; omega), show j - es.length = 0 by rw [← h.1]; omega]
    exact ⟨e, rfl, k⟩
theorem Dpt.all {ds : List PyData} {es : List Int} {m : Int} (h : Dpt ds es) (k : ∀ e ∈ es, e ≤ m) (h0 : 0 ≤ m) : PyData.depthAll ds ≤ m.toNat := depth_mem.mpr fun d hd => by
  obtain ⟨j, hj⟩ := List.mem_iff_getElem?.mp hd
  obtain ⟨e, he, h1, _⟩ := h.2 j d hj
  have := k e (List.mem_of_getElem? he)
  omega
theorem Dpt.all11 {ds : List PyData} {es : List Int} (h : Dpt ds es) : PyData.depthAll ds ≤ 11 := depth_mem.mpr fun d hd => by
  obtain ⟨j, hj⟩ := List.mem_iff_getElem?.mp hd
  obtain ⟨e, he, h1, _, h3⟩ := h.2 j d hj
  omega
theorem Dpt.bd {ds : List PyData} {es : List Int} (h : Dpt ds es) : ∀ e ∈ es, 0 ≤ e ∧ e ≤ 11 := fun e he => by
  obtain ⟨j, hj⟩ := List.mem_iff_getElem?.mp he
  have hl := (List.getElem?_eq_some_iff.mp hj).1
  obtain ⟨e2, he2, _, h2, h3⟩ := h.2 j _ (List.getElem?_eq_getElem (show j < ds.length by rw [h.1]; exact hl))
  rw [hj] at he2; cases he2
  exact ⟨h2, h3⟩
theorem dp_take {K : PySem.W.Frag} {H : Hp} : ∀ {xs : List V} {ds : List PyData} (n : Nat), DpAll K H xs ds → DpAll K H (xs.take n) (ds.take n)
  | _, _, 0, _ => by rw [List.take_zero, List.take_zero]; exact .nil
  | _, _, _ + 1, .nil => .nil
  | _, _, n + 1, .cons h t => .cons h (dp_take n t)
theorem dp_drop {K : PySem.W.Frag} {H : Hp} : ∀ {xs : List V} {ds : List PyData} (n : Nat), DpAll K H xs ds → DpAll K H (xs.drop n) (ds.drop n)
  | _, _, 0, h => h
  | _, _, _ + 1, .nil => .nil
  | _, _, n + 1, .cons h t => dp_drop n t
end Ez

set_option Elab.async false
set_option linter.all false
set_option maxRecDepth 100000
set_option maxHeartbeats 4000000
/-! Data with lists in it that stands in a list that grows; dicts of written keys. -/
namespace Ef
open PySem PySem.Spec PyProof.Rows L2 Dj Es
section
variable {K : PySem.W.Frag} {H H1 H2 : Hp} {p : Addr} {o o' : HO}
/-- the heap without what stands at p -/
def dl (H : Hp) (p : Addr) : Hp := fun a => if a = p then none else H a
theorem dl_ne {a : Addr} (h : a ≠ p) : dl H p a = H a := if_neg h
theorem dl_self : dl H p p = none := if_pos rfl
theorem dl_same : Same (dl H p) H := fun a o h => by
  by_cases e : a = p
  · subst e; rw [dl_self] at h; cases h
  · rw [dl_ne e] at h; exact h
theorem dl_upd : dl (upd H p o) p = dl H p := by
  funext a
  by_cases e : a = p
  · subst e; rw [dl_self, dl_self]
  · rw [dl_ne e, dl_ne e, upd_ne e]
theorem same_dl (s : Same H1 H2) : Same (dl H1 p) (dl H2 p) := fun a o h => by
  by_cases e : a = p
  · subst e; rw [dl_self] at h; cases h
  · rw [dl_ne e] at h ⊢; exact s _ _ h
theorem sameT_dl {l : List V} (h : H p = some (.lst l)) : SameT H (dl H p) := fun a o ha n => by
  rw [dl_ne fun e => by subst e; rw [h] at ha; exact n l (Option.some.inj ha).symm]; exact ha
/-- data that leans on no list that stood before -/
def FrD (K : PySem.W.Frag) (H H' : Hp) (v : V) (d : PyData) : Prop := ∀ p l, H p = some (.lst l) → Dp K (dl H' p) v d
/-- data behind a store at something else -/
theorem sqT_off {a : Addr} {xs : List V} (hp : H p = some o) (h1 : ∀ ys, o ≠ .tup ys) (h2 : ∀ z u, o ≠ .frz z u) (h : SqT K H a xs) : SqT K (upd H p o') a xs := sqT_upd hp h1 h2 h
theorem sqL_off {a : Addr} {xs : List V} (hp : H p = some o) (h1 : ∀ ys, o ≠ .lst ys) (h2 : ∀ z u, o ≠ .frz z u) (h : SqL K H a xs) : SqL K (upd H p o') a xs := by
  rcases h with (h | ⟨z, h⟩) | h
  · exact .inl (.inl ((upd_ne fun e => by rw [e, hp] at h; exact h1 _ (Option.some.inj h)).trans h))
  · exact .inl (.inr ⟨z, (upd_ne fun e => by rw [e, hp] at h; exact h2 _ _ (Option.some.inj h)).trans h⟩)
  · exact .inr h
theorem dp_off (hp : H p = some o) (h0 : ∀ ys, o ≠ .lst ys) (h1 : ∀ ys, o ≠ .tup ys) (h2 : ∀ z u, o ≠ .frz z u) : ∀ {x : V} {d : PyData}, Dp K H x d → Dp K (upd H p o') x d
  | _, _, .non => .non
  | _, _, .bl b => .bl b
  | _, _, .int i => .int i
  | _, _, .str x => .str x
  | _, _, .lst h a => .lst (sqL_off hp h0 h2 h) (go hp h0 h1 h2 a)
  | _, _, .tup h a => .tup (sqT_off hp h1 h2 h) (go hp h0 h1 h2 a)
where go (hp : H p = some o) (h0 : ∀ ys, o ≠ .lst ys) (h1 : ∀ ys, o ≠ .tup ys) (h2 : ∀ z u, o ≠ .frz z u) : ∀ {xs : List V} {ds : List PyData}, DpAll K H xs ds → DpAll K (upd H p o') xs ds
  | _, _, .nil => .nil
  | _, _, .cons h t => .cons (dp_off hp h0 h1 h2 h) (go hp h0 h1 h2 t)
theorem dpAll_off (hp : H p = some o) (h0 : ∀ ys, o ≠ .lst ys) (h1 : ∀ ys, o ≠ .tup ys) (h2 : ∀ z u, o ≠ .frz z u) {xs : List V} {ds : List PyData} (h : DpAll K H xs ds) : DpAll K (upd H p o') xs ds := dp_off.go hp h0 h1 h2 h
end
/-! dicts of written keys -/
section
variable {K : PySem.W.Frag} {σ : L2.St} {H : Hp} {Q : VK}
theorem disp {trs : List (TE × TE)} (k : ∀ p, H p = none → tPairs trs σ (upd H p (.dK [])) fun ps H2 => H2 p = some (.dK []) ∧ ∃ kvs : List (L2.Key × V), ps = kvs.map (fun kv => (kV kv.1, kv.2)) ∧ kvs.length ≤ 15 ∧ Q (.ref p) (upd H2 p (.dK (mergeK [] kvs)))) : tDisp trs σ H Q := k
theorem pairS {tk tv : TE} {r : List (TE × TE)} {R : List (V × V) → Hp → Prop} (k : tk σ H fun x H1 => tv σ H1 fun y H2 => tPairs r σ H2 fun ps H3 => R ((x, y) :: ps) H3) : tPairs ((tk, tv) :: r) σ H R := k
theorem pairN {R : List (V × V) → Hp → Prop} (k : R [] H) : tPairs [] σ H R := k
theorem putK_new {kvs : List (L2.Key × V)} {k : L2.Key} {v : V} (h : k ∉ kvs.map (·.1)) : putK kvs k v = kvs ++ [(k, v)] := by
  unfold putK
  rw [if_neg]
  intro q
  rw [List.any_eq_true] at q
  obtain ⟨x, hx, e⟩ := q
  exact h (List.mem_map.mpr ⟨x, hx, by simpa using e⟩)
theorem merge_id : ∀ {more kvs : List (L2.Key × V)}, ((kvs ++ more).map (·.1)).Nodup → mergeK kvs more = kvs ++ more
  | [], kvs, _ => by show kvs = kvs ++ []; rw [List.append_nil]
  | p :: r, kvs, h => by
    show mergeK (putK kvs p.1 p.2) r = kvs ++ p :: r
    have hn : p.1 ∉ kvs.map (·.1) := by
      intro q
      rw [List.map_append, List.nodup_append] at h
      exact h.2.2 p.1 q p.1 (by simp) rfl
    rw [putK_new hn, merge_id (by rw [List.append_assoc]; exact h), List.append_assoc]
    rfl
/-- a dict with these keys at f, its values the data ds -/
def FdAt (K : PySem.W.Frag) (H : Hp) (f : Addr) (names : List Str) (ds : List PyData) : Prop := names.Nodup ∧ ∃ vs, H f = some (.dK ((names.map Sum.inr).zip vs)) ∧ DpAll K H vs ds
theorem FdAt.keep {f : Addr} {names : List Str} {ds : List PyData} {H' : Hp} (h : FdAt K H f names ds) (s : Same H H') : FdAt K H' f names ds := by
  obtain ⟨n, vs, h1, h2⟩ := h
  exact ⟨n, vs, s _ _ h1, dpAll_same s h2⟩
theorem fd_val : ∀ {names : List Str} {vs : List V} {ds : List PyData} {i : Nat} {s : Str} {d : PyData}, names.Nodup → DpAll K H vs ds → names[i]? = some s → ds[i]? = some d → ∃ v, valV ((names.map (Sum.inr : Str → L2.Key)).zip vs) (.inr s) = some v ∧ Dp K H v d
  | [], _, _, i, s, d, _, _, h, _ => by simp at h
  | n :: ns, _, _, i, s, d, hn, .nil, h, k => by simp at k
  | n :: ns, v :: vs, d0 :: ds, i, s, d, hn, .cons h t, h1, h2 => by
    have hn2 := List.nodup_cons.mp hn
    cases i with
    | zero =>
      simp only [List.getElem?_cons_zero, Option.some.injEq] at h1 h2
      subst h1 h2
      exact ⟨v, by rw [List.map_cons, List.zip_cons_cons]; exact valV_pos rfl, h⟩
    | succ i =>
      simp only [List.getElem?_cons_succ] at h1 h2
      obtain ⟨w, hw, hd⟩ := fd_val hn2.2 t h1 h2
      have ne : n ≠ s := fun e => hn2.1 (by rw [e]; exact List.mem_of_getElem? h1)
      exact ⟨w, by rw [List.map_cons, List.zip_cons_cons, valV_neg (fun e => ne (Sum.inr.inj e))]; exact hw, hd⟩
theorem dgetS {td ty : TE} (k : td σ H fun x H1 => ty σ H1 fun y H2 => ∃ a v, x = .ref a ∧ DGet H2 a y (some v) ∧ Q v H2) : tDGet td ty σ H Q := k
theorem fdGet {f : Addr} {names : List Str} {ds : List PyData} {s : Str} {d : PyData} {R : V → Prop} (i : Nat) (h : FdAt K H f names ds) (h1 : names[i]? = some s) (h2 : ds[i]? = some d) (k : ∀ v, Dp K H v d → R v) : ∃ a v, V.ref f = .ref a ∧ DGet H a (.str s) (some v) ∧ R v := by
  obtain ⟨n, vs, h3, h4⟩ := h
  obtain ⟨v, hv, hd⟩ := fd_val n h4 h1 h2
  refine ⟨f, v, rfl, ?_, k v hd⟩
  have := DGet.k (k := .inr s) h3
  rw [hv] at this
  exact this
theorem fdGetS {H0 : Hp} {f : Addr} {names : List Str} {ds : List PyData} {s : Str} {d : PyData} {R : V → Prop} (i : Nat) (h : FdAt K H0 f names ds) (e : Same H0 H) (h1 : names[i]? = some s) (h2 : ds[i]? = some d) (k : ∀ v, Dp K H0 v d → R v) : ∃ a v, V.ref f = .ref a ∧ DGet H a (.str s) (some v) ∧ R v := by
  obtain ⟨n, vs, h3, h4⟩ := h
  obtain ⟨v, hv, hd⟩ := fd_val n h4 h1 h2
  refine ⟨f, v, rfl, ?_, k v hd⟩
  have := DGet.k (k := .inr s) (e _ _ h3)
  rw [hv] at this
  exact this
theorem same_to_dl {H0 : Hp} {D : Addr} (s : Same H0 H) (n : H0 D = none) : Same H0 (dl H D) := fun a o e => (dl_ne (ne_of_none e n)).trans (s a o e)
theorem ixLt {l : Addr} {ns : List Int} {i n : Int} (h : SqL K H l (ns.map V.int)) (hb : ∀ x ∈ ns, 0 ≤ x ∧ x < n) (h0 : 0 ≤ i) (h1 : i < (ns.length : Int)) (k : ∀ v : Int, 0 ≤ v → v < n → Q (.int v) H) : rIxL K (.ref l) (.int i) H Q := by
  have hg := hb (ns.getD i.toNat 0) (by
    have h2 : i.toNat < ns.length := by omega
    rw [List.getD_eq_getElem?_getD, List.getElem?_eq_getElem h2]
    exact List.getElem_mem h2)
  exact Rd.ixL h (Rd.atI_ints h0 h1) (k _ hg.1 hg.2)
theorem slFrom {a : Addr} {ns : List Int} {k : Nat} (h : SqL K H a (ns.map V.int)) (hk : k ≤ ns.length) (kk : ∀ p, H p = none → Q (.ref p) (upd H p (.lst ((ns.drop k).map V.int)))) : rSlL K (.ref a) (some (k : Int)) none H Q := by
  refine Rd.slL' h fun p hp => ?_
  rw [show cutV (ns.map V.int) (some (k : Int)) none = (ns.drop k).map V.int from (Bd.cut_drop (by rw [List.length_map]; exact hk)).trans List.map_drop.symm]
  exact kk p hp
theorem FrD.of_nl {H' : Hp} {v : V} {d : PyData} (s : Same H H') (n : nl d = true) (h : Dp K H' v d) : FrD K H H' v d := fun p l e => dp_keep (sameT_dl (s _ _ e)) n h
/-- [data for k in range(m)], each leaning on no list that stood before -/
theorem lcG {α : Type} {m : Int} {j : Nat} {te : TE} (enc : α → PyData) (Ok : α → Prop) (hb : 0 ≤ m ∧ m ≤ 1000)
    (hs : ∀ (i : Nat) (D : Addr) (acc : List V) (H' : Hp) (C : VK), (i : Int) < m → Same H H' → H' D = some (.lst acc) → (∀ y e H3, Same H' H3 → Dp K H3 y (enc e) → FrD K H' H3 y (enc e) → Ok e → C y H3) → te (σ.set j (some (.int (i : Int)))) H' C)
    (hd : ∀ D acc (L : List α) H', H D = none → Same H H' → H' D = some (.lst acc) → DpAll K (dl H' D) acc (L.map enc) → (∀ e ∈ L, Ok e) → L.length = m.toNat → Q (.ref D) H') :
    ∃ q : Int, [V.int m] = [V.int q] ∧ -(2 ^ 62) ≤ q ∧ q < 2 ^ 62 ∧ Rd.LcJ (gName j) tYes te [j] σ Q (Itr 0 q.toNat) H := by
  refine Rd.lcR1 (fun D i acc H' => ∃ L : List α, DpAll K (dl H' D) acc (L.map enc) ∧ (∀ e ∈ L, Ok e) ∧ L.length = i) ⟨by omega, by omega⟩ (fun D H' _ _ _ => ⟨[], .nil, fun _ h => absurd h List.not_mem_nil, rfl⟩) ?_ ?_
  · rintro i acc D H' hD s hi hl hDl ⟨L, hL, hO, hLl⟩
    refine hs i D acc H' _ hi s hDl fun y e H3 s3 hy hf ho => ?_
    refine Rd.lcE hD (s3 _ _ hDl) (s.trans s3) hl (by omega) ⟨L ++ [e], ?_, ?_, by rw [List.length_append]; simp; omega⟩
    · rw [dl_upd, List.map_append]
      exact dpAll_app (dpAll_same (same_dl s3) hL) (dpAll_one (hf D acc hDl))
    · intro x hx
      rcases List.mem_append.mp hx with h | h
      · exact hO x h
      · rw [List.mem_singleton.mp h]; exact ho
  · rintro D acc H' hD s hDl hal ⟨L, hL, hO, hLl⟩
    have := Rd.dpAll_len hL
    rw [List.length_map] at this
    exact hd D acc L H' hD s hDl hL hO (by omega)
theorem triple_of {z : Addr} {x y w : V} {i j l : Nat} {Qd : L2.St → Hp → Prop} (h : SqT K H z [x, y, w]) (k : Qd (((σ.set i (some x)).set j (some y)).set l (some w)) H) : gTup K 3 (gCons (gName i) (gCons (gName j) (gCons (gName l) gNil))) (.ref z) σ H Qd :=
  ⟨z, _, rfl, h, rfl, x, [y, w], rfl, y, [w], rfl, w, [], rfl, rfl, k⟩
/-- tuple(xs), xs a list or a tuple, told beside an object t in the making -/
theorem tupE {t a : Addr} {us : List V} {o : HO} (ht : H t = some o) (h : SqL K (dl H t) a us ∨ SqT K (dl H t) a us) (k : ∀ p H', Same H H' → SqT K (dl H' t) p us → Q (.ref p) H') : Rd.TupK K [.ref a] H Q := by
  rcases h with h | h
  · exact Rd.tupL (dl_same.seq h) fun p hp => k p _ (Rd.same_new hp) (SqT.of ((dl_ne (fun e => by subst e; rw [ht] at hp; cases hp)).trans upd_same))
  · exact Rd.tupT (Rd.same_tup dl_same h) (k a H (Same.refl H) h)
theorem dl_store {t : Addr} {o : HO} : Same (dl H t) (dl (upd H t o) t) := by rw [dl_upd]; exact Same.refl _
end
/-- {}, younger than the frame -/
def tDNewXN (P : Program) (w : World) (K : PySem.W.Frag) (n : Nat) : TE := fun _ H Q => ∀ p, H p = none → n ≤ p → DS P w K (upd H p (dX P w p [])) p [] → Q (.ref p) (upd H p (dX P w p []))
theorem pe_dnewXN {X : Cx} {pos : Pos} : PE X (.Dict [] [] pos) (tDNewXN X.prog X.w X.K X.s_0.heap.objs.size) := ⟨fun pins s σ H Q I h =>
  wpAny_Dict_empty ⟨.ref s.heap.objs.size, _, I.laid (a := s.heap.objs.size) (o := dX X.prog X.w s.heap.objs.size []) (t' := s.toks) (fun _ _ q => Heap.get?_push_of_some _ q) (Nat.le_refl _) (dX_new s.heap I.big), rfl,
    h _ (I.hok.fresh (Nat.le_refl _)) I.sz DS.nil⟩⟩
theorem dnewXN {P : Program} {w : World} {K : PySem.W.Frag} {σ : L2.St} {H : Hp} {Q : VK} {n : Nat} (k : ∀ p, H p = none → n ≤ p → DS P w K (upd H p (dX P w p [])) p [] → Q (.ref p) (upd H p (dX P w p []))) : tDNewXN P w K n σ H Q := k
/-- [.. for i, x in enumerate(xs)] -/
theorem lcEn {K : PySem.W.Frag} {σ : L2.St} {H : Hp} {Q : VK} {a : Addr} {xs : List V} {g : TG} {te : TE} {vs : List Nat} (Pv : Addr → Nat → List V → Hp → Prop) (h : SqL K H a xs) (h0 : ∀ D H', H D = none → Same H H' → H' D = some (.lst []) → Pv D 0 [] H')
    (hs : ∀ (i : Nat) (x : V) (acc : List V) (D : Addr) (H' : Hp) (T : Addr), H D = none → Same H H' → xs[i]? = some x → acc.length = i → H' D = some (.lst acc) → Pv D i acc H' → H' T = none →
      g (.ref T) (wipe σ vs) (upd H' T (.tup [.int (i : Nat), x])) fun σ2 H2 => wipe σ2 vs = wipe σ vs ∧ te σ2 H2 (Rd.LcE H D i Pv))
    (hd : ∀ D acc H', H D = none → Same H H' → H' D = some (.lst acc) → acc.length = xs.length → Pv D xs.length acc H' → Q (.ref D) H') :
    ∃ a' xs', [V.ref a] = [V.ref a'] ∧ SqL K H a' xs' ∧ Rd.LcJ g tYes te vs σ Q (Ite K a') H := by
  refine ⟨a, xs, rfl, h, fun D hD => ⟨fun i m H' => m = xs.length - i ∧ i ≤ xs.length ∧ ∃ acc, Same H H' ∧ acc.length = i ∧ H' D = some (.lst acc) ∧ Pv D i acc H', ⟨xs.length, by simp, Nat.zero_le _, [], Rd.same_new hD, rfl, upd_same, h0 D _ hD (Rd.same_new hD) upd_same⟩, ?_⟩⟩
  rintro i m H' ⟨rfl, hi, acc, s, hl, hDl, p⟩
  have q := s.seq h
  by_cases hlt : i < xs.length
  · refine .inr ⟨⟨xs, xs[i], q, by simp [hlt]⟩, fun H2 => ∃ acc2, Same H H2 ∧ acc2.length = i + 1 ∧ H2 D = some (.lst acc2) ∧ Pv D (i + 1) acc2 H2, fun H2 p' => ⟨xs.length - (i + 1), by omega, rfl, hlt, p'⟩, ?_⟩
    rintro x H2 ⟨T, x', rfl, hT, rfl, hx⟩
    exact hs i x' acc D H' T hD s (hx xs q) hl hDl p hT
  · have e : i = xs.length := by omega
    subst e
    exact .inl ⟨⟨xs, q, Nat.le_refl _⟩, hd D acc H' hD s hDl hl p⟩
theorem iEn {K : PySem.W.Frag} {σ : L2.St} {H : Hp} {ta : TA} {R : It → Hp → Prop} (k : ta σ H fun vs H1 => ∃ a xs, vs = [.ref a] ∧ SqL K H1 a xs ∧ R (Ite K a) H1) : iEnum K ta σ H R := k
/-- t[lo:hi] of a tuple -/
theorem slA {K : PySem.W.Frag} {H : Hp} {Q : VK} {a : Addr} {xs : List V} {lo hi : Option Int} (h : SqT K H a xs) (k : ∀ p H', Same H H' → SqT K H' p (cutV xs lo hi) → Q (.ref p) H') : rSlA K (.ref a) lo hi H Q :=
  ⟨a, xs, rfl, h, fun e => k a H (Same.refl H) (by
    have q : cutV xs lo hi = xs := by
      unfold cutV
      rw [e.1, e.2, List.drop_zero]
      simp
    rw [q]; exact h), fun _ p hp => k p _ (Rd.same_new hp) (SqT.of upd_same)⟩
end Ef
namespace Rb
open PySem PySem.Spec PyProof.Rows L2
theorem call_tupK {X : Cx} {K : PySem.W.Frag} (h : X.K = K) : CallR X (.type "tuple") (fun xs H Q => ∃ p ys, xs = [V.ref p] ∧ ((SqL K H p ys ∧ ∀ l, H l = none → Q (.ref l) (upd H l (.tup ys))) ∨ (SqT K H p ys ∧ Q (.ref p) H))) := by
  subst h; exact call_tuple_of
theorem call_lstK {X : Cx} {K : PySem.W.Frag} (h : X.K = K) : CallR X (.type "list") (fun xs H Q => ∃ p ys, xs = [V.ref p] ∧ (SqL K H p ys ∨ SqT K H p ys) ∧ ∀ l, H l = none → Q (.ref l) (upd H l (.lst ys))) := by
  subst h; exact call_list_of
end Rb

set_option Elab.async false
set_option linter.all false
set_option maxRecDepth 100000
set_option maxHeartbeats 4000000
/-! More of dicts whose keys are tuples told by SqT: setdefault, del, pop, get without a default; a dict beside another. -/
namespace Es
open PySem PySem.Spec PyProof.Rows L2 Bd
section
variable {X : Cx} {pins : List (Addr × Obj)} {σ : L2.St} {H : Hp} {s : Shared} {a b : Addr} {k : List Key} {kvs : List (List Key × V)} {y v : V} {u r : Value} {A : Around} {E : Value → Shared → Prop}
theorem relO_of {o : Option V} {p : Value} (h : RelO o (some p)) : ∃ v, o = some v ∧ RelV v p := by
  cases o with
  | none => cases h
  | some v => exact ⟨v, rfl, h⟩
theorem relO_none {o : Option V} (h : RelO o none) : o = none := by
  cases o with
  | none => rfl
  | some v => cases h
theorem dx_setd {d0 : V} {Q : Value → Shared → Prop} (hu : A.units + 1 < cLine) (I : Inv X pins σ H s) (d : DS X.prog X.w X.K H a kvs) (hz : kvs.length < sizeLine) (eb : SqT X.K H b (k.map kV)) (ry : RelV (.ref b) u) (rd : RelV d0 r)
    (h1 : ∀ v w' s', valV kvs k = some v → Inv X pins σ H s' → RelV v w' → Q w' s')
    (h2 : ∀ s' ys, valV kvs k = none → Inv X pins σ (upd H a (dX X.prog X.w a ys)) s' → DS X.prog X.w X.K (upd H a (dX X.prog X.w a ys)) a (putK kvs k d0) → Q r s') :
    wpAny (model X.prog X.w) A (call (.builtin "dict.setdefault") [.ref a, u, r]) Q E s := by
  cases (show u = Value.ref b from ry)
  obtain ⟨hd, xs, e, rel, dd⟩ := dx_at I d
  have hl : xs.length ≤ sizeLine := by rw [← Paired.length rel]; omega
  have q := rel.val k
  refine call_setdefault_heap (tupleKind_room_in1 hu) (keyC I eb) hd dd (fun p hp => ?_) (fun hn h' dd' hs => ?_) hl
  · rw [hp] at q
    obtain ⟨v, hv, rv⟩ := relO_of q
    exact h1 v p.2 _ hv (I.tok _) rv
  · rw [hn] at q
    obtain ⟨I2, d2⟩ := dx_put (t' := s.toks + (tupleKind (mixKind X.prog X.w)).draws k) I e rel hz hd eb rd dd' hs
    exact h2 _ _ (relO_none q) I2 d2
/-- the dict without the key, in the heap that has it so -/
theorem dx_drop {xs : List (List Key × Addr × Value)} {h' : Heap} {t' : Nat} (I : Inv X pins σ H s) (e : H a = some (dX X.prog X.w a xs)) (rel : KTS X.K H kvs xs) (hz : kvs.length ≤ sizeLine) (hd : (a == sysModules) = false)
    (dd' : h'.DictOfH (tupleKind (mixKind X.prog X.w)) a (withoutH xs k)) (hs : Heap.SameBut a s.heap h') :
    Inv X pins σ (upd H a (dX X.prog X.w a (withoutH xs k))) { s with heap := h', toks := t' } ∧ DS X.prog X.w X.K (upd H a (dX X.prog X.w a (withoutH xs k))) a (L2.dropK kvs k) := by
  obtain ⟨o, es, ep, f1, f2, f3, f4, _, f5⟩ := dd'
  refine ⟨d_write I (by rw [e]; exact dX_mut) hs ⟨o, f1⟩ (dX_ok hd ⟨o, es, ep, f1, f2, f3, f4, f5⟩), Nat.le_trans (List.length_filter_le _ _) hz, _, upd_same, (KTS.drop k rel).keeps fun q ys eq => ?_⟩
  exact sqT_upd (o := dX X.prog X.w a xs) e (fun ys q => by cases q) (fun o u q => by cases q) eq
theorem dx_pop {Q : Value → Shared → Prop} (hu : A.units + 1 < cLine) (I : Inv X pins σ H s) (d : DS X.prog X.w X.K H a kvs) (eb : SqT X.K H b (k.map kV)) (ry : RelV (.ref b) u) (hv : valV kvs k = some v)
    (h : ∀ w' s' ys, Inv X pins σ (upd H a (dX X.prog X.w a ys)) s' → DS X.prog X.w X.K (upd H a (dX X.prog X.w a ys)) a (L2.dropK kvs k) → RelV v w' → Q w' s') :
    wpAny (model X.prog X.w) A (call (.builtin "dict.pop") [.ref a, u]) Q E s := by
  cases (show u = Value.ref b from ry)
  have hz := d.1
  obtain ⟨hd, xs, e, rel, dd⟩ := dx_at I d
  have hl : xs.length ≤ sizeLine := by rw [← Paired.length rel]; omega
  have q := rel.val k
  rw [hv] at q
  obtain ⟨w', hw, rw'⟩ := RelO.some_of q
  obtain ⟨p, hp, hp2⟩ := Option.map_eq_some_iff.mp hw
  refine call_pop_heap (more := []) (.inl rfl) (PySem.F.args_dict_pop_2 _ _) (tupleKind_room_in1 hu) (keyC I eb) hd dd hp (fun h' dd' hs => ?_) hl
  obtain ⟨I2, d2⟩ := dx_drop (t' := s.toks + (tupleKind (mixKind X.prog X.w)).draws k) I e rel hz hd dd' hs
  rw [hp2]
  exact h w' _ _ I2 d2 rw'
theorem dx_del {Q : Unit → Shared → Prop} (hu : A.units + 1 < cLine) (I : Inv X pins σ H s) (d : DS X.prog X.w X.K H a kvs) (eb : SqT X.K H b (k.map kV)) (ry : RelV (.ref b) u) (hv : (valV kvs k).isSome = true)
    (h : ∀ s' ys, Inv X pins σ (upd H a (dX X.prog X.w a ys)) s' → DS X.prog X.w X.K (upd H a (dX X.prog X.w a ys)) a (L2.dropK kvs k) → Q () s') :
    wpAny (model X.prog X.w) A (delItem (.ref a) u) Q E s := by
  cases (show u = Value.ref b from ry)
  have hz := d.1
  obtain ⟨hd, xs, e, rel, dd⟩ := dx_at I d
  have hl : xs.length ≤ sizeLine := by rw [← Paired.length rel]; omega
  have q := rel.val k
  obtain ⟨v, hv2⟩ := Option.isSome_iff_exists.mp hv
  rw [hv2] at q
  obtain ⟨w', hw, rw'⟩ := RelO.some_of q
  obtain ⟨p, hp, hp2⟩ := Option.map_eq_some_iff.mp hw
  refine wpAny_delItem_heap (tupleKind_room_in1 hu) (keyC I eb) hd dd hp (fun h' dd' hs => ?_) hl
  obtain ⟨I2, d2⟩ := dx_drop (t' := s.toks + (tupleKind (mixKind X.prog X.w)).draws k) I e rel hz hd dd' hs
  exact h _ _ I2 d2
theorem dx_get1 {o : Option V} {Q : Value → Shared → Prop} (hu : A.units + 1 < cLine) (I : Inv X pins σ H s) (g : GX X.prog X.w X.K H a y o) (ry : RelV y u) (h : ∀ w' s', Inv X pins σ H s' → RelV (o.getD .non) w' → Q w' s') :
    wpAny (model X.prog X.w) A (call (.builtin "dict.get") [.ref a, u]) Q E s := by
  obtain ⟨kvs, k, b, d, rfl, eb, rfl⟩ := g
  cases (show u = Value.ref b from ry)
  obtain ⟨hd, xs, _, rel, dd⟩ := dx_at I d
  refine call_meetsIn PySem.F.slot_dict_get dd.typeIs PySem.F.entry_dict_get (PySem.F.args_dict_get_2 _ _) (meetsH_dict_get (tupleKind (mixKind X.prog X.w)) a b hd) ?_
  exact ⟨tupleKind_room_in1 hu, k, xs, keyC I eb, dd, h _ _ (I.tok _) ((rel.val k).getD rfl)⟩
end
/-- d.setdefault(y, z) -/
def tDSetdX (P : Program) (w : World) (K : PySem.W.Frag) (td ty tx : TE) : TE := fun σ H Q => td σ H fun x H1 => ∃ a, x = .ref a ∧ (∃ kvs, DS P w K H1 a kvs) ∧ ty σ H1 fun y H2 => tx σ H2 fun z H3 => ∃ kvs k b, y = .ref b ∧ DS P w K H3 a kvs ∧ kvs.length < sizeLine ∧ SqT K H3 b (k.map kV) ∧
  (∀ v, valV kvs k = some v → Q v H3) ∧ (valV kvs k = none → ∀ ys, DS P w K (upd H3 a (dX P w a ys)) a (putK kvs k z) → Q z (upd H3 a (dX P w a ys)))
/-- d.pop(y), the key there -/
def tDPopX (P : Program) (w : World) (K : PySem.W.Frag) (td ty : TE) : TE := fun σ H Q => td σ H fun x H1 => ∃ a, x = .ref a ∧ (∃ kvs, DS P w K H1 a kvs) ∧ ty σ H1 fun y H2 => ∃ kvs k b v, y = .ref b ∧ DS P w K H2 a kvs ∧ SqT K H2 b (k.map kV) ∧ valV kvs k = some v ∧
  ∀ ys, DS P w K (upd H2 a (dX P w a ys)) a (L2.dropK kvs k) → Q v (upd H2 a (dX P w a ys))
/-- d.get(y) -/
def tDGet1X (P : Program) (w : World) (K : PySem.W.Frag) (td ty : TE) : TE := fun σ H Q => td σ H fun x H1 => ∃ a, x = .ref a ∧ (∃ kvs, DS P w K H1 a kvs) ∧ ty σ H1 fun y H2 => ∃ o, GX P w K H2 a y o ∧ Q (o.getD .non) H2
/-- del d[y], the key there -/
def sDDelX (P : Program) (w : World) (K : PySem.W.Frag) (td ty : TE) : TS := fun D σ H => td σ H fun x H1 => ty σ H1 fun y H2 => ∃ a kvs k b, x = .ref a ∧ y = .ref b ∧ DS P w K H2 a kvs ∧ SqT K H2 b (k.map kV) ∧ (valV kvs k).isSome = true ∧
  ∀ ys, DS P w K (upd H2 a (dX P w a ys)) a (L2.dropK kvs k) → D.nx σ (upd H2 a (dX P w a ys))
section
variable {X : Cx} {o i e f value : Expr} {pos pos' apos cpos tpos : Pos} {td ty tv tx : TE}
theorem pe_dsetdX (hu : X.A.units + 1 < cLine) (ho : PE X o td) (he : PE X e ty) (hf : PE X f tx) (m : M2 X o "setdefault" apos e f cpos) : PE X (.Call (.Attribute o "setdefault" apos) [e, f] [] cpos) (tDSetdX X.prog X.w X.K td ty tx) := by
  refine ⟨fun pins s σ H Q I h => ?_⟩
  refine wpAny_Call_method m.base m.few m.line PySem.F.plainAttrs_dict PySem.F.slot_dict_setdefault PySem.F.type_dict_setdefault (thn (ho.run pins s σ H _ I h) fun u s1 ⟨x, H1, I1, rx, a, ex, ⟨kvs, d⟩, q1⟩ => ?_)
  subst ex
  obtain rfl : u = Value.ref a := rx
  obtain ⟨t1, t2⟩ := dx_typeIs I1 d
  refine ⟨t1, t2, ?_⟩
  rw [m.trees]
  refine Calls.callWith_builtin rfl (Calls.evalArgs_plain (Calls.spliced_cons (thn (he.run pins s1 σ H1 _ I1 q1) fun iv s2 ⟨y, H2, I2, ry, q2⟩ =>
    Calls.spliced_cons (thn (hf.run pins s2 σ H2 _ I2 q2) fun fv s3 ⟨z, H3, I3, rz, kvs, k, b, ey, d3, hz, eb, q3, q4⟩ => Calls.spliced_nil ?_))))
  subst ey
  exact dx_setd hu I3 d3 hz eb ry rz (fun v w' s4 hv I4 rw' => ⟨v, H3, I4, rw', q3 v hv⟩) (fun s4 ys hn I4 d4 => ⟨z, _, I4, rz, q4 hn ys d4⟩)
theorem pe_dpopX (hu : X.A.units + 1 < cLine) (ho : PE X o td) (he : PE X e ty) (m : M1 X o "pop" apos e cpos) : PE X (.Call (.Attribute o "pop" apos) [e] [] cpos) (tDPopX X.prog X.w X.K td ty) := by
  refine ⟨fun pins s σ H Q I h => ?_⟩
  refine wpAny_Call_method m.base m.few m.line PySem.F.plainAttrs_dict PySem.F.slot_dict_pop PySem.F.type_dict_pop (thn (ho.run pins s σ H _ I h) fun u s1 ⟨x, H1, I1, rx, a, ex, ⟨kvs, d⟩, q1⟩ => ?_)
  subst ex
  obtain rfl : u = Value.ref a := rx
  obtain ⟨t1, t2⟩ := dx_typeIs I1 d
  refine ⟨t1, t2, ?_⟩
  rw [m.trees]
  refine Calls.callWith_builtin rfl (Calls.evalArgs_plain (Calls.spliced_cons (thn (he.run pins s1 σ H1 _ I1 q1) fun iv s2 ⟨y, H2, I2, ry, kvs, k, b, v, ey, d2, eb, hv, q2⟩ => Calls.spliced_nil ?_)))
  subst ey
  exact dx_pop hu I2 d2 eb ry hv fun w' s3 ys I3 d3 rw' => ⟨v, _, I3, rw', q2 ys d3⟩
theorem pe_dget1X (hu : X.A.units + 1 < cLine) (ho : PE X o td) (he : PE X e ty) (m : M1 X o "get" apos e cpos) : PE X (.Call (.Attribute o "get" apos) [e] [] cpos) (tDGet1X X.prog X.w X.K td ty) := by
  refine ⟨fun pins s σ H Q I h => ?_⟩
  refine wpAny_Call_method m.base m.few m.line PySem.F.plainAttrs_dict PySem.F.slot_dict_get PySem.F.type_dict_get (thn (ho.run pins s σ H _ I h) fun u s1 ⟨x, H1, I1, rx, a, ex, ⟨kvs, d⟩, q1⟩ => ?_)
  subst ex
  obtain rfl : u = Value.ref a := rx
  obtain ⟨t1, t2⟩ := dx_typeIs I1 d
  refine ⟨t1, t2, ?_⟩
  rw [m.trees]
  refine Calls.callWith_builtin rfl (Calls.evalArgs_plain (Calls.spliced_cons (thn (he.run pins s1 σ H1 _ I1 q1) fun iv s2 ⟨y, H2, I2, ry, ov, g, q2⟩ => Calls.spliced_nil ?_)))
  exact dx_get1 hu I2 g ry fun w' s3 I3 rw' => ⟨_, H2, I3, rw', q2⟩
theorem ps_ddelX (hu : X.A.units + 1 < cLine) (ho : PE X o td) (hi : PE X i ty) : PS X (.Delete [.Subscript o i tpos] pos) (sDDelX X.prog X.w X.K td ty) := by
  refine ⟨fun pins s σ H D I h => ?_⟩
  refine wpAny_Delete (wpAny_deleteEach_cons (wpAny_delete_Subscript (thn (ho.run pins s σ H _ I h) fun u s1 ⟨x, H1, I1, rx, q1⟩ => thn (hi.run pins s1 σ H1 _ I1 q1) fun iv s2 ⟨y, H2, I2, ry, a, kvs, k, b, ex, ey, d, eb, hv, q2⟩ => ?_)))
  subst ex ey
  obtain rfl : u = Value.ref a := rx
  exact dx_del hu I2 d eb ry hv fun s3 ys I3 d3 => wpAny_deleteEach_nil ⟨σ, _, I3, q2 ys d3⟩
end
end Es

set_option Elab.async false
set_option linter.all false
set_option maxRecDepth 100000
set_option maxHeartbeats 4000000
/-! Pairs of numbers: their order, sorted lists of them, dicts with such keys. -/
namespace Bd
open PySem PySem.W PySem.Calls PyProof.Rows
def ltII (p q : Int × Int) : Bool := if p.1 = q.1 then decide (p.2 < q.2) else decide (p.1 < q.1)
theorem ltII_iff {p q : Int × Int} : ltII p q = true ↔ p.1 < q.1 ∨ (p.1 = q.1 ∧ p.2 < q.2) := by
  unfold ltII
  by_cases e : p.1 = q.1
  · rw [if_pos e]; simp only [decide_eq_true_eq]; omega
  · rw [if_neg e]; simp only [decide_eq_true_eq]; omega
theorem ltII_no {p q : Int × Int} : ltII p q = false ↔ ¬ (p.1 < q.1 ∨ (p.1 = q.1 ∧ p.2 < q.2)) := by
  rw [← ltII_iff]; simp
theorem swo_II {α : Type} (k : α → Int × Int) : SrtO.Swo fun v u => ltII (k v) (k u) := by
  refine ⟨fun x y h => ?_, fun x y z h1 h2 => ?_⟩
  · have a := ltII_iff.mp h
    exact ltII_no.mpr (by omega)
  · have a := ltII_no.mp h1
    have b := ltII_no.mp h2
    exact ltII_no.mpr (by omega)
/-- a pair of a text and a number -/
def IsII (h : Heap) (v : Value) (p : Int × Int) : Prop := ∃ a o t u n, v = .ref a ∧ h.get? a = some o ∧ o.cls = .type "tuple" ∧ o.data = .seq #[.int p.1 t, .int p.2 u] n
theorem IsII.keeps {h h' : Heap} {v : Value} {p : Int × Int} (x : IsII h v p) (k : ∀ b o, h.get? b = some o → o.cls = .type "tuple" → h'.get? b = some o) : IsII h' v p := by
  obtain ⟨a, o, t, u, n, e, ho, hc, hd⟩ := x
  exact ⟨a, o, t, u, n, e, k _ _ ho hc, hc, hd⟩
section
variable {prog : Program} {w : World} {A : Around} {s : Shared}
theorem ii_cmp {vs : List Value} {k : Value → Int × Int} (hp : ∀ v ∈ vs, IsII s.heap v (k v)) : SrtO.Cmp prog w A s (tuples' true) (fun p => p.1 ∈ vs) (SrtO.lt2 fun v u => ltII (k v) (k u)) := by
  intro p q hm hm'
  have h1 := hp _ hm
  have h2 := hp _ hm'
  show wpAny (model prog w) A (keyLt' (tuples' true) p.1 q.1) (fun r s' => s' = s ∧ r = ltII (k p.1) (k q.1)) (fun _ _ => False) s
  generalize k p.1 = x at h1 ⊢
  generalize k q.1 = y at h2 ⊢
  obtain ⟨a, o, t, u, n, e, ho, hc, hd⟩ := h1
  obtain ⟨a', o', t', u', n', e', ho', hc', hd'⟩ := h2
  rw [e, e']
  refine PySem.W.kat_lt ho hd ho' hd' ?_
  show PySem.W.KatLex prog w A true (decide (2 < 2)) _ [(.int x.1 t, .int y.1 t'), (.int x.2 u, .int y.2 u')] 0 s
  refine PySem.W.kat_cons (SeqAt.EqAt.int_int x.1 t y.1 t' prog w _ _ ?_)
  refine PySem.W.kat_go (fun e1 => ?_) (fun e1 => ?_)
  · have ex : x.1 = y.1 := by simpa using e1
    refine PySem.W.kat_yes (PySem.W.kat_cons (SeqAt.EqAt.int_int x.2 u y.2 u' prog w _ _ ?_))
    refine PySem.W.kat_go (fun e2 => ?_) (fun e2 => ?_)
    · have ey : x.2 = y.2 := by simpa using e2
      refine PySem.W.kat_yes (PySem.W.kat_nil ⟨rfl, ?_⟩)
      unfold ltII
      rw [if_pos ex, ey]
      exact (decide_eq_false (Int.lt_irrefl _)).symm
    · refine PySem.W.kat_no (PySem.W.kat_one _ _ (PyProof.Rows.lt_int ?_))
      refine ⟨rfl, ?_⟩
      unfold ltII
      rw [if_pos ex]
  · have ex : ¬ x.1 = y.1 := by simpa using e1
    refine PySem.W.kat_no (oneLt_int ⟨rfl, ?_⟩)
    unfold ltII
    rw [if_neg ex]
theorem ii_firsts {h : Heap} {k : Value → Int × Int} : ∀ {vs : List Value}, (∀ v ∈ vs, IsII h v (k v)) → ∃ fs : List Value, PySem.W.KatTups h vs fs ∧ fs.length = vs.length ∧ ∀ f ∈ fs, ∃ x t, f = Value.int x t
  | [], _ => ⟨[], PySem.W.KatTups.nil, rfl, fun _ hm => by simp at hm⟩
  | v :: vs, hp => by
    obtain ⟨fs, h1, h2, h3⟩ := ii_firsts (vs := vs) fun v' hm => hp v' (List.mem_cons_of_mem _ hm)
    obtain ⟨a, o, t, u, n, e, ho, hc, hd⟩ := hp v (List.mem_cons_self ..)
    subst e
    refine ⟨.int _ t :: fs, PySem.W.KatTups.cons ho hc hd rfl h1, by rw [List.length_cons, List.length_cons, h2], fun f hm => ?_⟩
    rcases List.mem_cons.mp hm with rfl | hm
    · exact ⟨_, _, rfl⟩
    · exact h3 f hm
theorem ii_sortable {a : Addr} {vs : List Value} {k : Value → Int × Int} (h0 : 0 < vs.length) (hp : ∀ v ∈ vs, IsII s.heap v (k v)) (ha : ∀ o, s.heap.get? a = some o → o.cls ≠ .type "tuple") :
    SrtO.SortableO prog w A s a vs fun v u => ltII (k v) (k u) := by
  intro h' keep
  have hp' : ∀ v ∈ vs, IsII h' v (k v) := fun v hm => (hp v hm).keeps fun b o e c => keep b o (fun z => by subst z; exact ha o e c) e
  obtain ⟨fs, h1, h2, h3⟩ := ii_firsts hp'
  refine ⟨tuples' true, fun Q E hq => ?_, ii_cmp hp'⟩
  refine PySem.W.kat_kind (T := .type "int") h1 (by omega) (fun f hm => ?_) (by rfl) ?_
  · obtain ⟨x, t, rfl⟩ := h3 f hm
    exact PySem.W.Looks.now
  · have e : (Value.type "int" != Value.type "tuple") = true := by first | decide +kernel | rfl | decide
    rw [e]
    exact hq
end
end Bd
namespace Bd
open PySem PySem.Spec PyProof.Rows L2
def iiOf (h : Heap) (v : Value) : Int × Int := match v with
  | .ref b => (match h.get? b with
    | some o => (match o.data with
      | .seq xs _ => (match xs.toList with
        | [.int x _, .int y _] => (x, y)
        | _ => (0, 0))
      | _ => (0, 0))
    | none => (0, 0))
  | _ => (0, 0)
theorem IsII.of {h : Heap} {v : Value} {p : Int × Int} (x : IsII h v p) : iiOf h v = p := by
  obtain ⟨a, o, t, u, n, rfl, ho, hc, hd⟩ := x
  unfold iiOf
  simp only [ho, hd]
/-- a reference as a dict's key -/
def eR (p : Int × Int) : List Key := [Sum.inl p.1, Sum.inl p.2]
/-- a pair of numbers as data -/
def encP2 (p : Int × Int) : PyData := .tuple [.int p.1, .int p.2]
end Bd
namespace Es
open PySem PySem.Spec PyProof.Rows L2 Bd Dj
def AsI (K : PySem.W.Frag) (H : Hp) (ps : List (Addr × (Int × Int))) : Prop := ∀ z ∈ ps, SqT K H z.1 [.int z.2.1, .int z.2.2]
theorem kts_ai {K : PySem.W.Frag} {H : Hp} : ∀ {m : List ((Int × Int) × V)} {ks : List (List Key × Addr × Value)}, KTS K H (m.map fun e => (eR e.1, e.2)) ks → ∃ ps : List (Addr × (Int × Int)), AsI K H ps ∧ ps.map (·.2) = m.map (·.1) ∧ ps.map (·.1) = ks.map fun x => x.2.1
  | [], _, Paired.nil => ⟨[], fun _ h => absurd h List.not_mem_nil, rfl, rfl⟩
  | e :: m, _, Paired.cons (b := x) h t => by
    obtain ⟨ps, h1, h2, h3⟩ := kts_ai (m := m) t
    refine ⟨(x.2.1, e.1) :: ps, fun z hz => ?_, by rw [List.map_cons, List.map_cons, h2], by rw [List.map_cons, List.map_cons, h3]⟩
    rcases List.mem_cons.mp hz with rfl | hz
    · exact h.2.1
    · exact h1 z hz
section
variable {X : Cx} {pins : List (Addr × Obj)} {σ : L2.St} {H : Hp} {s : Shared} {a b : Addr}
theorem isII_C {p : Int × Int} (I : Inv X pins σ H s) (e : SqT X.K H b [.int p.1, .int p.2]) : IsII s.heap (.ref b) p := by
  obtain ⟨its, rel, ⟨o, h1, h2, n, h3⟩, _⟩ := I.tuple e
  cases rel with
  | cons ra rest =>
    cases rest with
    | cons rb rest =>
      cases rest
      obtain ⟨t1, e1⟩ := (show ∃ t, _ = Value.int p.1 t from ra)
      obtain ⟨t2, e2⟩ := (show ∃ t, _ = Value.int p.2 t from rb)
      subst e1 e2
      exact ⟨b, o, t1, t2, n, rfl, h1, h2, h3⟩
end
section
variable {X : Cx}
def rSortedXI (P : Program) (w : World) (K : PySem.W.Frag) : List V → Hp → VK → Prop := fun xs H Q => ∃ (a : Addr) (m : List ((Int × Int) × V)), xs = [.ref a] ∧ DS P w K H a (m.map fun e => (eR e.1, e.2)) ∧
  ∀ (ps : List (Addr × (Int × Int))) (p : Addr), AsI K H ps → SrtO.Srtd ltII (ps.map (·.2)) → (ps.map (·.2)).Perm (m.map (·.1)) → H p = none → Q (.ref p) (upd H p (.lst (ps.map fun z => V.ref z.1)))
theorem cr_sortedXI (hcalm : X.calm = true) : CallR X (.builtin "sorted") (rSortedXI X.prog X.w X.K) := by
  intro pins s σ H xs us Q I r q
  obtain ⟨a, m, rfl, hd, q⟩ := q
  obtain ⟨u, rfl, rx⟩ := vals1 r
  cases rx
  have z := hd.1
  obtain ⟨hs, ks, _, pr, o, es, ep, ho, hx, hdt, he, _, hn⟩ := dx_at I hd
  have l1 : es.size = ks.length := size_of_entries he
  have l2 : (m.map fun e => (eR e.1, e.2)).length = ks.length := Paired.length pr
  have l3 : m.length = ks.length := by simpa using l2
  refine Calls.call_function_entry PyProof.Rows.kind_sorted PyProof.Rows.plain_sorted PyProof.Rows.entry_sorted (PyProof.Rows.args_sorted1 _) ?_
  unfold Builtin.«sorted»
  refine wpAny_bind (m := checkCount "sorted" 1 1 _) (wpAny_pure ?_)
  refine wpAny_bind (PySem.W.kdu_collect (A := X.A.in1) (kdl_raw hs hx hdt) (I.ok.hd hcalm) ho (by omega) fun h' tk acc hk it => ?_)
  have ea : acc.toList = (ks.map fun x => x.2.1).map Value.ref := by
    have hl : acc.toList.length = ks.length := by rw [Array.length_toList, it.1]; exact l1
    apply List.ext_getElem?
    intro j
    rw [List.map_map, List.getElem?_map]
    cases hj : acc.toList[j]? with
    | none =>
      have h1 := List.getElem?_eq_none_iff.mp hj
      rw [List.getElem?_eq_none (by omega)]
      rfl
    | some v =>
      obtain ⟨en, hen, hv⟩ := it.2 j v (by rw [← Array.getElem?_toList]; exact hj)
      have qe := entry_at he j
      rw [hen] at qe
      cases hb : ks[j]? with
      | none =>
        rw [hb] at qe
        exact nomatch (show some en = none from qe)
      | some b =>
        rw [hb] at qe
        have e2 : en = entryOfKey (tupleKind (mixKind X.prog X.w)) b := Option.some.inj qe
        rw [hv, e2]
        rfl
  have I1 : Inv X pins σ H { s with heap := h', toks := tk } := I.kept hk
  obtain ⟨ps0, a1, a2, a3⟩ := kts_ai pr
  have eb : acc.toList = ps0.map fun z => Value.ref z.1 := by rw [ea, ← a3, List.map_map]; rfl
  have hal : acc.toList.length ≤ sizeLine := by
    rw [Array.length_toList, it.1]; omega
  refine wpAny_bind (wpAny_newList ?_ hal)
  have hoL : (h'.push (seqObj "list" acc.toList.toArray 0)).get? h'.objs.size = some (seqObj "list" acc.toList.toArray 0) := Heap.get?_push_size _ rfl
  have hsi : ∀ v ∈ acc.toList, IsII (h'.push (seqObj "list" acc.toList.toArray 0)) v (iiOf s.heap v) := fun v hv => by
    rw [eb] at hv
    obtain ⟨zz, hz, rfl⟩ := List.mem_map.mp hv
    have q := isII_C I (a1 zz hz)
    rw [q.of]
    exact (isII_C I1 (a1 zz hz)).keeps fun b ob e _ => Heap.get?_push_of_some _ e
  show wpAny _ _ _ _ _ { s with heap := h'.push (seqObj "list" acc.toList.toArray 0), toks := tk }
  refine wpAny_bind (wpAny_holding (wpAny_call_entry PyProof.Rows.slot_list_sort ⟨_, hoL, rfl⟩ PyProof.Rows.entry_list_sort
    (SrtO.list_sort_ord (ltv := fun v u => ltII (iiOf s.heap v) (iiOf s.heap u)) (s := { s with heap := h'.push (seqObj "list" acc.toList.toArray 0), toks := tk }) (swo_II (iiOf s.heap)) hoL hal (fun h2 => ii_sortable (by omega) hsi fun ob e => by
      have e' := e.symm.trans hoL
      cases e'
      intro c
      exact absurd (Value.type.inj c) (by decide)) fun out h1 h2 => ⟨_, rfl, ?_⟩)
    (PyProof.Rows.args_list_sort _)))
  obtain ⟨ps, b1, b2⟩ := perm_lift (fun z : Addr × (Int × Int) => Value.ref z.1) h2.perm ps0 eb.symm
  have hAs : AsI X.K H ps := fun z hz => a1 z (b1.mem_iff.mp hz)
  have hk2 : ∀ z ∈ ps, iiOf s.heap (Value.ref z.1) = z.2 := fun z hz => (isII_C I (hAs z hz)).of
  have hsr : SrtO.Srtd ltII (ps.map (·.2)) := by
    rw [← b2] at h1
    have h1' := List.pairwise_map.mp h1
    refine List.pairwise_map.mpr (h1'.imp_of_mem fun {x y} hx hy hh => ?_)
    have hh' : ltII (iiOf s.heap (Value.ref y.1)) (iiOf s.heap (Value.ref x.1)) = false := hh
    rw [hk2 x hx, hk2 y hy] at hh'
    exact hh'
  obtain ⟨e', he'⟩ := PyProof.Rows.sortedHeap_at (vs := acc.toList) (out := out.toArray) hoL
  have hlen : (ps.map fun z => V.ref z.1).length ≤ sizeLine := by
    rw [List.length_map, b1.length_eq]
    have : ps0.length = acc.toList.length := by rw [eb, List.length_map]
    omega
  refine wpAny_pure ⟨_, rfl, .ref h'.objs.size, upd H h'.objs.size (.lst (ps.map fun z => V.ref z.1)), I1.laid (t' := tk) (fun b u e => ?_) (Nat.le_refl _)
    (show ObjOk X.prog X.w _ _ _ (.lst _) from ⟨hlen, out, e', ?_, he'⟩), rfl, q ps _ hAs hsr ((b1.map _).trans (by rw [a2])) (I1.hok.fresh (Nat.le_refl _))⟩
  · have hb : b < h'.objs.size := Heap.lt_size e
    rw [PyProof.Rows.sortedHeap_old (Nat.ne_of_lt hb) (by rw [size_push']; exact Nat.lt_succ_of_lt hb)]
    exact Heap.get?_push_of_some _ e
  · rw [← b2]
    have := vals_refs (ps.map (·.1))
    rw [List.map_map, List.map_map] at this
    exact this
end
theorem refsC_dp {K : PySem.W.Frag} {H : Hp} {ps : List (Addr × (Int × Int))} (h : AsI K H ps) : DpAll K H (ps.map fun z => V.ref z.1) ((ps.map (·.2)).map encP2) := by
  induction ps with
  | nil => exact .nil
  | cons z ps ih =>
    exact .cons (.tup (h z List.mem_cons_self) (.cons (.int _) (.cons (.int _) .nil))) (ih fun y hy => h y (List.mem_cons_of_mem _ hy))
theorem dpRef {K : PySem.W.Frag} {H : Hp} {x : V} {p : Int × Int} (h : Dp K H x (encP2 p)) : ∃ z, x = .ref z ∧ SqT K H z [.int p.1, .int p.2] := by
  obtain ⟨z, u, v, rfl, hz, hu, hv⟩ := dp_pair h
  obtain rfl := dp_int hu
  obtain rfl := dp_int hv
  exact ⟨z, rfl, hz⟩
theorem asI_of {K : PySem.W.Frag} {H : Hp} : ∀ {xs : List V} {A : List (Int × Int)}, DpAll K H xs (A.map encP2) → ∃ ps : List (Addr × (Int × Int)), xs = ps.map (fun z => V.ref z.1) ∧ ps.map (·.2) = A ∧ AsI K H ps
  | _, [], .nil => ⟨[], rfl, rfl, fun _ h => absurd h List.not_mem_nil⟩
  | _, p :: A, .cons h t => by
    obtain ⟨z, rfl, hz⟩ := dpRef h
    obtain ⟨ps, rfl, h2, h3⟩ := asI_of t
    refine ⟨(z, p) :: ps, rfl, by rw [List.map_cons, h2], fun y hy => ?_⟩
    rcases List.mem_cons.mp hy with rfl | hy
    · exact hz
    · exact h3 y hy
section
variable {X : Cx}
/-- sorted(xs), xs a list of pairs of numbers -/
def rSortedLI (K : PySem.W.Frag) : List V → Hp → VK → Prop := fun vs H Q => ∃ (a : Addr) (xs : List V) (A : List (Int × Int)), vs = [.ref a] ∧ SqL K H a xs ∧ DpAll K H xs (A.map encP2) ∧
  ∀ (B : List (Int × Int)) (ys : List V) (p : Addr), B.Perm A → SrtO.Srtd ltII B → H p = none → DpAll K H ys (B.map encP2) → Q (.ref p) (upd H p (.lst ys))
theorem cr_sortedLI : CallR X (.builtin "sorted") (rSortedLI X.K) := by
  intro pins s σ H xs us Q I r q
  obtain ⟨a, xs0, A, rfl, hs, hA0, q⟩ := q
  obtain ⟨ps0, rfl, rfl, hA⟩ := asI_of hA0
  obtain ⟨its, rv, hl, hz⟩ := I.list hs
  obtain ⟨u, rfl, ru⟩ := vals1 r
  obtain rfl : u = Value.ref a := ru
  have eb : its = ps0.map fun z => Value.ref z.1 := by
    have h1 : ∀ {ps : List (Addr × (Int × Int))} {us : List Value}, Vals (ps.map fun z => V.ref z.1) us → us = ps.map fun z => Value.ref z.1 := by
      intro ps
      induction ps with
      | nil => intro us h; cases h; rfl
      | cons z ps ih =>
        intro us h
        rw [List.map_cons] at h
        cases h with
        | cons h t => rw [ih t, List.map_cons, show _ = Value.ref z.1 from h]
    exact h1 rv
  have hsi : ∀ v ∈ its, IsII s.heap v (iiOf s.heap v) := fun v hv => by
    rw [eb] at hv
    obtain ⟨zz, hz, rfl⟩ := List.mem_map.mp hv
    have q := isII_C I (hA zz hz)
    rw [q.of]; exact q
  refine SrtO.sorted_ord (ltv := fun v u => ltII (iiOf s.heap v) (iiOf s.heap u)) (swo_II (iiOf s.heap)) hl.isList (by rw [← rv.length]; exact hz) (fun h2 h₁ a' ha' kk => ?_) fun out h1 h2 => ?_
  · refine ii_sortable (s := { s with heap := h₁ }) (by omega) (fun v hm => (hsi v hm).keeps fun b o e _ => (kk b o e).2) fun o e => ?_
    have e' : some o = some (seqObj "list" its.toArray 0) := e.symm.trans ha'
    cases e'
    intro c
    exact absurd (Value.type.inj c) (by decide)
  · obtain ⟨ps, b1, b2⟩ := perm_lift (fun z : Addr × (Int × Int) => Value.ref z.1) h2.perm ps0 eb.symm
    have hAs : AsI X.K H ps := fun z hz => hA z (b1.mem_iff.mp hz)
    have hk2 : ∀ z ∈ ps, iiOf s.heap (Value.ref z.1) = z.2 := fun z hz => (isII_C I (hAs z hz)).of
    have hsr : SrtO.Srtd ltII (ps.map (·.2)) := by
      rw [← b2] at h1
      have h1' := List.pairwise_map.mp h1
      refine List.pairwise_map.mpr (h1'.imp_of_mem fun {x y} hx hy hh => ?_)
      have hh' : ltII (iiOf s.heap (Value.ref y.1)) (iiOf s.heap (Value.ref x.1)) = false := hh
      rw [hk2 x hx, hk2 y hy] at hh'
      exact hh'
    have hd : s.heap.objs.size ≤ s.heap.objs.size + 1 := Nat.le_succ _
    obtain ⟨n, hn⟩ := sortedAll_at s.heap its out.toArray
    refine ⟨.ref (s.heap.objs.size + 1), upd H (s.heap.objs.size + 1) (.lst (ps.map fun z => V.ref z.1)), I.laid (t' := s.toks) (fun b o e => sortedAll_old e) hd ⟨?_, out, n, ?_, hn⟩, rfl, q (ps.map (·.2)) _ _ (b1.map _) hsr (I.hok.fresh hd) (refsC_dp hAs)⟩
    · rw [List.length_map] at hz ⊢; rw [b1.length_eq]; exact hz
    · rw [← b2]
      have := vals_refs (ps.map (·.1))
      rw [List.map_map, List.map_map] at this
      exact this
end
end Es

set_option Elab.async false
set_option linter.all false
set_option maxRecDepth 100000
set_option maxHeartbeats 4000000
/-! list(d), list(d.values()) of dicts over SqT. -/
namespace Es
open PySem PySem.Spec PyProof.Rows L2 Bd Dj
theorem entry_key {P : Program} {w : World} (x : List Key × Addr × Value) : (entryOfKey (tupleKind (mixKind P w)) x).key = .ref x.2.1 := rfl
theorem entry_val {P : Program} {w : World} (x : List Key × Addr × Value) : (entryOfKey (tupleKind (mixKind P w)) x).val = x.2.2 := rfl
/-- the keys' own tuples, one for each entry -/
def KeysAt (K : PySem.W.Frag) (H : Hp) (ps : List Addr) (kvs : List (List Key × V)) : Prop := Paired (fun p kv => SqT K H p (kv.1.map kV)) ps kvs
theorem keysAt_of {K : PySem.W.Frag} {H : Hp} : ∀ {kvs : List (List Key × V)} {ks : List (List Key × Addr × Value)}, KTS K H kvs ks → KeysAt K H (ks.map fun x => x.2.1) kvs
  | _, _, Paired.nil => Paired.nil
  | _, _, Paired.cons h t => Paired.cons (by rw [h.1]; exact (h.1 ▸ h.2.1)) (keysAt_of t)
theorem valsAt_of {K : PySem.W.Frag} {H : Hp} : ∀ {kvs : List (List Key × V)} {ks : List (List Key × Addr × Value)}, KTS K H kvs ks → Vals (kvs.map (·.2)) (ks.map fun x => x.2.2)
  | _, _, Paired.nil => .nil
  | _, _, Paired.cons h t => .cons h.2.2 (valsAt_of t)
section
variable {X : Cx}
def rListX (P : Program) (w : World) (K : PySem.W.Frag) : List V → Hp → VK → Prop := fun xs H Q => ∃ (a : Addr) (kvs : List (List Key × V)), xs = [.ref a] ∧ DS P w K H a kvs ∧
  ∀ (ps : List Addr) (l : Addr), KeysAt K H ps kvs → H l = none → Q (.ref l) (upd H l (.lst (ps.map V.ref)))
theorem cr_listX (hcalm : X.calm = true) : CallR X (.type "list") (rListX X.prog X.w X.K) := by
  intro pins s σ H xs us Q I r q
  obtain ⟨a, kvs, rfl, hd, q⟩ := q
  obtain ⟨u, rfl, rx⟩ := vals1 r
  cases rx
  have z := hd.1
  obtain ⟨hs, ks, _, pr, o, es, ep, ho, hx, hdt, he, _, hn⟩ := dx_at I hd
  have l1 : es.size = ks.length := size_of_entries he
  have l2 : kvs.length = ks.length := Paired.length pr
  refine PySem.W.kdl_call (PySem.KdlSrc.rawDict hs) (I.ok.hd hcalm) (show s.heap.DictRaw a es ep from ⟨o, ho, hx, hdt⟩) (by omega) fun h' tk acc c' hk hD hacc => ?_
  have ea : acc.toList = (ks.map fun x => x.2.1).map Value.ref := by
    have hl : acc.toList.length = ks.length := by rw [Array.length_toList, hacc.1]; exact l1
    apply List.ext_getElem?
    intro j
    rw [List.map_map, List.getElem?_map]
    cases hj : acc.toList[j]? with
    | none =>
      have h1 := List.getElem?_eq_none_iff.mp hj
      rw [List.getElem?_eq_none (by omega)]
      rfl
    | some v =>
      obtain ⟨hi, hv⟩ := hacc.2 j v (by rw [← Array.getElem?_toList]; exact hj)
      have qe := entry_at he j
      rw [Array.getElem?_eq_getElem hi] at qe
      cases hb : ks[j]? with
      | none => rw [hb] at qe; cases qe
      | some b =>
        rw [hb] at qe
        have e2 : es[j] = entryOfKey (tupleKind (mixKind X.prog X.w)) b := Option.some.inj qe
        rw [hv, e2]
        rfl
  refine ⟨.ref s.heap.objs.size, _, I.laid (t' := tk) hk (Nat.le_refl _) (show ObjOk X.prog X.w _ h' _ (.lst ((ks.map fun x => x.2.1).map V.ref)) from ⟨by rw [List.length_map, List.length_map]; omega, acc.toList, c', by rw [ea]; exact vals_refs _, by rw [Array.toArray_toList]; exact hD⟩), rfl, q _ _ (keysAt_of pr) (I.hok.fresh (Nat.le_refl _))⟩
end
/-- list(e.values()) -/
def tListValsX (P : Program) (w : World) (K : PySem.W.Frag) (te : TE) : TE := fun σ H Q => te σ H fun x H1 => ∃ a kvs, x = .ref a ∧ DS P w K H1 a kvs ∧ ∀ l, H1 l = none → Q (.ref l) (upd H1 l (.lst (kvs.map (·.2))))
section
variable {X : Cx} {e : Expr} {te : TE} {p apos cpos pos : Pos}
theorem pe_listValsX (hc : X.calm = true) (he : PE X e te) (hg : Gl X "list") (hm : X.mg "list" = none) (hv : bootBuiltins "list" = some (.type "list")) (hbase : attributeBase e "values" X.env (eval e X.env) = eval e X.env := by rfl) (hline : (apos.endLine == cpos.line) = true := by rfl)
    (hs : starEach [.Call (.Attribute e "values" apos) [] [] cpos] X.env = (false, eval (.Call (.Attribute e "values" apos) [] [] cpos) X.env) :: starEach [] X.env := by rfl) :
    PE X (.Call (.Name "list" p) [.Call (.Attribute e "values" apos) [] [] cpos] [] pos) (tListValsX X.prog X.w X.K te) := by
  refine ⟨fun pins s σ H Q I hq => ?_⟩
  refine wpAny_Call_Name_kw (ld_blt I hg hm hv ?_)
  refine PyProof.Rows.callWith_type1 ?_ hs rfl
  rw [hs]
  show wpAny _ _ (spliced ((false, eval (.Call (.Attribute e "values" apos) [] [] cpos) X.env) :: backTo pos (starEach [] X.env))) _ _ s
  refine Calls.spliced_cons ?_
  refine wpAny_Call_method (T := "dict") (id := "dict.values") hbase rfl hline F.plainAttrs_dict F.slot_dict_values F.type_dict_values (thn (he.run pins s σ H _ I hq) fun u s1 ⟨x, H1, I1, rx, d, kvs, ex, hd, q⟩ => ?_)
  subst ex
  obtain rfl : u = Value.ref d := rx
  obtain ⟨t1, t2⟩ := dx_typeIs I1 hd
  have z := hd.1
  obtain ⟨hz, ks, _, pr, o, es, ep, ho, hx, hdt, hes, _, hn⟩ := dx_at I1 hd
  have l1 : es.size = ks.length := size_of_entries hes
  have l2 : kvs.length = ks.length := Paired.length pr
  refine ⟨t1, t2, ?_⟩
  show wpAny _ _ (callWith cpos (.builtin "dict.values") [.ref d] [] []) _ X.xe s1
  have I2 : Inv X pins σ H1 { s1 with heap := s1.heap.push { cls := .type "dict_values", data := .fields #[.ref d] } } := I1.kept (t' := s1.toks) fun b ob q => Heap.get?_push_of_some _ q
  refine method_meetsIn F.slot_dict_values F.entry_dict_values rfl (PySem.evalArgs_none ⟨rfl, t1, F.args_dict_values_1 _, _, PySem.meets_dict_values_raw d hz, ⟨es, ep, o, ho, hx, hdt⟩, ?_⟩)
  refine Calls.spliced_nil ?_
  refine PySem.W.kdl_call (PySem.KdlSrc.rawValues (d := d) (es := es) (ep := ep)) (I1.ok.hd hc) ⟨⟨_, Heap.get?_push_size _ rfl, rfl, rfl⟩, (show s1.heap.DictRaw d es ep from ⟨o, ho, hx, hdt⟩).push _⟩ (by omega) fun h' tk acc c' hk hD hacc => ?_
  have ea : acc.toList = ks.map fun x => x.2.2 := by
    have hl : acc.toList.length = ks.length := by rw [Array.length_toList, hacc.1]; exact l1
    apply List.ext_getElem?
    intro j
    rw [List.getElem?_map]
    cases hj : acc.toList[j]? with
    | none =>
      have h1 := List.getElem?_eq_none_iff.mp hj
      rw [List.getElem?_eq_none (by omega)]
      rfl
    | some v =>
      obtain ⟨hi, hv⟩ := hacc.2 j v (by rw [← Array.getElem?_toList]; exact hj)
      have qe := entry_at hes j
      rw [Array.getElem?_eq_getElem hi] at qe
      cases hb : ks[j]? with
      | none => rw [hb] at qe; cases qe
      | some b =>
        rw [hb] at qe
        have e2 : es[j] = entryOfKey (tupleKind (mixKind X.prog X.w)) b := Option.some.inj qe
        rw [hv, e2]
        rfl
  have hsz : s1.heap.objs.size ≤ (s1.heap.push { cls := .type "dict_values", data := .fields #[.ref d] }).objs.size := by rw [size_push']; exact Nat.le_succ _
  exact ⟨.ref _, upd H1 _ (.lst (kvs.map (·.2))), I2.laid (t' := tk) hk (Nat.le_refl _) (show ObjOk X.prog X.w _ h' _ (.lst (kvs.map (·.2))) from ⟨by rw [List.length_map]; omega, acc.toList, c', by rw [ea]; exact valsAt_of pr, by rw [Array.toArray_toList]; exact hD⟩), rfl, q _ (I2.hok.fresh (Nat.le_refl _))⟩
end
end Es
namespace Es
open PySem PySem.Spec PyProof.Rows L2 Bd Dj
/-- the locked dict at d, entry by entry: the key's own tuple -/
def ItX (P : Program) (w : World) (d : Addr) (g : Obj) (ks : List (List Key × Addr × Value)) : It :=
  ⟨fun j M => M d = some (.frz g (dX P w d ks)) ∧ j < ks.length, fun j M y M' => M' = M ∧ ∃ e, ks[j]? = some e ∧ y = V.ref e.2.1, fun j M => M d = some (.frz g (dX P w d ks)) ∧ ks.length ≤ j⟩
section
variable {X : Cx} {pins : List (Addr × Obj)} {σ : L2.St} {H : Hp} {s : Shared} {d : Addr} {g : Obj} {ks : List (List Key × Addr × Value)}
theorem frzX_at (I : Inv X pins σ H s) (h : H d = some (.frz g (dX X.prog X.w d ks))) : (d == sysModules) = false ∧ s.heap.get? d = some g ∧ g.ExactDict ∧ ∃ (fs : Array DictEntry) (n : Nat), g.data = .dict fs n ∧ fs.size = ks.length ∧ fs.toList = ks.map (entryOfKey (tupleKind (mixKind X.prog X.w))) := by
  obtain ⟨hg, q⟩ := I.hok d _ h
  have q2 : ObjOk X.prog X.w H s.heap d (.ext fun h => (d == sysModules) = false ∧ ∃ o es ep, h.get? d = some o ∧ o.ExactDict ∧ o.data = .dict es ep ∧ es.toList = ks.map (entryOfKey (tupleKind (mixKind X.prog X.w))) ∧ (ks.map (·.1)).Nodup) := q
  obtain ⟨⟨z, o, fs, n, a1, a2, a3, a4, a5⟩, _⟩ := q2
  have e : o = g := Option.some.inj (a1.symm.trans hg)
  subst e
  exact ⟨z, hg, a2, fs, n, a3, size_of_entries a4, a4⟩
end
theorem turnX {P : Program} {w : World} {K : PySem.W.Frag} {tg : Expr} {d : Addr} {g : Obj} {fs : Array DictEntry} {n : Nat} {ks : List (List Key × Addr × Value)} (r : Addr) (hg : g.data = .dict fs n) : Turn P w K tg (ItX P w d g ks) [r] r (fun j hp => hp.IsKeyIter r d j ks.length n) where
  mem := List.mem_singleton.mpr rfl
  obj := fun j hp st b hb => by
    cases List.mem_singleton.mp hb
    exact ⟨st.choose, st.choose_spec.1, fun v z => nomatch st.choose_spec.2.2.symm.trans z⟩
  keep := fun j hp hp' st kp => st.at fun ob e => kp r (List.mem_singleton.mpr rfl) ob e
  item := by
    rintro X rfl rfl rfl cc j pins s σ H E I fo st ⟨hd, hj⟩
    have own := fo r (List.mem_singleton.mpr rfl)
    obtain ⟨_, at_, _, fs2, n2, hdt, hsz, ent⟩ := frzX_at I hd
    obtain ⟨rfl, rfl⟩ := dict_ep hg hdt
    obtain ⟨e, he⟩ : ∃ e, ks[j]? = some e := ⟨_, List.getElem?_eq_getElem hj⟩
    have hen : fs2[j]? = some (entryOfKey (tupleKind (mixKind X.prog X.w)) e) := by rw [entry_at ent j, he]; rfl
    refine next_key_item st at_ hdt hsz hen fun hp' st' sb => ?_
    have J : Inv X pins σ H { s with heap := hp' } := I.turned (t' := s.toks) (fun b ob hb q => (sb.2 b hb).trans q) own.1 own.2.1 own.2.2.2.1 own.2.2.2.2.1 own.2.2.2.2.2
    obtain ⟨ob, q1, q2, q3⟩ := id st'
    exact ⟨_, rfl, go_of (s := { s with heap := hp' }) q1 q2 q3 (by decide) ⟨V.ref e.2.1, H, J, rfl, ⟨rfl, e, he, rfl⟩, st', fun b hb => (fo b hb).1⟩⟩
  done := by
    rintro X rfl rfl rfl cc j pins s σ H E I fo st ⟨hd, hj⟩
    have own := fo r (List.mem_singleton.mpr rfl)
    obtain ⟨_, at_, _, fs2, n2, hdt, hsz, _⟩ := frzX_at I hd
    obtain ⟨rfl, rfl⟩ := dict_ep hg hdt
    exact next_key_end (I.ok.hd cc) st at_ hdt hsz hj fun hp' eb => ⟨rfl, I.turned (t' := s.toks) (fun b ob hb q => eb b ob hb q) own.1 own.2.1 own.2.2.2.1 own.2.2.2.2.1 own.2.2.2.2.2⟩
  self := fun A j s Q E st q => wpAny_pyIter_keyiter st q
/-- for x in d, d locked -/
def iKeysX (P : Program) (w : World) (td : TE) : TI := fun σ H R => td σ H fun x M => ∃ d g ks, x = V.ref d ∧ M d = some (.frz g (dX P w d ks)) ∧ R (ItX P w d g ks) M
theorem pi_keysX {X : Cx} {tg e : Expr} {td : TE} (he : PE X e td) : PI X tg e (iKeysX X.prog X.w td) := by
  refine ⟨fun pins s σ H R I h => thn (he.run pins s σ H _ I h) fun u s1 ⟨x, M, J, rx, d, g, ks, ex, hd, q⟩ => ?_⟩
  subst ex
  obtain rfl : u = Value.ref d := rx
  obtain ⟨z, at_, xd, fs, n, hdt, hsz, _⟩ := frzX_at J hd
  refine iter_keys z at_ xd hdt (pi_one (tk := s1.toks) J _ (turnX _ hdt) ⟨_, Heap.get?_push_size _ rfl, rfl, ?_⟩ q)
  rw [hsz]; rfl
end Es
namespace Es
open PySem PySem.Spec PyProof.Rows L2 Bd Dj
/-- a dict to be read, locked or not -/
def DR (P : Program) (w : World) (K : PySem.W.Frag) (H : Hp) (a : Addr) (kvs : List (List Key × V)) : Prop := kvs.length ≤ sizeLine ∧ ∃ xs, (H a = some (dX P w a xs) ∨ ∃ g, H a = some (.frz g (dX P w a xs))) ∧ KTS K H kvs xs
theorem DS.dr {P : Program} {w : World} {K : PySem.W.Frag} {H : Hp} {a : Addr} {kvs : List (List Key × V)} (h : DS P w K H a kvs) : DR P w K H a kvs := ⟨h.1, h.2.choose, .inl h.2.choose_spec.1, h.2.choose_spec.2⟩
def GR (P : Program) (w : World) (K : PySem.W.Frag) (H : Hp) (a : Addr) (y : V) (o : Option V) : Prop := ∃ kvs k b, DR P w K H a kvs ∧ y = .ref b ∧ SqT K H b (k.map kV) ∧ o = valV kvs k
section
variable {X : Cx} {pins : List (Addr × Obj)} {σ : L2.St} {H : Hp} {s : Shared} {a b : Addr} {k : List Key} {kvs : List (List Key × V)} {y v : V} {u r : Value} {A : Around} {E : Value → Shared → Prop}
theorem dr_at (I : Inv X pins σ H s) (h : DR X.prog X.w X.K H a kvs) : (a == sysModules) = false ∧ ∃ xs, KTS X.K H kvs xs ∧ s.heap.DictOfH (tupleKind (mixKind X.prog X.w)) a xs := by
  obtain ⟨hz, xs, h | ⟨g, h⟩, rel⟩ := h
  · obtain ⟨z, ys, e, rel2, dd⟩ := dx_at I ⟨hz, xs, h, rel⟩
    exact ⟨z, ys, rel2, dd⟩
  · obtain ⟨hg, q⟩ := I.hok a _ h
    have q2 : ObjOk X.prog X.w H s.heap a (.ext fun h => (a == sysModules) = false ∧ ∃ o es ep, h.get? a = some o ∧ o.ExactDict ∧ o.data = .dict es ep ∧ es.toList = xs.map (entryOfKey (tupleKind (mixKind X.prog X.w))) ∧ (xs.map (·.1)).Nodup) := q
    obtain ⟨⟨z, o, fs, n, a1, a2, a3, a4, a5⟩, _⟩ := q2
    refine ⟨z, xs, rel, o, fs, n, a1, a2, a3, a4, ?_, a5⟩
    have all : ∀ {l : List (List Key × V)} {m : List (List Key × Addr × Value)}, KTS X.K H l m → ∀ e ∈ m, (tupleKind (mixKind X.prog X.w)).is s.heap e.1 e.2.1 := fun p => by
      induction p with
      | nil => exact fun e h => nomatch h
      | cons t _ ih => exact fun e h => (List.mem_cons.mp h).elim (fun z => by subst z; rw [← t.1]; exact keyC I t.2.1) (ih e)
    exact all rel
theorem dr_get2 {o : Option V} {d0 : V} {Q : Value → Shared → Prop} (hu : A.units + 1 < cLine) (I : Inv X pins σ H s) (g : GR X.prog X.w X.K H a y o) (ry : RelV y u) (rd : RelV d0 r) (h : ∀ w' s', Inv X pins σ H s' → RelV (o.getD d0) w' → Q w' s') :
    wpAny (model X.prog X.w) A (call (.builtin "dict.get") [.ref a, u, r]) Q E s := by
  obtain ⟨kvs, k, b, d, rfl, eb, rfl⟩ := g
  cases (show u = Value.ref b from ry)
  obtain ⟨hd, xs, rel, dd⟩ := dr_at I d
  exact call_meetsIn PySem.F.slot_dict_get dd.typeIs PySem.F.entry_dict_get (PySem.F.args_dict_get_3 _ _ _) (meetsH_dict_get_default (tupleKind (mixKind X.prog X.w)) a b hd r) ⟨tupleKind_room_in1 hu, k, xs, keyC I eb, dd, h _ _ (I.tok _) ((rel.val k).getD rd)⟩
theorem dr_typeIs (I : Inv X pins σ H s) (d : DR X.prog X.w X.K H a kvs) : s.TypeIs (.ref a) "dict" ∧ ∀ b, Value.ref a = .ref b → ∃ ob, s.heap.get? b = some ob ∧ ob.dict = none := by
  obtain ⟨_, xs, _, dd⟩ := dr_at I d
  refine ⟨dd.typeIs, fun b q => ?_⟩
  cases q
  exact ⟨dd.choose, dd.choose_spec.choose_spec.choose_spec.1, dd.choose_spec.choose_spec.choose_spec.2.1.2.1⟩
end
/-- d.get(y, z), the dict locked or not -/
def tDGet2R (P : Program) (w : World) (K : PySem.W.Frag) (td ty tx : TE) : TE := fun σ H Q => td σ H fun x H1 => ∃ a, x = .ref a ∧ (∃ kvs, DR P w K H1 a kvs) ∧ ty σ H1 fun y H2 => tx σ H2 fun z H3 => ∃ o, GR P w K H3 a y o ∧ Q (o.getD z) H3
theorem pe_dget2R {X : Cx} {o e f : Expr} {apos cpos : Pos} {td ty tx : TE} (hu : X.A.units + 1 < cLine) (ho : PE X o td) (he : PE X e ty) (hf : PE X f tx) (m : M2 X o "get" apos e f cpos) : PE X (.Call (.Attribute o "get" apos) [e, f] [] cpos) (tDGet2R X.prog X.w X.K td ty tx) := by
  refine ⟨fun pins s σ H Q I h => ?_⟩
  refine wpAny_Call_method m.base m.few m.line PySem.F.plainAttrs_dict PySem.F.slot_dict_get PySem.F.type_dict_get (thn (ho.run pins s σ H _ I h) fun u s1 ⟨x, H1, I1, rx, a, ex, ⟨kvs, d⟩, q1⟩ => ?_)
  subst ex
  obtain rfl : u = Value.ref a := rx
  obtain ⟨t1, t2⟩ := dr_typeIs I1 d
  refine ⟨t1, t2, ?_⟩
  rw [m.trees]
  refine Calls.callWith_builtin rfl (Calls.evalArgs_plain (Calls.spliced_cons (thn (he.run pins s1 σ H1 _ I1 q1) fun iv s2 ⟨y, H2, I2, ry, q2⟩ =>
    Calls.spliced_cons (thn (hf.run pins s2 σ H2 _ I2 q2) fun fv s3 ⟨z, H3, I3, rz, ov, g, q3⟩ => Calls.spliced_nil ?_))))
  exact dr_get2 hu I3 g ry rz fun w' s4 I4 rw' => ⟨_, H3, I4, rw', q3⟩
end Es

set_option Elab.async false
set_option linter.all false
set_option maxRecDepth 100000
set_option maxHeartbeats 4000000
/-! How the rules of Eg, Eh, Ei are read; what a change of a dict or a list leaves. -/
namespace Re
open PySem PySem.Spec PyProof.Rows L2 Bd Es Dj Ef
section
variable {P : Program} {w : World} {K : PySem.W.Frag} {σ : L2.St} {H : Hp} {Q : VK} {td ty tx te : TE} {n b c : L2.St → Hp → Prop} {r : VK}
theorem setdX (k : td σ H fun x H1 => ∃ a, x = .ref a ∧ (∃ kvs, DS P w K H1 a kvs) ∧ ty σ H1 fun y H2 => tx σ H2 fun z H3 => ∃ kvs k b, y = .ref b ∧ DS P w K H3 a kvs ∧ kvs.length < sizeLine ∧ SqT K H3 b (k.map kV) ∧
  (∀ v, valV kvs k = some v → Q v H3) ∧ (valV kvs k = none → ∀ ys, DS P w K (upd H3 a (dX P w a ys)) a (putK kvs k z) → Q z (upd H3 a (dX P w a ys)))) : tDSetdX P w K td ty tx σ H Q := k
theorem popX (k : td σ H fun x H1 => ∃ a, x = .ref a ∧ (∃ kvs, DS P w K H1 a kvs) ∧ ty σ H1 fun y H2 => ∃ kvs k b v, y = .ref b ∧ DS P w K H2 a kvs ∧ SqT K H2 b (k.map kV) ∧ valV kvs k = some v ∧
  ∀ ys, DS P w K (upd H2 a (dX P w a ys)) a (L2.dropK kvs k) → Q v (upd H2 a (dX P w a ys))) : tDPopX P w K td ty σ H Q := k
theorem get1X (k : td σ H fun x H1 => ∃ a, x = .ref a ∧ (∃ kvs, DS P w K H1 a kvs) ∧ ty σ H1 fun y H2 => ∃ o, GX P w K H2 a y o ∧ Q (o.getD .non) H2) : tDGet1X P w K td ty σ H Q := k
theorem get2R (k : td σ H fun x H1 => ∃ a, x = .ref a ∧ (∃ kvs, DR P w K H1 a kvs) ∧ ty σ H1 fun y H2 => tx σ H2 fun z H3 => ∃ o, GR P w K H3 a y o ∧ Q (o.getD z) H3) : tDGet2R P w K td ty tx σ H Q := k
theorem delX (k : td σ H fun x H1 => ty σ H1 fun y H2 => ∃ a kvs k b, x = .ref a ∧ y = .ref b ∧ DS P w K H2 a kvs ∧ SqT K H2 b (k.map kV) ∧ (valV kvs k).isSome = true ∧
  ∀ ys, DS P w K (upd H2 a (dX P w a ys)) a (L2.dropK kvs k) → n σ (upd H2 a (dX P w a ys))) : sDDelX P w K td ty ⟨n, r, b, c⟩ σ H := k
theorem listValsX (k : te σ H fun x H1 => ∃ a kvs, x = .ref a ∧ DS P w K H1 a kvs ∧ ∀ l, H1 l = none → Q (.ref l) (upd H1 l (.lst (kvs.map (·.2))))) : tListValsX P w K te σ H Q := k
theorem keysX {R : It → Hp → Prop} (k : td σ H fun x M => ∃ d g ks, x = V.ref d ∧ M d = some (.frz g (dX P w d ks)) ∧ R (ItX P w d g ks) M) : iKeysX P w td σ H R := k
theorem lockX {t : TE} {d : Addr} {ks : List (List Key × Addr × Value)} (h : H d = some (dX P w d ks)) (k : ∀ g, t σ (upd H d (.frz g (dX P w d ks))) fun v H' => H' d = some (.frz g (dX P w d ks)) ∧ Q v (upd H' d (dX P w d ks))) : tLockE t σ H Q := ⟨d, _, h, dX_mut, k⟩
end
/-! ### what stays -/
/-- what is no list and no dict stays -/
def SameE (H H' : Hp) : Prop := ∀ a o, H a = some o → (∀ l, o ≠ .lst l) → (∀ φ, o ≠ .ext φ) → (∀ g u, o ≠ .frz g u) → H' a = some o
section
variable {P : Program} {w : World} {K : PySem.W.Frag} {H H1 H2 : Hp}
theorem SameE.of (s : Same H H1) : SameE H H1 := fun a o h _ _ _ => s a o h
theorem SameE.trans (a : SameE H H1) (b : SameE H1 H2) : SameE H H2 := fun c o h n1 n2 n3 => b c o (a c o h n1 n2 n3) n1 n2 n3
theorem SameE.dict {d : Addr} {ks : List (List Key × Addr × Value)} {o : HO} (h : H d = some (dX P w d ks)) : SameE H (upd H d o) := fun a u ha _ n2 _ => by
  rw [upd_ne fun e => by subst e; rw [h] at ha; exact n2 _ (Option.some.inj ha).symm]; exact ha
theorem SameE.list {d : Addr} {l : List V} {o : HO} (h : H d = some (.lst l)) : SameE H (upd H d o) := fun a u ha n1 _ _ => by
  rw [upd_ne fun e => by subst e; rw [h] at ha; exact n1 _ (Option.some.inj ha).symm]; exact ha
theorem ext_ne_tup {φ} {ys : List V} : HO.ext φ ≠ .tup ys := fun e => by cases e
/-- tuples that the heap has as such, at all depths; no list, no dict -/
theorem sqT_frz {a g d : Addr} {xs : List V} {o : HO} (hp : H d = some o) (h1 : ∀ ys, o ≠ .tup ys) (h2 : ∀ z u, o ≠ .frz z u) {o' : HO} (h : SqT K H a xs) : SqT K (upd H d o') a xs := sqT_upd hp h1 h2 h
theorem DS.other {a d : Addr} {kvs : List (List Key × V)} {ks : List (List Key × Addr × Value)} {o : HO} (h : DS P w K H a kvs) (hd : H d = some (dX P w d ks)) (n : a ≠ d) : DS P w K (upd H d o) a kvs :=
  Es.DS.keepT (upd_ne n) (fun q ys hq => sqT_upd (o := dX P w d ks) hd (fun ys e => by cases e) (fun z u e => by cases e) hq) h
theorem DS.list {a d : Addr} {kvs : List (List Key × V)} {l : List V} {o : HO} (h : DS P w K H a kvs) (hd : H d = some (.lst l)) : DS P w K (upd H d o) a kvs := by
  have n : a ≠ d := fun e => by
    subst e
    obtain ⟨_, xs, e, _⟩ := h
    rw [hd] at e
    have e2 : HO.lst l = HO.ext _ := Option.some.inj e
    cases e2
  exact Es.DS.keepT (upd_ne n) (fun q ys hq => sqT_upd (o := .lst l) hd (fun ys e => by cases e) (fun z u e => by cases e) hq) h
theorem DS.lock {a : Addr} {kvs : List (List Key × V)} (h : DS P w K H a kvs) : ∃ ks, H a = some (dX P w a ks) ∧ KTS K H kvs ks ∧ ∀ g, DR P w K (upd H a (.frz g (dX P w a ks))) a kvs := by
  obtain ⟨z, ks, e, rel⟩ := h
  exact ⟨ks, e, rel, fun g => ⟨z, ks, .inr ⟨g, upd_same⟩, rel.keeps fun q ys hq => sqT_upd (o := dX P w a ks) e (fun ys e => by cases e) (fun z u e => by cases e) hq⟩⟩
/-- [.. for x in d], d locked -/
theorem lcKeys {σ : L2.St} {Q : VK} {d : Addr} {g0 : Obj} {ks : List (List Key × Addr × Value)} {g : TG} {te : TE} {vs : List Nat} (Pv : Addr → Nat → List V → Hp → Prop) (h : H d = some (.frz g0 (dX P w d ks)))
    (h0 : ∀ D H', H D = none → Same H H' → H' D = some (.lst []) → Pv D 0 [] H')
    (hs : ∀ (i : Nat) (e : List Key × Addr × Value) (acc : List V) (D : Addr) (H' : Hp), H D = none → Same H H' → ks[i]? = some e → acc.length = i → H' D = some (.lst acc) → Pv D i acc H' →
      g (.ref e.2.1) (wipe σ vs) H' fun σ2 H2 => wipe σ2 vs = wipe σ vs ∧ te σ2 H2 (Rd.LcE H D i Pv))
    (hd : ∀ D acc H', H D = none → Same H H' → H' D = some (.lst acc) → acc.length = ks.length → Pv D ks.length acc H' → Q (.ref D) H') :
    Rd.LcJ g tYes te vs σ Q (ItX P w d g0 ks) H := by
  refine fun D hD => ⟨fun i m H' => m = ks.length - i ∧ i ≤ ks.length ∧ ∃ acc, Same H H' ∧ acc.length = i ∧ H' D = some (.lst acc) ∧ Pv D i acc H', ⟨ks.length, by simp, Nat.zero_le _, [], Rd.same_new hD, rfl, upd_same, h0 D _ hD (Rd.same_new hD) upd_same⟩, ?_⟩
  rintro i m H' ⟨rfl, hi, acc, s, hl, hDl, p⟩
  have q := s _ _ h
  by_cases hlt : i < ks.length
  · refine .inr ⟨⟨q, hlt⟩, fun H2 => ∃ acc2, Same H H2 ∧ acc2.length = i + 1 ∧ H2 D = some (.lst acc2) ∧ Pv D (i + 1) acc2 H2, fun H2 p' => ⟨ks.length - (i + 1), by omega, rfl, hlt, p'⟩, ?_⟩
    rintro x H2 ⟨rfl, e, he, rfl⟩
    exact hs i e acc D _ hD s he hl hDl p
  · have e : i = ks.length := by omega
    subst e
    exact .inl ⟨⟨q, Nat.le_refl _⟩, hd D acc H' hD s hDl hl p⟩
/-- behind the lock nothing has changed but by more -/
theorem same_unlock {d : Addr} {u f : HO} (h : H d = some u) (s : Same (upd H d f) H1) : Same H (upd H1 d u) := fun a o ha => by
  by_cases e : a = d
  · subst e
    rw [upd_same]
    exact h.symm.trans ha
  · rw [upd_ne e]
    exact s a o ((upd_ne e).trans ha)
end
end Re
namespace Re
open PySem PySem.Spec PyProof.Rows L2 Bd Es Dj Ef
section
variable {K : PySem.W.Frag} {H : Hp} {p : Addr} {g : Obj} {φ : Heap → Prop} {o' : HO}
/-! a locked dict is left: what is no dict stays -/
theorem sqT_unl {P : Program} {w : World} {d : Addr} {ks : List (List Key × Addr × Value)} {a : Addr} {xs : List V} (hp : H p = some (.frz g (dX P w d ks))) (h : SqT K H a xs) : SqT K (upd H p o') a xs := by
  rcases h with (h | ⟨z, h⟩) | h
  · exact .inl (.inl ((upd_ne fun e => by rw [e, hp] at h; cases h).trans h))
  · refine .inl (.inr ⟨z, (upd_ne fun e => ?_).trans h⟩)
    rw [e, hp] at h
    have h2 := Option.some.inj h
    have h3 := (HO.frz.inj h2).2
    exact dX_tup h3.symm
  · exact .inr h
theorem sqL_unl {P : Program} {w : World} {d : Addr} {ks : List (List Key × Addr × Value)} {a : Addr} {xs : List V} (hp : H p = some (.frz g (dX P w d ks))) (h : SqL K H a xs) : SqL K (upd H p o') a xs := by
  rcases h with (h | ⟨z, h⟩) | h
  · exact .inl (.inl ((upd_ne fun e => by rw [e, hp] at h; cases h).trans h))
  · refine .inl (.inr ⟨z, (upd_ne fun e => ?_).trans h⟩)
    rw [e, hp] at h
    have h2 := Option.some.inj h
    have h3 : HO.ext _ = HO.lst xs := (HO.frz.inj h2).2
    cases h3
  · exact .inr h
theorem dp_unl {P : Program} {w : World} {d : Addr} {ks : List (List Key × Addr × Value)} (hp : H p = some (.frz g (dX P w d ks))) : ∀ {x : V} {e : PyData}, Dp K H x e → Dp K (upd H p o') x e
  | _, _, .non => .non
  | _, _, .bl b => .bl b
  | _, _, .int i => .int i
  | _, _, .str x => .str x
  | _, _, .lst h a => .lst (sqL_unl hp h) (go hp a)
  | _, _, .tup h a => .tup (sqT_unl hp h) (go hp a)
where go {P : Program} {w : World} {d : Addr} {ks : List (List Key × Addr × Value)} (hp : H p = some (.frz g (dX P w d ks))) : ∀ {xs : List V} {ds : List PyData}, DpAll K H xs ds → DpAll K (upd H p o') xs ds
  | _, _, .nil => .nil
  | _, _, .cons h t => .cons (dp_unl hp h) (go hp t)
theorem dpAll_unl {P : Program} {w : World} {d : Addr} {ks : List (List Key × Addr × Value)} (hp : H p = some (.frz g (dX P w d ks))) {xs : List V} {ds : List PyData} (h : DpAll K H xs ds) : DpAll K (upd H p o') xs ds := dp_unl.go hp h
end
end Re

set_option Elab.async false
set_option linter.all false
set_option maxRecDepth 100000
set_option maxHeartbeats 4000000
/-! Dicts whose keys are tuples: `not in`. -/
namespace Es
open PySem PySem.Spec PyProof.Rows L2 Bd Dj
section
variable {X : Cx} {pins : List (Addr × Obj)} {σ : L2.St} {H : Hp} {s : Shared} {a : Addr} {y : V} {u : Value} {A : Around} {E : Exc → Shared → Prop}
theorem dx_notIn {A : Around} {E} {o : Option V} {Q : Value → Shared → Prop} (hu : A.units + 1 < cLine) (I : Inv X pins σ H s) (g : GX X.prog X.w X.K H a y o) (ry : RelV y u) (h : ∀ s', Inv X pins σ H s' → Q (.bool (!o.isSome)) s') :
    wpAny (model X.prog X.w) A (compareOp .NotIn u (.ref a)) Q E s := by
  obtain ⟨kvs, k, b, d, rfl, eb, rfl⟩ := g
  cases (show u = Value.ref b from ry)
  obtain ⟨hd, xs, _, rel, dd⟩ := dx_at I d
  refine wpAny_notIn_heap (tupleKind_room_in1 hu) (keyC I eb) hd dd ?_
  have q := (rel.val k).isSome_eq
  rw [Option.isSome_map] at q
  rw [← q]
  exact h _ (I.tok _)
def tDNotInX (P : Program) (w : World) (K : PySem.W.Frag) (ty td : TE) : TE := fun σ H Q => ty σ H fun y H1 => td σ H1 fun x H2 => ∃ a o, x = .ref a ∧ GX P w K H2 a y o ∧ Q (.bl (!o.isSome)) H2
theorem pc_dnotinX {X : Cx} {i o : Expr} {ty td : TE} (hu : X.A.units + 1 < cLine) (hi : PE X i ty) (ho : PE X o td) : PC X .NotIn i o (tDNotInX X.prog X.w X.K ty td) := by
  refine ⟨fun pins s σ H Q I h => ?_⟩
  refine thn (hi.run pins s σ H _ I h) fun iv s1 ⟨y, H1, I1, ry, q1⟩ => thn (ho.run pins s1 σ H1 _ I1 q1) fun u s2 ⟨x, H2, I2, rx, a, ov, ex, g, q2⟩ => ?_
  subst ex
  obtain rfl : u = Value.ref a := rx
  exact dx_notIn hu I2 g ry fun s3 I3 => ⟨.bl (!ov.isSome), H2, I3, rfl, q2⟩
end
end Es
namespace Re
open PySem PySem.Spec PyProof.Rows L2 Bd Es Dj
theorem dnotinX {P : Program} {w : World} {K : PySem.W.Frag} {σ : L2.St} {H : Hp} {Q : VK} {ty td : TE} (k : ty σ H fun y H1 => td σ H1 fun x H2 => ∃ a o, x = .ref a ∧ GX P w K H2 a y o ∧ Q (.bl (!o.isSome)) H2) : tDNotInX P w K ty td σ H Q := k
/-- an if whose test's outcomes are told by C -/
theorem ifJ {σ : L2.St} {H : Hp} {tt : TT} {A B : TS} {D : Ends} (C : Bool → Hp → Prop) (h1 : ∀ Qb : Bool → Hp → Prop, (∀ c H', C c H' → Qb c H') → tt σ H Qb) (h2 : ∀ H', C true H' → A D σ H') (h3 : ∀ H', C false H' → B D σ H') : tIfS tt A B D σ H := by
  refine h1 _ fun c H' h => ?_
  cases c with
  | true => exact Rd.iteT (h2 H' h)
  | false => exact Rd.iteF (h3 H' h)
end Re

set_option Elab.async false
set_option linter.all false
set_option maxRecDepth 100000
set_option maxHeartbeats 4000000
/-! Sets of texts by a comprehension, and their sorted list. -/
namespace Bd
open PySem PySem.Spec PyProof.Rows L2 PpSet
def tx (e : Int × Value) : Str := match e.2 with
  | .str x _ => x
  | _ => Str.empty
/-- the entries are these texts, each once -/
structure OkT (w : World) (l : List (Int × Value)) (ms : List Str) : Prop where
  good : ∀ e ∈ l, ∃ x k, e.2 = Value.str x k ∧ e.1 = keyH w (Sum.inr x)
  pm : (l.map tx).Perm ms
  nd : ms.Nodup
theorem OkT.perm {w : World} {l l' : List (Int × Value)} {ms : List Str} (h : OkT w l ms) (p : l'.Perm l) : OkT w l' ms := ⟨fun e he => h.good e (p.mem_iff.mp he), (p.map tx).trans h.pm, h.nd⟩
theorem OkT.elems {P : Program} {w : World} {l : List (Int × Value)} {ms : List Str} (h : OkT w l ms) : ElemsOf (mixKind P w) l := fun e he => by
  obtain ⟨x, k, h1, h2⟩ := h.good e he
  exact ⟨⟨Sum.inr x, by rw [h1]; exact mixKind_str P w x k, h2⟩, by rw [h1]; rfl⟩
theorem OkT.is {P : Program} {w : World} {l : List (Int × Value)} {ms : List Str} (h : OkT w l ms) {e : Int × Value} (he : e ∈ l) (x : Str) : (mixKind P w).is (Sum.inr x) e.2 = true ↔ tx e = x := by
  obtain ⟨y, k, h1, _⟩ := h.good e he
  have ty : tx e = y := by unfold tx; rw [h1]
  rw [ty]
  constructor
  · intro z
    have z2 : (mixKind P w).is (Sum.inr y) e.2 = true := by rw [h1]; exact mixKind_str P w y k
    exact Sum.inr.inj ((mixKind P w).inj _ _ _ z2 z)
  · rintro rfl
    rw [h1]; exact mixKind_str P w y k
/-- a set of texts stands at a; it can be walked -/
def TxAt (w : World) (h : Heap) (a : Addr) (ms : List Str) : Prop := ∃ o es ep t, h.get? a = some o ∧ o.ExactSet ∧ o.data = .set es ep t ∧ OkT w es.toList ms ∧ es.size < scanBound ∧ t.fits es.size = true ∧ Ris t.place.toList ∧ (w.params.followText "set-order" = true ∨ t.led = true)
def TxO (w : World) (a : Addr) (ms : List Str) : HO := .ext fun h => TxAt w h a ms
theorem txO_ok {P : Program} {w : World} {H : Hp} {h : Heap} {a : Addr} {ms : List Str} (r : TxAt w h a ms) : ObjOk P w H h a (TxO w a ms) := by
  have ⟨o, _, _, _, q, _⟩ := r
  exact ⟨r, ⟨o, q⟩, fun h1 h2 ⟨o, es, ep, t, z, rest⟩ k => ⟨o, es, ep, t, k o z, rest⟩⟩
theorem txNew {h : Heap} (w : World) : TxAt w (h.push { cls := .type "set", dict := none, data := .set #[] 0 (.fresh 0 0 (!w.params.followText "set-order")) }) h.objs.size [] := by
  obtain ⟨o, es, ep, t, h1, h2, h3, _, _, _, h5, h6, h7, h8, h9⟩ := setB_fresh (h := h) w
  have e0 : es = #[] := Array.eq_empty_of_size_eq_zero h7
  subst e0
  exact ⟨o, _, ep, t, h1, h2, h3, ⟨fun e he => by simp at he, by simp, List.nodup_nil⟩, h5, h6, h8, h9⟩
section
variable {P : Program} {w : World} {A : Around} {E : Value → Shared → Prop} {s : Shared} {a : Addr}
theorem put_end {gv : Bool → Sem Unit} (hgv : ∀ (b : Bool) (u : Shared) (Q : Unit → Shared → Prop), Q () u → wpAny (model P w) A (gv b) Q E u) {ob : Obj} {es : Array (Int × Value)} {n : Nat} {tb : SetTable}
    (h1 : s.heap.get? a = some ob) (h2 : ob.ExactSet) (h3 : ob.data = .set es n tb) {fs : Array (Int × Value)} {t9 : SetTable} {ms : List Str} (ok : OkT w fs.toList ms) (hb : fs.size < scanBound) (hf : t9.fits fs.size = true)
    (hr : Ris t9.place.toList) (hl : w.params.followText "set-order" = true ∨ t9.led = true) {wd : Bool} {R : Option Bool → Shared → Prop}
    (hR : ∀ h', Heap.SameBut a s.heap h' → TxAt w h' a ms → R (some true) { s with heap := h' }) :
    wpAny (model P w) A (do
      storeSet a fs t9
      if (!wd && t9.tooFull) = true then do
        gv (relayAll t9 fs (SetTable.grown fs.size)).2.2
        storeSet a (relayAll t9 fs (SetTable.grown fs.size)).1 (relayAll t9 fs (SetTable.grown fs.size)).2.1
        pure (some true)
      else pure (some true)) R E s := by
  refine wpAny_bind (wpAny_storeSet_of h1 h3 ?_ (fits_of_scanBound hb))
  have p1 := storeB_at (es' := fs) (t' := t9) h1 h3
  have q1 := Heap.SameBut.update s.heap a (Obj.putSet fs t9)
  split
  · have pm := relayAll_perm t9 fs (SetTable.grown fs.size)
    have g1 := relayAll_fits t9 fs (SetTable.grown fs.size)
    have g2 := relayAll_ris t9 fs (SetTable.grown fs.size)
    have g3 := relayAll_led t9 fs (SetTable.grown fs.size)
    generalize relayAll t9 fs (SetTable.grown fs.size) = Y at pm g1 g2 g3 ⊢
    obtain ⟨gs, t8, gave⟩ := Y
    dsimp only at pm g1 g2 g3 ⊢
    have ez : gs.size = fs.size := by
      have := pm.length_eq
      simpa using this
    refine wpAny_bind (hgv _ _ _ ?_)
    refine wpAny_bind (wpAny_storeSet_of p1 rfl ?_ (fits_of_scanBound (by rw [ez]; exact hb)))
    have p2 := storeB_at (es' := gs) (t' := t8) p1 rfl
    exact wpAny_pure (hR _ (q1.trans (Heap.SameBut.update _ a _)) ⟨_, gs, _, t8, p2, h2, rfl, ok.perm pm, by rw [ez]; exact hb, g1, g2, hl.imp id fun z => by rw [g3]; exact z⟩)
  · exact wpAny_pure (hR _ q1 ⟨_, fs, _, t9, p1, h2, rfl, ok, hb, hf, hr, hl⟩)
def addT (ms : List Str) (x : Str) : List Str := if x ∈ ms then ms else ms ++ [x]
theorem addHashT {ms : List Str} {x : Str} {tk : Tok} {Q : Bool → Shared → Prop} (r : TxAt w s.heap a ms) (room : ms.length + 1 < scanBound)
    (hQ : ∀ (b : Bool) h', Heap.SameBut a s.heap h' → TxAt w h' a (addT ms x) → Q b { s with heap := h' }) : wpAny (model P w) A (setAddHashed a (.str x tk) (keyH w (Sum.inr x))) Q E s := by
  obtain ⟨ob, es, n, tb, h1, h2, h3, ok, hb, hf, hr, hl⟩ := r
  have kx : (mixKind P w).is (Sum.inr x) (.str x tk) = true := mixKind_str P w x tk
  have sc : (Value.str x tk).scannable = true := rfl
  have el : ElemsOf (mixKind P w) es.toList := ok.elems
  unfold setAddHashed setAddHashedIn
  refine wpAny_holding (wpAny_bind (wpAny_setState_of h1 h3 hf ?_))
  dsimp only
  rw [byScan_of sc hb el]
  simp only [↓reduceIte]
  unfold setAddByScan
  refine wpAny_bind (wpAny_bind (wpAny_rule (wpAny_bind (wpAny_setScan_of (knd := mixKind P w) kx h1 h3 hf el ?_))))
  cases hi : List.findIdx? (fun e => (mixKind P w).is (Sum.inr x) e.2) es.toList with
  | some j =>
    dsimp only
    obtain ⟨hj, pj, _⟩ := List.findIdx?_eq_some_iff_getElem.mp hi
    have hin : x ∈ ms := ok.pm.mem_iff.mp (List.mem_map.mpr ⟨_, List.getElem_mem hj, (ok.is (P := P) (List.getElem_mem hj) x).mp pj⟩)
    refine wpAny_pure (wpAny_pure (hQ _ s.heap (Heap.SameBut.refl a s.heap) ⟨ob, es, n, tb, h1, h2, h3, ?_, hb, hf, hr, hl⟩))
    unfold addT
    rw [if_pos hin]
    exact ok
  | none =>
    dsimp only
    have hno : x ∉ ms := fun z => by
      obtain ⟨e, he, q⟩ := List.mem_map.mp (ok.pm.mem_iff.mpr z)
      have c := List.findIdx?_eq_none_iff.mp hi e he
      rw [(ok.is (P := P) he x).mpr q] at c
      cases c
    have pm := layNew_perm tb es (keyH w (Sum.inr x)) (.str x tk)
    have g1 := layNew_fits tb es (keyH w (Sum.inr x)) (.str x tk)
    have g2 := layNew_ris tb es (keyH w (Sum.inr x)) (.str x tk) hr
    have g3 := layNew_led tb es (keyH w (Sum.inr x)) (.str x tk)
    generalize layNew tb es (keyH w (Sum.inr x)) (.str x tk) = Y at pm g1 g2 g3 ⊢
    obtain ⟨fs, t9, wd, gave⟩ := Y
    dsimp only at pm g1 g2 g3 ⊢
    rw [Array.toList_push] at pm
    have pc : fs.toList.Perm ((keyH w (Sum.inr x), Value.str x tk) :: es.toList) := pm.trans (List.perm_append_singleton _ _)
    have ok1 : OkT w fs.toList (addT ms x) := by
      unfold addT
      rw [if_neg hno]
      refine ⟨fun e he => ?_, ?_, ?_⟩
      · rcases List.mem_cons.mp (pc.mem_iff.mp he) with z | z
        · rw [z]; exact ⟨x, tk, rfl, rfl⟩
        · exact ok.good e z
      · have := pc.map tx
        rw [List.map_cons] at this
        exact this.trans ((List.Perm.cons _ ok.pm).trans (List.perm_append_singleton _ _).symm)
      · rw [List.nodup_append]
        exact ⟨ok.nd, by simp, fun y hy z hz e => hno (by rw [List.mem_singleton] at hz; rw [← hz, ← e]; exact hy)⟩
    have ez : fs.size = ms.length + 1 := by
      have e1 := pc.length_eq
      have e2 := ok.pm.length_eq
      simp only [List.length_cons, Array.length_toList, List.length_map] at e1 e2
      omega
    have hb1 : fs.size < scanBound := by rw [ez]; exact room
    have hl1 : w.params.followText "set-order" = true ∨ t9.led = true := hl.imp id fun z => by rw [g3]; exact z
    have out : ∀ h', Heap.SameBut a s.heap h' → TxAt w h' a (addT ms x) → Q true { s with heap := h' } := fun h' sb r => hQ true h' sb r
    refine wpAny_bind ?_
    have go : ∀ (U : Unit → Shared → Prop), U () s → wpAny (model P w) A (match gave with | true => rule "set.scan.the-table-gave-way" | false => pure ()) U E s := fun U q => by
      cases gave
      · exact wpAny_pure q
      · exact wpAny_rule q
    refine go _ ?_
    split
    · refine wpAny_bind ?_
      rw [hashByValue_scannable 8 sc]
      refine wpAny_pure ?_
      simp only [show plainKind (Value.str x tk) = false from rfl, Bool.false_eq_true, if_false]
      refine put_end (fun b u U q => ?_) h1 h2 h3 ok1 hb1 (SetTable.fits_plain_off g1) g2 hl1 (fun h' sb r => wpAny_pure (out h' sb r))
      cases b
      · exact wpAny_pure q
      · exact wpAny_rule q
    · refine wpAny_bind (wpAny_pure ?_)
      simp only [↓reduceIte]
      refine put_end (fun b u U q => ?_) h1 h2 h3 ok1 hb1 g1 g2 hl1 (fun h' sb r => wpAny_pure (out h' sb r))
      cases b
      · exact wpAny_pure q
      · exact wpAny_rule q
theorem addText {ms : List Str} {x : Str} {tk : Tok} {Q : Value → Shared → Prop} (r : TxAt w s.heap a ms) (room : ms.length + 1 < scanBound)
    (hQ : ∀ h', Heap.SameBut a s.heap h' → TxAt w h' a (addT ms x) → Q .none { s with heap := h', toks := s.toks + 1 }) : wpAny (model P w) A (call (.builtin "set.add") [.ref a, .str x tk]) Q E s := by
  obtain ⟨ob, es, n, tb, h1, h2, h3, rest⟩ := id r
  have hT : s.TypeIs (.ref a) "set" := ⟨ob, h1, h2.1⟩
  refine wpAny_call_entry F.slot_set_add hT F.entry_set_add ?_ (F.args_set_add_2 _ _)
  unfold Builtin.«set.add» Builtin.Frozenset.oneOther
  simp only [List.isEmpty_nil, bind_assoc]
  unfold Builtin.Frozenset.addrOf setAdd
  refine wpAny_bind (wpAny_pure ?_)
  try dsimp only
  refine wpAny_bind (wpAny_pure ?_)
  try dsimp only
  refine wpAny_bind (wpAny_holding (wpAny_bind ((mixKind P w).pyHash (mixKind_str P w x tk) ?_)))
  refine addHashT (s := { s with toks := s.toks + 1 }) r room fun b h' sb r' => ?_
  exact wpAny_pure ⟨_, rfl, hQ h' sb r'⟩
end
section
variable {X : Cx}
theorem addT_ok {pins : List (Addr × Obj)} {σ : L2.St} {H : Hp} {s : Shared} {E : Value → Shared → Prop} {D : Addr} {ms : List Str} {x : Str} {tk : Tok} {Q : Value → Shared → Prop} (I : Inv X pins σ H s) (hD : H D = some (TxO X.w D ms)) (room : ms.length + 1 < scanBound)
    (h : ∀ s', Inv X pins σ (upd H D (TxO X.w D (addT ms x))) s' → Q .none s') : wpAny (model X.prog X.w) X.A (call (.builtin "set.add") [.ref D, .str x tk]) Q E s := by
  have r : TxAt X.w s.heap D ms := (I.hok D _ hD).1
  refine addText r room fun h' sb new => ?_
  have hin : ∃ u, h'.get? D = some u := by
    have ⟨o, _, _, _, q, _⟩ := new
    exact ⟨o, q⟩
  exact h _ (I.write (e := D) (t' := s.toks + 1) (by rw [hD]; trivial) (.inl rfl) (fun b u hb hu => (sb.2 b hb).trans hu) hin (txO_ok new))
/-- what {e for ..} asks of what it walks, e a text: D the new set -/
def ScJ (w : World) (g : TG) (tt : TT) (te : TE) (vs : List Nat) (σ : L2.St) (Q : VK) (J : It) (H1 : Hp) : Prop := ∀ D, H1 D = none → ∃ W : Nat → Nat → Hp → Prop, (∃ m, W 0 m (upd H1 D (TxO w D []))) ∧ ∀ i m H, W i m H →
  (J.stop i H ∧ Q (.ref D) H) ∨ (J.go i H ∧ ∃ Nx : Hp → Prop, (∀ H', Nx H' → ∃ m', m' < m ∧ W (i + 1) m' H') ∧ ∀ x H', J.yld i H x H' → g x (wipe σ vs) H' fun σ2 H2 => wipe σ2 vs = wipe σ vs ∧ tt σ2 H2 fun t H3 =>
    if t = true then te σ2 H3 fun y H4 => ∃ ms z, y = .str z ∧ H4 D = some (TxO w D ms) ∧ ms.length + 1 < scanBound ∧ Nx (upd H4 D (TxO w D (addT ms z))) else Nx H3)
def tScT (w : World) (wi : TI) (g : TG) (tt : TT) (te : TE) (vs : List Nat) : TE := fun σ H Q => wi σ H fun J H1 => ScJ w g tt te vs σ Q J H1
theorem pe_scT {vx tg iter : Expr} {ifs : List Expr} {scope : Scope} {own : List (Str × Nat)} {pos : Pos} {wi : TI} {g : TG} {tt : TT} {tv : TE} (hc : X.calm = true) (hN : X.N.Nodup) (hi : PI X tg iter wi) (ok : BlkOk X.N X.env.scope scope own)
    (hg : ∀ (s : Shared) (H : Hp) (C : Addr) (cl : List (Str × Addr)) (fp : List Addr), PG (X.blk s H scope (compEnvC scope cl C X.env) fp) tg g) (ht : ∀ (s : Shared) (H : Hp) (C : Addr) (cl : List (Str × Addr)) (fp : List Addr), PTs (X.blk s H scope (compEnvC scope cl C X.env) fp) ifs tt)
    (he : ∀ (s : Shared) (H : Hp) (C : Addr) (cl : List (Str × Addr)) (fp : List Addr), PE (X.blk s H scope (compEnvC scope cl C X.env) fp) vx tv) (hs : ∀ x, foldedSetIterable iter X.env x = pure x := by intro _; rfl) :
    PE X (.SetComp vx [⟨tg, iter, ifs, 0⟩] scope pos) (tScT X.w wi g tt tv (own.map (·.2))) := by
  refine ⟨fun pins s σ H Q I h => ?_⟩
  rw [eval_SetComp]
  have free : ∀ y ∈ scope.names, y.2 = .free → ∃ c, X.env.cells.lookup y.1 = some c := fun y hy e => by
    rcases ok.free y hy e with k | k
    · exact I.ok.has _ (.inl k)
    · exact I.ok.has _ (.inr k)
  refine wpAny_comprehension_free rfl hs (closure_ok free) ok.kind (fun y hy e => by rw [ok.uniq y hy, e]) (thn (hi.run pins s σ H _ I h) fun xv s1 hx => thn hx fun itv s2 h2 => ?_)
  obtain ⟨it, fp, tn, J, H2, rfl, I2, T, st2, f2, q⟩ := h2
  -- the dict that is made, at D
  obtain ⟨D, hD⟩ : ∃ D : Addr, D = s2.heap.objs.size := ⟨_, rfl⟩
  have D0 : H2 D = none := I2.hok.fresh (Nat.le_of_eq hD.symm)
  obtain ⟨W, ⟨m0, w0⟩, turn⟩ := q D D0
  refine newSet_ok (newEnv_comp ?_)
  rw [← hD]
  obtain ⟨s3, e3⟩ : ∃ s3 : Shared, s3 = { s2 with heap := s2.heap.push { cls := .type "set", dict := none, data := .set #[] 0 (.fresh 0 0 (!X.w.params.followText "set-order")) } } := ⟨_, rfl⟩
  have p3 : ∀ b o, s2.heap.get? b = some o → s3.heap.get? b = some o := fun b o e => by rw [e3]; exact Heap.get?_push_of_some _ e
  have I3 : Inv X pins σ (upd H2 D (TxO X.w D [])) s3 := by
    rw [e3]
    exact I2.laid (t' := s2.toks) (fun b o e => Heap.get?_push_of_some _ e) (Nat.le_of_eq hD.symm) (by rw [hD]; exact txO_ok (txNew X.w))
  have f3 : ∀ b ∈ fp, FpOk X pins (upd H2 D (TxO X.w D [])) b ∧ b < s3.heap.objs.size := fun b hb => by
    obtain ⟨o, e, _⟩ := T.obj _ _ st2 b hb
    exact ⟨⟨by rw [upd_ne (by rw [hD]; exact Nat.ne_of_lt (Heap.lt_size e))]; exact (f2 b hb).1, (f2 b hb).2⟩, Heap.lt_size (p3 b o e)⟩
  have I4 := block_start I3 ok hN f3
  have pg := hg s3 (upd H2 D (TxO X.w D [])) s3.heap.objs.size (cellsFrom (s3.heap.objs.size + 1) scope.names (cloFrom X.env.cells scope.names [])) fp
  have pt := ht s3 (upd H2 D (TxO X.w D [])) s3.heap.objs.size (cellsFrom (s3.heap.objs.size + 1) scope.names (cloFrom X.env.cells scope.names [])) fp
  have pe := he s3 (upd H2 D (TxO X.w D [])) s3.heap.objs.size (cellsFrom (s3.heap.objs.size + 1) scope.names (cloFrom X.env.cells scope.names [])) fp
  rw [← e3]
  show codeAny _ _ (.compStart (.SetComp vx [⟨tg, iter, ifs, 0⟩] scope pos) 0 (.ref it) (.ref D) (compEnvC scope (cellsFrom (s3.heap.objs.size + 1) scope.names (cloFrom X.env.cells scope.names [])) s3.heap.objs.size X.env))
    (compPost (model X.prog X.w) X.A X.xe none (EP X pins σ Q) (.ref D) s3.heap.objs.size) { s3 with heap := pushCells (s3.heap.push { cls := .type "dict", data := .dict #[] }) scope.names }
  have nf : ∀ b ∈ fp, (upd H2 D (TxO X.w D [])) b = none := fun b hb => (f3 b hb).1.1
  have t4 : tn 0 (pushCells (s3.heap.push { cls := .type "dict", data := .dict #[] }) scope.names) := T.keep _ _ _ st2 fun b _ o e => pushCells_keeps _ _ _ _ (Heap.get?_push_of_some _ (p3 b o e))
  generalize hce : compEnvC scope (cellsFrom (s3.heap.objs.size + 1) scope.names (cloFrom X.env.cells scope.names [])) s3.heap.objs.size X.env = ce at I4 pg pt pe ⊢
  have cL : ce.locals = s3.heap.objs.size := by rw [← hce]; rfl
  generalize upd H2 D (TxO X.w D []) = H3 at I3 f3 I4 pg pt pe nf w0
  generalize hs4 : ({ s3 with heap := pushCells (s3.heap.push { cls := .type "dict", data := .dict #[] }) scope.names } : Shared) = s4 at I4 ⊢
  have t4' : tn 0 s4.heap := by rw [← hs4]; exact t4
  -- the iterator's objects stand outside of the block
  have outer : ∀ {σ' : L2.St} {H' : Hp} {s' : Shared}, Inv (X.blk s3 H3 scope ce fp) [] σ' H' s' → (∀ b ∈ fp, H' b = none) → ∀ b ∈ fp, FpOk (X.blk s3 H3 scope ce fp) [] H' b := fun {σ' H' s'} J n b hb =>
    ⟨n b hb, (J.ok.exf b hb).1, J.ok.exfs b hb, .inl hb, fun x c e => (J.ok.exf b hb).2 x c e, fun p hp => absurd (show p ∈ ([] : List (Addr × Obj)) ++ [] from hp) (by simp)⟩
  have loop : codeAny (model X.prog X.w) X.A (.compLoop (.SetComp vx [⟨tg, iter, ifs, 0⟩] scope pos) 0 (.ref it) (.ref D) ce) (compPost (model X.prog X.w) X.A X.xe none (EP X pins σ Q) (.ref D) s3.heap.objs.size) s4 := by
    refine compLoopS_any (fun n s' => ∃ i H', Inv (X.blk s3 H3 scope ce fp) [] (wipe σ (own.map (·.2))) H' s' ∧ tn i s'.heap ∧ (∀ b ∈ fp, H' b = none) ∧ W i n H') ?_ m0 ⟨0, H3, I4, t4', nf, w0⟩
    rintro n s5 ⟨i, H5, I5, t5, n5, w5⟩
    rcases turn i n H5 w5 with ⟨stop, fin⟩ | ⟨go, Nx, hNx, step⟩
    · -- the walk is at its end: the def goes on
      refine thnF (T.done (X.blk s3 H3 scope ce fp) rfl rfl rfl hc i [] s5 _ H5 (fun _ _ => False) I5 (outer I5 n5) t5 stop) fun r s6 ⟨hr, I6⟩ => ?_
      subst hr
      have I7 : Inv X pins σ H5 s6 := I3.call' (ch := fp) I6.os I6.base I6.hok I6.bare fun b hb => ⟨(f3 b hb).1.2.2.2.1, (f3 b hb).1.2.1, (f3 b hb).1.2.2.2.2.1, (f3 b hb).1.2.2.2.2.2⟩
      have nC : H5 s3.heap.objs.size = none := by rw [← cL]; exact I6.free
      obtain ⟨m, hn, _⟩ := I6.loc
      have hn' : s6.heap.Ns s3.heap.objs.size m := by rw [← cL]; exact hn
      obtain ⟨g0, g1, g2, g3, g4, g5⟩ := I3.fpOk (Nat.le_refl _) nC
      exact ⟨m, hn', fun h'' sb => ⟨.ref D, H5, I7.turned (t' := s6.toks) (fun b o hb e => (sb.2 b hb).trans e) g0 g1 g3 g4 g5, rfl, fin⟩⟩
    · -- one more turn
      refine thnF (T.item (X.blk s3 H3 scope ce fp) rfl rfl rfl hc i [] s5 _ H5 (fun _ _ => False) I5 (outer I5 n5) t5 go) fun r s6 ⟨u, hr, h6⟩ => ?_
      subst hr
      refine thnF h6 fun _ s7 ⟨x, H7, I7, r7, y7, t7, n7⟩ => ?_
      have I7' := I7.pinned (outer I7 n7) (T.obj _ _ t7)
      refine thnF (pg.run _ s7 _ H7 x u _ I7' r7 (step x H7 y7)) fun _ s8 ⟨σ8, H8, I8, w8, q8⟩ => ?_
      refine thnF (pt.run _ s8 σ8 H8 _ I8 q8) fun b s9 ⟨H9, I9, q9⟩ => ?_
      have again : ∀ {s' : Shared} {H' : Hp}, Inv (X.blk s3 H3 scope ce fp) ([] ++ pinsAt fp s7.heap) σ8 H' s' → Nx H' → ∃ m, m < n ∧ ∃ i H', Inv (X.blk s3 H3 scope ce fp) [] (wipe σ (own.map (·.2))) H' s' ∧ tn i s'.heap ∧ (∀ b ∈ fp, H' b = none) ∧ W i m H' := by
        intro s' H' J nx
        obtain ⟨m', hm, w'⟩ := hNx H' nx
        have stay : ∀ b ∈ fp, ∀ o, s7.heap.get? b = some o → s'.heap.get? b = some o ∧ H' b = none := fun b hb o e => by
          have z := J.pin (b, o) (List.mem_append_right _ (List.mem_append_right _ (mem_pinsAt hb e)))
          exact ⟨z.1, z.2.1⟩
        refine ⟨m', hm, i + 1, H', (J.unpinned (pins := [])).weak (by rw [← w8, wipe_length]) (fun j v e => ?_), T.keep _ _ _ t7 fun b hb o e => (stay b hb o e).1, fun b hb => ?_, w'⟩
        · rw [← w8] at e; exact (wipe_some e).1
        · obtain ⟨o, e, _⟩ := T.obj _ _ t7 b hb
          exact (stay b hb o e).2
      cases b with
      | false =>
        simp only [Bool.false_eq_true, if_false] at q9 ⊢
        exact again I9 q9
      | true =>
        simp only [if_true] at q9 ⊢
        refine thnF (pe.run _ s9 σ8 H9 _ I9 q9) fun vv s11 ⟨yv, H11, I11, r11, ms, z, ez, hD11, hz11, nx⟩ => ?_
        subst ez
        obtain ⟨tk, rfl⟩ := r11
        exact addT_ok (X := X.blk s3 H3 scope ce fp) I11 hD11 hz11 fun s12 I12 => again I12 nx
  exact codeAny_compStart_set loop (T.self X.A 0 _ _ _ t4' loop)

def tv : Value → Str
  | .str x _ => x
  | _ => Str.empty
theorem vals_tv : ∀ {us : List Value}, (∀ u ∈ us, ∃ x k, u = Value.str x k) → Vals ((us.map tv).map V.str) us
  | [], _ => .nil
  | u :: us, h => by
    obtain ⟨x, k, rfl⟩ := h u (List.mem_cons.mpr (.inl rfl))
    exact .cons ⟨k, rfl⟩ (vals_tv fun v hv => h v (List.mem_cons.mpr (.inr hv)))
/-- sorted of a set of texts -/
def rSortedTx (w : World) : List V → Hp → VK → Prop := fun xs H Q => ∃ (a : Addr) (ms : List Str), xs = [.ref a] ∧ H a = some (TxO w a ms) ∧ ms.length < 64 ∧ ∀ (ys : List Str) (p : Addr), ys.Perm ms → sortedS ys = true → H p = none → Q (.ref p) (upd H p (.lst (ys.map V.str)))
theorem cr_sortedTx (hc : X.calm = true) : CallR X (.builtin "sorted") (rSortedTx X.w) := by
  intro pins s σ H xs us Q I r h
  obtain ⟨a, ms, rfl, ha, h64, q⟩ := h
  obtain rfl := Vals.ref1 r
  obtain ⟨ob, es, n, tb, h1, h2, h3, ok, hb, hf, hr, hl⟩ := (I.hok a _ ha).1
  refine PySem.Calls.call_function_entry kind_sorted plain_sorted entry_sorted (args_sorted1 _) ?_
  unfold Builtin.«sorted»
  refine wpAny_bind (m := checkCount "sorted" 1 1 _) (wpAny_pure ?_)
  refine wpAny_bind (collect_set (A := X.A.in1) (I.ok.hd hc) ⟨ob, h1, h2.1, h3⟩ hf hb hr hl fun s1 vs k1 hz g1 o1 pm => ?_)
  have I1 : Inv X pins σ H s1 := I.call' (ch := []) o1 (Un.kept k1) (I.hok.kept k1) (by rw [g1]; exact I.bare) (fun _ z => nomatch z)
  have hstr : ∀ u ∈ vs, ∃ x k, u = Value.str x k := fun u hu => by
    obtain ⟨e, he, rfl⟩ := List.mem_map.mp (pm.mem_iff.mp hu)
    obtain ⟨x, k, z, _⟩ := ok.good e he
    exact ⟨x, k, z⟩
  have hS : StrsAre vs (vs.map tv) := strsAre_of (vals_tv hstr)
  have pv : (vs.map tv).Perm ms := by
    refine (pm.map tv).trans ?_
    rw [List.map_map]
    refine List.Perm.trans (List.Perm.of_eq (List.map_congr_left fun e _ => ?_)) ok.pm
    unfold tx tv
    rfl
  have hvl : vs.length = ms.length := by
    have := pv.length_eq
    rwa [List.length_map] at this
  refine wpAny_bind (wpAny_newList ?_ (by rw [hvl, sizeLine_eq]; omega))
  have hL : (s1.heap.push (seqObj "list" vs.toArray 0)).get? s1.heap.objs.size = some (seqObj "list" vs.toArray 0) := Heap.get?_push_size _ rfl
  show wpAny _ _ _ _ _ { s1 with heap := s1.heap.push (seqObj "list" vs.toArray 0) }
  refine wpAny_bind (wpAny_holding (wpAny_call_entry PyProof.Rows.slot_list_sort ⟨_, hL, rfl⟩ PyProof.Rows.entry_list_sort (list_sort_treeK strKind_oneLt (s := { s1 with heap := s1.heap.push (seqObj "list" vs.toArray 0) }) hL hS.keysOf
    (fun v₁ v₂ rest e => keyKind_strs (by rw [← e]; exact hS)) (by rw [hvl]; exact h64) fun st' hp hs => ⟨_, rfl, ?_⟩) (PyProof.Rows.args_list_sort _)))
  obtain ⟨ys, z1, z2, z3⟩ := sorted_out_str hS hp hs
  obtain ⟨e', he'⟩ := PyProof.Rows.sortedHeap_at (vs := vs) (out := (arrOf st').map (·.2)) hL
  have py : ys.Perm ms := z2.trans pv
  have hlen : (ys.map V.str).length ≤ sizeLine := by
    rw [List.length_map, py.length_eq, sizeLine_eq]
    omega
  refine wpAny_pure ⟨_, rfl, .ref s1.heap.objs.size, upd H s1.heap.objs.size (.lst (ys.map V.str)), I1.laid (t' := s1.toks) (fun b u e => ?_) (Nat.le_refl _) (show ObjOk X.prog X.w _ _ _ (.lst (ys.map V.str)) from ⟨hlen, ((arrOf st').map (·.2)).toList, e', vals_of_strs z1, by rw [Array.toArray_toList]; exact he'⟩), rfl, q ys _ py z3 (I1.hok.fresh (Nat.le_refl _))⟩
  have hlt : b < s1.heap.objs.size := Heap.lt_size e
  rw [PyProof.Rows.sortedHeap_old (Nat.ne_of_lt hlt) (by rw [size_push']; exact Nat.lt_succ_of_lt hlt)]
  exact Heap.get?_push_of_some _ e
end
end Bd

set_option Elab.async false
set_option linter.all false
set_option maxRecDepth 100000
set_option maxHeartbeats 4000000
/-! Sorted texts; set comprehensions over a tuple; the negative part of rows. -/
namespace Bd
open PySem PySem.Spec PyProof.Rows L2
theorem ltCps_iff : ∀ {a b : List Nat}, ltCps a b = true ↔ a < b
  | [], [] => by simp [ltCps]
  | [], _ :: _ => by simp [ltCps]
  | _ :: _, [] => by simp [ltCps]
  | x :: a, y :: b => by
    rw [List.cons_lt_cons_iff, ← ltCps_iff (a := a) (b := b)]
    simp [ltCps]
theorem rise_le : ∀ {r : List Str} {p : Str}, risingS p r = true → (p :: r).Pairwise fun a b => a.cps.toList ≤ b.cps.toList
  | [], p, _ => by simp
  | x :: r, p, h => by
    have h2 : (!ltCps x.cps.toList p.cps.toList && risingS x r) = true := h
    rw [Bool.and_eq_true] at h2
    have ih := rise_le h2.2
    have le : p.cps.toList ≤ x.cps.toList := by
      have h3 : ltCps x.cps.toList p.cps.toList = false := by simpa using h2.1
      refine List.not_lt.mp fun z => ?_
      rw [ltCps_iff.mpr z] at h3
      cases h3
    refine List.pairwise_cons.mpr ⟨fun y hy => ?_, ih⟩
    rcases List.mem_cons.mp hy with e | e
    · rw [e]; exact le
    · exact List.le_trans le ((List.pairwise_cons.mp ih).1 y e)
theorem sorted_le {xs : List Str} (h : sortedS xs = true) : xs.Pairwise fun a b => a.cps.toList ≤ b.cps.toList := by
  cases xs with
  | nil => exact .nil
  | cons x r => exact rise_le h
theorem le_uniq : ∀ {xs ys : List Str}, xs.Pairwise (fun a b => a.cps.toList ≤ b.cps.toList) → ys.Pairwise (fun a b => a.cps.toList ≤ b.cps.toList) → xs.Perm ys → xs = ys
  | [], ys, _, _, p => (List.nil_perm.mp p).symm
  | x :: xs, [], _, _, p => absurd p.length_eq (by simp)
  | x :: xs, y :: ys, h, k, p => by
    have e : x = y := by
      refine str_ext (List.le_antisymm ?_ ?_)
      · rcases List.mem_cons.mp (p.mem_iff.mpr (List.mem_cons.mpr (.inl rfl))) with e | e
        · rw [e]; exact List.le_refl _
        · exact (List.pairwise_cons.mp h).1 y e
      · rcases List.mem_cons.mp (p.mem_iff.mp (List.mem_cons.mpr (.inl rfl))) with e | e
        · rw [e]; exact List.le_refl _
        · exact (List.pairwise_cons.mp k).1 x e
    subst e
    rw [le_uniq (List.pairwise_cons.mp h).2 (List.pairwise_cons.mp k).2 (List.perm_cons x |>.mp p)]
theorem sorted_uniq {xs ys : List Str} (h : sortedS xs = true) (k : sortedS ys = true) (p : xs.Perm ys) : xs = ys := le_uniq (sorted_le h) (sorted_le k) p
/-- lists of texts, as data -/
def encT (x : Str) : PyData := .str x
theorem vals_dp {K : PySem.W.Frag} {H : Hp} : ∀ xs : List Str, DpAll K H (xs.map V.str) (xs.map encT)
  | [] => .nil
  | x :: xs => .cons (.str x) (vals_dp xs)
theorem encT_any (ms : List Str) (x : Str) : ((ms.map encT).any fun z => PyData.eqv z (encT x)) = decide (x ∈ ms) := by
  induction ms with
  | nil => rfl
  | cons y ms ih =>
    rw [List.map_cons, List.any_cons, ih]
    have e : PyData.eqv (encT y) (encT x) = decide (y = x) := by
      simp only [encT, PyData.eqv]
      rw [Bool.eq_iff_iff]; simp
    rw [e]
    by_cases h : y = x
    · simp [h]
    · simp [h, List.mem_cons, Ne.symm h]
theorem encT_all : ∀ ms : List Str, PyData.eqvAll (ms.map encT) (ms.map encT) = true
  | [] => by simp [PyData.eqvAll]
  | x :: ms => by simp [PyData.eqvAll, encT_all ms, encT, PyData.eqv]
theorem encT_depth : ∀ ms : List Str, PyData.depthAll (ms.map encT) ≤ 1
  | [] => by simp [PyData.depthAll]
  | x :: ms => by
    have := encT_depth ms
    simp only [List.map_cons, PyData.depthAll, encT, PyData.depth]
    omega
theorem encT_lay : ∀ ms : List Str, (∀ x ∈ ms, PyData.strOk x = true) → PyData.canLayAll0 (ms.map encT) = true
  | [], _ => rfl
  | x :: ms, h => by
    have h1 := h x (List.mem_cons.mpr (.inl rfl))
    have h2 := encT_lay ms fun y hy => h y (List.mem_cons.mpr (.inr hy))
    simp [PyData.canLayAll0, encT, PyData.canLay0, h1, h2]
theorem encTs_shaped {ms : List Str} (h : ∀ x ∈ ms, PyData.strOk x = true) : SeqAt.shaped (.list (ms.map encT)) = true := by
  have := encT_depth ms
  unfold SeqAt.shaped
  simp only [PyData.canLay0, encT_lay ms h, PyData.depth, Bool.true_and]
  exact decide_eq_true (by omega)
/-- the rows with a negative quantity, turned -/
def negF (D : List (Ast × Int)) : List (Ast × Int) := (D.filter fun e => decide (e.2 < 0)).map fun e => (e.1, -e.2)
theorem negF_take {D : List (Ast × Int)} {i : Nat} {e : Ast × Int} (h : D[i]? = some e) : negF (D.take (i + 1)) = negF (D.take i) ++ (if e.2 < 0 then [(e.1, -e.2)] else []) := by
  unfold negF
  rw [List.take_add_one, h, List.filter_append, List.map_append]
  by_cases q : e.2 < 0
  · simp [q]
  · simp [q]
theorem negF_len (D : List (Ast × Int)) : (negF D).length ≤ D.length := by
  unfold negF
  rw [List.length_map]
  exact List.length_filter_le _ _
theorem pos_neg (D : List (Ast × Int)) (p : Ast) : tot (posF D) p - tot (negF D) p = tot D p := by
  induction D with
  | nil => simp [posF, negF, tot]
  | cons e D ih =>
    unfold posF negF at ih ⊢
    rw [List.filter_cons, List.filter_cons]
    by_cases h1 : 0 < e.2
    · have h2 : ¬ e.2 < 0 := by omega
      simp only [h1, h2, decide_true, decide_false, if_true, Bool.false_eq_true, if_false, tot]
      omega
    · by_cases h2 : e.2 < 0
      · simp only [h1, h2, decide_true, decide_false, if_true, Bool.false_eq_true, if_false, tot, List.map_cons]
        split <;> omega
      · have h0 : e.2 = 0 := by omega
        simp only [h1, h2, decide_false, Bool.false_eq_true, if_false, tot]
        split <;> omega
theorem negF_nrm {D : List (Ast × Int)} (h : Nrm D) : Nrm (negF D) := by
  unfold negF
  refine ⟨?_, ?_, fun e he => ?_⟩
  · rw [List.pairwise_map]
    exact List.Pairwise.filter _ h.srt
  · rw [List.map_map]
    exact ((List.filter_sublist (l := D)).map (·.1)).nodup h.nd
  · obtain ⟨f, hf, rfl⟩ := List.mem_map.mp he
    have := h.nz f (List.mem_filter.mp hf).1
    show -f.2 ≠ 0
    omega
theorem mem_of_tot {R N : List (Ast × Int)} (hn : Nrm N) (ht : ∀ p, tot N p = tot R p) {e : Ast × Int} (he : e ∈ N) : e.1 ∈ R.map (·.1) := by
  rcases Classical.em (e.1 ∈ R.map (·.1)) with z | z
  · exact z
  · have h1 := tot_at hn.nd he
    rw [ht, tot_none z] at h1
    exact absurd h1.symm (hn.nz e he)
end Bd
namespace Rb
open PySem PySem.Spec PyProof.Rows L2 Bd
/-- a set comprehension of texts over a tuple -/
theorem scJT {w : World} {K : PySem.W.Frag} {σ : L2.St} {Q : VK} {a : Addr} {xs : List V} {g : TG} {tt : TT} {te : TE} {vs : List Nat} {H1 : Hp} (Pv : Addr → Nat → Hp → Prop) (h : SqT K H1 a xs) (h0 : ∀ D, H1 D = none → Pv D 0 (upd H1 D (TxO w D [])))
    (hl : ∀ D i H, i ≤ xs.length → Pv D i H → SqT K H a xs)
    (hs : ∀ D i x H, H1 D = none → xs[i]? = some x → Pv D i H → g x (wipe σ vs) H fun σ2 H2 => wipe σ2 vs = wipe σ vs ∧ tt σ2 H2 fun t H3 =>
      if t = true then te σ2 H3 fun y H4 => ∃ ms z, y = .str z ∧ H4 D = some (TxO w D ms) ∧ ms.length + 1 < scanBound ∧ Pv D (i + 1) (upd H4 D (TxO w D (addT ms z))) else Pv D (i + 1) H3)
    (hd : ∀ D H, H1 D = none → Pv D xs.length H → Q (.ref D) H) : ∃ p, V.ref a = .ref p ∧ (∃ ys, SqT K H1 p ys) ∧ ScJ w g tt te vs σ Q (Itt K p) H1 := by
  refine ⟨a, rfl, ⟨_, h⟩, fun D hD => ⟨fun i m H => m = xs.length - i ∧ i ≤ xs.length ∧ Pv D i H, ⟨xs.length, by simp, Nat.zero_le _, h0 D hD⟩, ?_⟩⟩
  rintro i m H ⟨rfl, hi, p⟩
  have q := hl D i H hi p
  by_cases hlt : i < xs.length
  · refine .inr ⟨⟨xs, xs[i], q, by simp [hlt]⟩, Pv D (i + 1), fun H' p' => ⟨xs.length - (i + 1), by omega, rfl, hlt, p'⟩, fun x H' y => ?_⟩
    obtain ⟨e, y⟩ := y
    subst e
    exact hs D i x _ hD (y xs q) p
  · have e : i = xs.length := by omega
    subst e
    exact .inl ⟨⟨xs, q, Nat.le_refl _⟩, hd D H hD p⟩
theorem sc {w : World} {wi : TI} {g : TG} {tt : TT} {te : TE} {vs : List Nat} {σ : L2.St} {H : Hp} {Q : VK} (k : wi σ H fun J H1 => ScJ w g tt te vs σ Q J H1) : tScT w wi g tt te vs σ H Q := k
end Rb

set_option Elab.async false
set_option linter.all false
set_option maxRecDepth 100000
set_option maxHeartbeats 4000000
/-! Books of outputs by address; bundles told by their rows alone; the laws' own books. -/
namespace Fa
open PySem PySem.Spec PyProof.Rows L2 Bd Es Dj Ef Re

/-- a bundle's rows -/
def BdR (K : PySem.W.Frag) (H : Hp) (c : Addr) (N : List (Ast × Int)) : Prop := ∃ dx d r xs, H c = some (.ins (He.ga K "Bundle") dx [("_quantities", .ref d), ("rows", .ref r)]) ∧ H r = some (.tup xs) ∧ DpAll K H xs (N.map encR)
theorem BdR.keep {K : PySem.W.Frag} {H H' : Hp} {c : Addr} {N : List (Ast × Int)} (h : BdR K H c N) (s : Same H H') : BdR K H' c N := by
  obtain ⟨dx, d, r, xs, h1, h2, h3⟩ := h
  exact ⟨dx, d, r, xs, s _ _ h1, s _ _ h2, dpAll_same s h3⟩
theorem BdS.bdR {P : Program} {w : World} {K : PySem.W.Frag} {H : Hp} {c : Addr} {N : List (Ast × Int)} (h : BdS P w K H c N) : BdR K H c N := by
  obtain ⟨dx, r, d, xs, h1, h2, h3, _⟩ := h
  exact ⟨dx, d, r, xs, h1, h2, h3⟩
theorem BdR.off {K : PySem.W.Frag} {H : Hp} {c p : Addr} {N : List (Ast × Int)} {o o' : HO} (h : BdR K H c N) (hp : H p = some o) (n0 : ∀ ys, o ≠ .lst ys) (n1 : ∀ ys, o ≠ .tup ys) (n2 : ∀ z u, o ≠ .frz z u) (n3 : ∀ C dx fs, o ≠ .ins C dx fs) : BdR K (upd H p o') c N := by
  obtain ⟨dx, d, r, xs, h1, h2, h3⟩ := h
  exact ⟨dx, d, r, xs, (upd_ne fun e => by subst e; rw [hp] at h1; exact n3 _ _ _ (Option.some.inj h1)).trans h1, (upd_ne fun e => by subst e; rw [hp] at h2; exact n1 _ (Option.some.inj h2)).trans h2, dpAll_off hp n0 n1 n2 h3⟩
/-- bundles, one after the other, told by their rows -/
def Bds (K : PySem.W.Frag) (H : Hp) (vs : List V) (Ns : List (List (Ast × Int))) : Prop := Paired (fun v N => ∃ c, v = .ref c ∧ BdR K H c N) vs Ns

theorem paired_at {α : Type} {T : V → α → Prop} : ∀ {vs : List V} {R : List α} {i : Nat} {x : V}, Paired T vs R → vs[i]? = some x → ∃ e, R[i]? = some e ∧ T x e
  | _, _, _, _, Paired.nil, h => by simp at h
  | _, _, 0, _, Paired.cons h t, e => by
    simp only [List.getElem?_cons_zero, Option.some.injEq] at e
    exact ⟨_, rfl, e ▸ h⟩
  | _, _, i + 1, _, Paired.cons h t, e => by
    simp only [List.getElem?_cons_succ] at e ⊢
    exact paired_at t e
abbrev Rf := Int × Int
abbrev BkT := List (List Key × List (Rf × List (Ast × Int)))
/-- the dict of an address: references and bundles -/
def InAt (P : Program) (w : World) (K : PySem.W.Frag) (H : Hp) (di : Addr) (L : List (Rf × List (Ast × Int))) : Prop := ∃ ks, DS P w K H di ks ∧ Paired (fun x y => x.1 = eR y.1 ∧ ∃ c, x.2 = .ref c ∧ BdR K H c y.2) ks L
/-- books whose own dicts are d :: ds; the outer one told by D (DS, or DR) -/
def BkG (D : Program → World → PySem.W.Frag → Hp → Addr → List (List Key × V) → Prop) (P : Program) (w : World) (K : PySem.W.Frag) (H : Hp) (b d : Addr) (ds : List Addr) (B : BkT) : Prop :=
  ∃ dx kvs, H b = some (.ins (He.ga K "Books") dx [("_bundles", .ref d)]) ∧ D P w K H d kvs ∧ kvs.map (·.2) = ds.map V.ref ∧ (d :: ds).Nodup ∧ Paired (fun x e => x.1 = e.1 ∧ ∃ di, x.2 = .ref di ∧ InAt P w K H di e.2) kvs B
abbrev BkAt := BkG DS
abbrev BkR := BkG DR
theorem InAt.keep {P : Program} {w : World} {K : PySem.W.Frag} {H H' : Hp} {di : Addr} {L : List (Rf × List (Ast × Int))} (h : InAt P w K H di L) (s : Same H H') : InAt P w K H' di L := by
  obtain ⟨ks, h1, h2⟩ := h
  exact ⟨ks, Es.DS.keep s h1, Paired.mapP h2 fun _ _ ⟨e, c, e2, q⟩ => ⟨e, c, e2, q.keep s⟩⟩
theorem InAt.other {P : Program} {w : World} {K : PySem.W.Frag} {H : Hp} {di d : Addr} {L : List (Rf × List (Ast × Int))} {ks : List (List Key × Addr × Value)} {o : HO} (h : InAt P w K H di L) (hd : H d = some (dX P w d ks)) (n : di ≠ d) : InAt P w K (upd H d o) di L := by
  obtain ⟨ms, h1, h2⟩ := h
  exact ⟨ms, Re.DS.other h1 hd n, Paired.mapP h2 fun _ _ ⟨e, c, e2, q⟩ => ⟨e, c, e2, q.off hd (fun _ z => by cases z) (fun _ z => by cases z) (fun _ _ z => by cases z) (fun _ _ _ z => by cases z)⟩⟩
def lookB (B : BkT) (k : List Key) : List (Rf × List (Ast × Int)) := ((B.find? fun e => decide (e.1 = k)).map (·.2)).getD []
def addB : BkT → List Key → Rf → List (Ast × Int) → BkT
  | [], k, p, N => [(k, [(p, N)])]
  | e :: B, k, p, N => if e.1 = k then (e.1, e.2 ++ [(p, N)]) :: B else e :: addB B k p N
def remB : BkT → List Key → Rf → BkT
  | [], _, _ => []
  | e :: B, k, p => if e.1 = k then (e.1, e.2.filter fun x => decide (x.1 ≠ p)) :: B else e :: remB B k p

theorem eR_inj {p q : Rf} (h : eR p = eR q) : p = q := by
  unfold eR at h
  have h1 := List.cons.inj h
  have h2 := List.cons.inj h1.2
  exact Prod.ext (Sum.inl.inj h1.1) (Sum.inl.inj h2.1)
theorem putK_abs {kvs : List (List Key × V)} {k : List Key} {v : V} (h : valV kvs k = none) : putK kvs k v = kvs ++ [(k, v)] := by
  unfold putK
  rw [valV_any, h]
  rfl
theorem in_pres {K : PySem.W.Frag} {H : Hp} {p : Rf} : ∀ {ks : List (List Key × V)} {L : List (Rf × List (Ast × Int))}, Paired (fun x y => x.1 = eR y.1 ∧ ∃ c, x.2 = .ref c ∧ BdR K H c y.2) ks L → p ∈ L.map (·.1) → (valV ks (eR p)).isSome = true
  | _, _, Paired.nil, h => by simp at h
  | _, _, Paired.cons (a := x) (b := y) h t, hn => by
    by_cases c : x.1 = eR p
    · rw [valV_pos c]; rfl
    · rw [valV_neg c]
      rw [List.map_cons, List.mem_cons] at hn
      rcases hn with e | e
      · exact absurd (by rw [h.1, e]) c
      · exact in_pres t e
theorem drop_in {K : PySem.W.Frag} {H : Hp} {p : Rf} : ∀ {ks : List (List Key × V)} {L : List (Rf × List (Ast × Int))}, Paired (fun x y => x.1 = eR y.1 ∧ ∃ c, x.2 = .ref c ∧ BdR K H c y.2) ks L → Paired (fun x y => x.1 = eR y.1 ∧ ∃ c, x.2 = .ref c ∧ BdR K H c y.2) (L2.dropK ks (eR p)) (L.filter fun x => decide (x.1 ≠ p))
  | _, _, Paired.nil => Paired.nil
  | _, _, Paired.cons (a := x) (b := y) (l₁ := ks) (l₂ := L) h t => by
    have ih := drop_in (p := p) t
    by_cases c : y.1 = p
    · rw [show L2.dropK (x :: ks) (eR p) = L2.dropK ks (eR p) from List.filter_cons_of_neg (by simp [h.1, c]), List.filter_cons_of_neg (by simp [c])]
      exact ih
    · rw [show L2.dropK (x :: ks) (eR p) = x :: L2.dropK ks (eR p) from List.filter_cons_of_pos (by rw [h.1]; simpa using fun e => c (eR_inj e)), List.filter_cons_of_pos (by simpa using c)]
      exact Paired.cons h ih
theorem in_keys {K : PySem.W.Frag} {H : Hp} : ∀ {ks : List (List Key × V)} {L : List (Rf × List (Ast × Int))}, Paired (fun x y => x.1 = eR y.1 ∧ ∃ c, x.2 = .ref c ∧ BdR K H c y.2) ks L → ∃ m : List ((Int × Int) × V), ks = m.map (fun e => (eR e.1, e.2)) ∧ m.map (·.1) = L.map (·.1)
  | _, _, Paired.nil => ⟨[], rfl, rfl⟩
  | _, _, Paired.cons (a := x) (b := y) h t => by
    obtain ⟨m, h1, h2⟩ := in_keys t
    exact ⟨(y.1, x.2) :: m, by rw [List.map_cons, ← h1, ← h.1], by rw [List.map_cons, List.map_cons, h2]⟩
theorem in_vals {K : PySem.W.Frag} {H : Hp} : ∀ {ks : List (List Key × V)} {L : List (Rf × List (Ast × Int))}, Paired (fun x y => x.1 = eR y.1 ∧ ∃ c, x.2 = .ref c ∧ BdR K H c y.2) ks L → Bds K H (ks.map (·.2)) (L.map (·.2))
  | _, _, Paired.nil => Paired.nil
  | _, _, Paired.cons h t => Paired.cons h.2 (in_vals t)
abbrev Rl (P : Program) (w : World) (K : PySem.W.Frag) (H : Hp) (x : List Key × V) (e : List Key × List (Rf × List (Ast × Int))) : Prop := x.1 = e.1 ∧ ∃ di, x.2 = .ref di ∧ InAt P w K H di e.2
theorem Bds.keep {K : PySem.W.Frag} {H H' : Hp} {vs : List V} {Ns : List (List (Ast × Int))} (h : Bds K H vs Ns) (s : Same H H') : Bds K H' vs Ns := by
  unfold Bds at h ⊢
  exact Paired.mapP h fun _ _ ⟨c, e, q⟩ => ⟨c, e, q.keep s⟩
theorem lookB_pos {e : List Key × List (Rf × List (Ast × Int))} {B : BkT} {k : List Key} (h : e.1 = k) : lookB (e :: B) k = e.2 := by simp [lookB, List.find?_cons, h]
theorem lookB_neg {e : List Key × List (Rf × List (Ast × Int))} {B : BkT} {k : List Key} (h : ¬ e.1 = k) : lookB (e :: B) k = lookB B k := by simp [lookB, List.find?_cons, h]
theorem in_abs {K : PySem.W.Frag} {H : Hp} {p : Rf} : ∀ {ks : List (List Key × V)} {L : List (Rf × List (Ast × Int))}, Paired (fun x y => x.1 = eR y.1 ∧ ∃ c, x.2 = .ref c ∧ BdR K H c y.2) ks L → p ∉ L.map (·.1) → valV ks (eR p) = none
  | _, _, Paired.nil, _ => rfl
  | _, _, Paired.cons (a := x) (b := y) h t, hn => by
    rw [List.map_cons, List.mem_cons, not_or] at hn
    rw [valV_neg fun e => hn.1 (eR_inj (h.1.symm.trans e)).symm]
    exact in_abs t hn.2
section
variable {P : Program} {w : World} {K : PySem.W.Frag} {H H' : Hp}
theorem find_in {k : List Key} {v : V} : ∀ {kvs : List (List Key × V)} {B : BkT}, Paired (Rl P w K H) kvs B → valV kvs k = some v → ∃ di, v = .ref di ∧ InAt P w K H di (lookB B k) ∧ (∃ e ∈ B, e.2 = lookB B k) ∧ V.ref di ∈ kvs.map (·.2)
  | _, _, Paired.nil, h => by cases h
  | _, _, Paired.cons (a := x) (b := e) h t, hv => by
    by_cases c : x.1 = k
    · rw [valV_pos c] at hv
      obtain ⟨di, h2, h3⟩ := h.2
      have c2 : e.1 = k := h.1.symm.trans c
      rw [lookB_pos c2]
      exact ⟨di, (Option.some.inj hv).symm.trans h2, h3, ⟨e, List.mem_cons_self, rfl⟩, by rw [List.map_cons, h2]; exact List.mem_cons_self⟩
    · rw [valV_neg c] at hv
      have c2 : ¬ e.1 = k := fun z => c (h.1.trans z)
      obtain ⟨di, h1, h2, ⟨f, hf, hf2⟩, h4⟩ := find_in t hv
      rw [lookB_neg c2]
      exact ⟨di, h1, h2, ⟨f, List.mem_cons_of_mem _ hf, hf2⟩, List.mem_cons_of_mem _ h4⟩
theorem rest_keep : ∀ {kvs : List (List Key × V)} {B : BkT}, Paired (Rl P w K H) kvs B → (∀ dj L, V.ref dj ∈ kvs.map (·.2) → InAt P w K H dj L → InAt P w K H' dj L) → Paired (Rl P w K H') kvs B
  | _, _, Paired.nil, _ => Paired.nil
  | _, _, Paired.cons (a := x) (b := e) h t, hk => by
    obtain ⟨h1, dj, h2, h3⟩ := h
    exact Paired.cons ⟨h1, dj, h2, hk _ _ (by rw [List.map_cons, h2]; exact List.mem_cons_self) h3⟩ (rest_keep t fun dj L hm => hk dj L (List.mem_cons_of_mem _ hm))
theorem ds_at {x : Addr} : ∀ {kvs : List (List Key × V)} {B : BkT}, Paired (Rl P w K H) kvs B → V.ref x ∈ kvs.map (·.2) → ∃ L, InAt P w K H x L
  | _, _, Paired.nil, h => by simp at h
  | _, _, Paired.cons (a := y) (b := e) h t, hm => by
    rw [List.map_cons, List.mem_cons] at hm
    rcases hm with hm | hm
    · obtain ⟨h1, dj, h2, h3⟩ := h
      rw [h2] at hm
      cases hm
      exact ⟨_, h3⟩
    · exact ds_at t hm
theorem InAt.some {di : Addr} {L : List (Rf × List (Ast × Int))} (h : InAt P w K H di L) : ∃ xs, H di = some (dX P w di xs) := ⟨h.choose_spec.1.2.choose, h.choose_spec.1.2.choose_spec.1⟩
theorem ins_dX {C dx : Addr} {fs : List (Str × V)} {a : Addr} {xs : List (List Key × Addr × Value)} (h : H a = some (.ins C dx fs)) (g : H a = some (dX P w a xs)) : False := by
  have e : some (HO.ins C dx fs) = some (dX P w a xs) := h.symm.trans g
  have e2 : HO.ins C dx fs = HO.ext _ := Option.some.inj e
  cases e2
theorem nd_refs {ds : List Addr} (h : ds.Nodup) : (ds.map V.ref).Nodup := List.pairwise_map.mpr (h.imp fun n e => n (V.ref.inj e))
theorem add_in {k : List Key} {di : Addr} {p : Rf} {N : List (Ast × Int)} : ∀ {kvs : List (List Key × V)} {B : BkT}, Paired (Rl P w K H) kvs B → valV kvs k = some (.ref di) → (kvs.map (·.2)).Nodup → InAt P w K H' di (lookB B k ++ [(p, N)]) → (∀ dj L, V.ref dj ∈ kvs.map (·.2) → dj ≠ di → InAt P w K H dj L → InAt P w K H' dj L) → Paired (Rl P w K H') kvs (addB B k p N)
  | _, _, Paired.nil, h, _, _, _ => by cases h
  | _, _, Paired.cons (a := x) (b := e) (l₁ := kvs) h t, hv, nd, hn, hk => by
    rw [List.map_cons, List.nodup_cons] at nd
    by_cases c : x.1 = k
    · rw [valV_pos c] at hv
      have hx := Option.some.inj hv
      have c2 : e.1 = k := h.1.symm.trans c
      rw [lookB_pos c2] at hn
      unfold addB
      rw [if_pos c2]
      refine Paired.cons ⟨h.1, di, hx, hn⟩ (rest_keep t fun dj L hm => hk dj L (List.mem_cons_of_mem _ hm) fun z => ?_)
      subst z
      rw [hx] at nd
      exact nd.1 hm
    · rw [valV_neg c] at hv
      have c2 : ¬ e.1 = k := fun z => c (h.1.trans z)
      rw [lookB_neg c2] at hn
      unfold addB
      rw [if_neg c2]
      obtain ⟨dj, h2, h3⟩ := h.2
      obtain ⟨_, e1, _, _, hm⟩ := find_in t hv
      cases e1
      refine Paired.cons ⟨h.1, dj, h2, hk dj _ (by rw [List.map_cons, h2]; exact List.mem_cons_self) (fun z => ?_) h3⟩ (add_in t hv nd.2 hn fun dj L hm => hk dj L (List.mem_cons_of_mem _ hm))
      subst z
      rw [h2] at nd
      exact nd.1 hm
theorem rem_in {k : List Key} {di : Addr} {p : Rf} : ∀ {kvs : List (List Key × V)} {B : BkT}, Paired (Rl P w K H) kvs B → valV kvs k = some (.ref di) → (kvs.map (·.2)).Nodup → InAt P w K H' di ((lookB B k).filter fun x => decide (x.1 ≠ p)) → (∀ dj L, V.ref dj ∈ kvs.map (·.2) → dj ≠ di → InAt P w K H dj L → InAt P w K H' dj L) → Paired (Rl P w K H') kvs (remB B k p)
  | _, _, Paired.nil, h, _, _, _ => by cases h
  | _, _, Paired.cons (a := x) (b := e) (l₁ := kvs) h t, hv, nd, hn, hk => by
    rw [List.map_cons, List.nodup_cons] at nd
    by_cases c : x.1 = k
    · rw [valV_pos c] at hv
      have hx := Option.some.inj hv
      have c2 : e.1 = k := h.1.symm.trans c
      rw [lookB_pos c2] at hn
      unfold remB
      rw [if_pos c2]
      refine Paired.cons ⟨h.1, di, hx, hn⟩ (rest_keep t fun dj L hm => hk dj L (List.mem_cons_of_mem _ hm) fun z => ?_)
      subst z
      rw [hx] at nd
      exact nd.1 hm
    · rw [valV_neg c] at hv
      have c2 : ¬ e.1 = k := fun z => c (h.1.trans z)
      rw [lookB_neg c2] at hn
      unfold remB
      rw [if_neg c2]
      obtain ⟨dj, h2, h3⟩ := h.2
      obtain ⟨_, e1, _, _, hm⟩ := find_in t hv
      cases e1
      refine Paired.cons ⟨h.1, dj, h2, hk dj _ (by rw [List.map_cons, h2]; exact List.mem_cons_self) (fun z => ?_) h3⟩ (rem_in t hv nd.2 hn fun dj L hm => hk dj L (List.mem_cons_of_mem _ hm))
      subst z
      rw [h2] at nd
      exact nd.1 hm
theorem look_none {k : List Key} : ∀ {kvs : List (List Key × V)} {B : BkT}, Paired (Rl P w K H) kvs B → valV kvs k = none → lookB B k = []
  | _, _, Paired.nil, _ => rfl
  | _, _, Paired.cons (a := x) (b := e) h t, hv => by
    have c : ¬ x.1 = k := fun z => by rw [valV_pos z] at hv; cases hv
    rw [valV_neg c] at hv
    rw [lookB_neg fun z => c (h.1.trans z)]
    exact look_none t hv
theorem addB_abs {k : List Key} {p : Rf} {N : List (Ast × Int)} : ∀ {kvs : List (List Key × V)} {B : BkT}, Paired (Rl P w K H) kvs B → valV kvs k = none → addB B k p N = B ++ [(k, [(p, N)])]
  | _, _, Paired.nil, _ => rfl
  | _, _, Paired.cons (a := x) (b := e) h t, hv => by
    have c : ¬ x.1 = k := fun z => by rw [valV_pos z] at hv; cases hv
    rw [valV_neg c] at hv
    unfold addB
    rw [if_neg fun z => c (h.1.trans z), addB_abs t hv]
    rfl
end

def allB (B : BkT) : List (Ast × Int) := (B.map fun e => (e.2.map (·.2)).flatten).flatten
theorem allB_take {B : BkT} {i : Nat} {f : List Key × List (Rf × List (Ast × Int))} (h : B[i]? = some f) : allB (B.take (i + 1)) = allB (B.take i) ++ (f.2.map (·.2)).flatten := by
  unfold allB
  rw [take_map h, List.flatten_append]
  simp
theorem allB_mem {B : BkT} {f : List Key × List (Rf × List (Ast × Int))} (h : f ∈ B) : ((f.2.map (·.2)).flatten).length ≤ (allB B).length := by
  unfold allB
  have := List.sublist_flatten_of_mem (List.mem_map.mpr ⟨f, h, rfl⟩ : (f.2.map (·.2)).flatten ∈ B.map fun e => (e.2.map (·.2)).flatten)
  exact this.length_le
theorem lookB_at {B : BkT} {i : Nat} {f : List Key × List (Rf × List (Ast × Int))} (hk : (B.map (·.1)).Nodup) (h : B[i]? = some f) : lookB B f.1 = f.2 := by
  induction B generalizing i with
  | nil => simp at h
  | cons e B ih =>
    rw [List.map_cons, List.nodup_cons] at hk
    cases i with
    | zero =>
      simp only [List.getElem?_cons_zero, Option.some.injEq] at h
      rw [h]; exact lookB_pos rfl
    | succ i =>
      simp only [List.getElem?_cons_succ] at h
      rw [lookB_neg fun z => hk.1 (by rw [z]; exact List.mem_map_of_mem (List.mem_of_getElem? h))]
      exact ih hk.2 h
theorem paired_at2 {α β : Type} {T : α → β → Prop} : ∀ {xs : List α} {ys : List β} {i : Nat} {y : β}, Paired T xs ys → ys[i]? = some y → ∃ x, xs[i]? = some x ∧ T x y
  | _, _, _, _, Paired.nil, h => by simp at h
  | _, _, 0, _, Paired.cons h t, e => by
    simp only [List.getElem?_cons_zero, Option.some.injEq] at e
    exact ⟨_, rfl, e ▸ h⟩
  | _, _, i + 1, _, Paired.cons h t, e => by
    simp only [List.getElem?_cons_succ] at e ⊢
    exact paired_at2 t e
theorem paired_at1 {α β : Type} {T : α → β → Prop} : ∀ {xs : List α} {ys : List β} {i : Nat} {x : α}, Paired T xs ys → xs[i]? = some x → ∃ y, ys[i]? = some y ∧ T x y
  | _, _, _, _, Paired.nil, h => by simp at h
  | _, _, 0, _, Paired.cons h t, e => by
    simp only [List.getElem?_cons_zero, Option.some.injEq] at e
    exact ⟨_, rfl, e ▸ h⟩
  | _, _, i + 1, _, Paired.cons h t, e => by
    simp only [List.getElem?_cons_succ] at e ⊢
    exact paired_at1 t e
theorem BdR.keepT {K : PySem.W.Frag} {H H' : Hp} {c : Addr} {N : List (Ast × Int)} (h : BdR K H c N) (s : SameT H H') : BdR K H' c N := by
  obtain ⟨dx, d, r, xs, h1, h2, h3⟩ := h
  exact ⟨dx, d, r, xs, s _ _ h1 (fun _ e => by cases e), s _ _ h2 (fun _ e => by cases e), dpAll_keep s (nlMap encR_nl) h3⟩
theorem BdR.unl {P : Program} {w : World} {K : PySem.W.Frag} {H : Hp} {c d : Addr} {N : List (Ast × Int)} {g : Obj} {ks : List (List Key × Addr × Value)} {o : HO} (h : BdR K H c N) (hp : H d = some (.frz g (dX P w d ks))) : BdR K (upd H d o) c N := by
  obtain ⟨dx, e, r, xs, h1, h2, h3⟩ := h
  exact ⟨dx, e, r, xs, (upd_ne fun e => by subst e; rw [hp] at h1; cases h1).trans h1, (upd_ne fun e => by subst e; rw [hp] at h2; cases h2).trans h2, Re.dpAll_unl hp h3⟩
theorem DR.keep {P : Program} {w : World} {K : PySem.W.Frag} {H H' : Hp} {a : Addr} {kvs : List (List Key × V)} (h : DR P w K H a kvs) (s : Same H H') : DR P w K H' a kvs := by
  obtain ⟨z, xs, h1, h2⟩ := h
  exact ⟨z, xs, h1.imp (fun q => s _ _ q) (fun ⟨g, q⟩ => ⟨g, s _ _ q⟩), h2.keeps fun q ys hq => Rd.same_tup s hq⟩
theorem BkR.keep {P : Program} {w : World} {K : PySem.W.Frag} {H H' : Hp} {b d : Addr} {ds : List Addr} {B : BkT} (h : BkR P w K H b d ds B) (s : Same H H') : BkR P w K H' b d ds B := by
  obtain ⟨dx, kvs, h1, h2, h3, h4, h5⟩ := h
  exact ⟨dx, kvs, s _ _ h1, DR.keep h2 s, h3, h4, rest_keep h5 fun dj L _ q => q.keep s⟩
theorem BkAt.keep {P : Program} {w : World} {K : PySem.W.Frag} {H H' : Hp} {b d : Addr} {ds : List Addr} {B : BkT} (h : BkAt P w K H b d ds B) (s : Same H H') : BkAt P w K H' b d ds B := by
  obtain ⟨dx, kvs, h1, h2, h3, h4, h5⟩ := h
  exact ⟨dx, kvs, s _ _ h1, Es.DS.keep s h2, h3, h4, rest_keep h5 fun dj L _ q => q.keep s⟩

/-- a key's item as data -/
def kDat : Key → PyData
  | .inl n => .int n
  | .inr s => .str s
/-- what an output holds: its address, its rows, its datum -/
structure Tr where
  ad : List Key
  rw : List (Ast × Int)
  dt : List Int
def encTr (t : Tr) : PyData := .tuple [.tuple (t.ad.map kDat), .tuple (t.rw.map encR), .tuple (t.dt.map .int)]
/-- a good address: two items, good texts -/
def AdOk (kk : List Key) : Prop := kk.length = 2 ∧ ∀ s, Sum.inr s ∈ kk → PyData.strOk s = true
theorem adI {x : Str} {n : Int} (h : PyData.strOk x = true) : AdOk [Sum.inr x, Sum.inl n] := ⟨rfl, fun s hs => by simp at hs; rw [hs]; exact h⟩
theorem adS {x y : Str} (h : PyData.strOk x = true) (k : PyData.strOk y = true) : AdOk [Sum.inr x, Sum.inr y] := ⟨rfl, fun s hs => by simp at hs; rcases hs with rfl | rfl <;> assumption⟩
theorem AdOk.sh {kk : List Key} (h : AdOk kk) : SeqAt.shaped (.tuple (kk.map kDat)) = true := by
  refine (Sh.tuple (n := 1) fun d hd => ?_).shaped (by decide)
  obtain ⟨k, hk, rfl⟩ := List.mem_map.mp hd
  cases k with
  | inl i => exact .int _ _
  | inr s => exact .str _ (h.2 s hk)
theorem kDat_inj : ∀ {a b : List Key}, a.map kDat = b.map kDat → a = b
  | [], [], _ => rfl
  | [], _ :: _, h => by simp at h
  | _ :: _, [], h => by simp at h
  | x :: a, y :: b, h => by
    simp only [List.map_cons, List.cons.injEq] at h
    rw [kDat_inj h.2]
    have e := h.1
    cases x <;> cases y <;> simp [kDat] at e <;> rw [e]
theorem kDat_nb : ∀ {a : List Key}, nbAll (a.map kDat) = true
  | [] => rfl
  | .inl _ :: a => by simp only [List.map_cons, nbAll, kDat, nb, Bool.true_and]; exact kDat_nb
  | .inr _ :: a => by simp only [List.map_cons, nbAll, kDat, nb, Bool.true_and]; exact kDat_nb
theorem ad_eqv {a b : List Key} : PyData.eqv (.tuple (a.map kDat)) (.tuple (b.map kDat)) = decide (a = b) := by
  have h := eqv_nb (.tuple (a.map kDat)) (.tuple (b.map kDat)) (by simp only [nb]; exact kDat_nb) (by simp only [nb]; exact kDat_nb)
  by_cases e : a = b
  · rw [decide_eq_true e]; exact h.mpr (by rw [e])
  · rw [decide_eq_false e]
    cases q : PyData.eqv (.tuple (a.map kDat)) (.tuple (b.map kDat)) with
    | false => rfl
    | true => exact absurd (kDat_inj (PyData.tuple.inj (h.mp q))) e
def OkTr (t : Tr) : Prop := OkR t.rw ∧ t.rw.length ≤ 3 ∧ t.dt.length ≤ 3 ∧ AdOk t.ad ∧ ∀ e ∈ t.rw, 0 < e.2
def OkQ (R : List (Ast × Int)) : Prop := OkR R ∧ ∀ e ∈ R, 0 < e.2

theorem rowPush {K : PySem.W.Frag} {H0 H1 : Hp} {r p q : Addr} {xs : List V} {R : List (Ast × Int)} {n : Str} {i z : Int} (s : Same H0 H1) (hr0 : H0 r = none) (hr : H1 r = some (.lst xs)) (hX : DpAll K H1 xs (R.map encR)) (hp : H1 p = none) (hq : upd H1 p (.tup [.str n, .int i]) q = none) :
    Same H0 (upd (upd (upd H1 p (.tup [.str n, .int i])) q (.tup [.ref p, .int z])) r (.lst (xs ++ [.ref q]))) ∧ DpAll K (upd (upd (upd H1 p (.tup [.str n, .int i])) q (.tup [.ref p, .int z])) r (.lst (xs ++ [.ref q]))) (xs ++ [.ref q]) ((R ++ [((n, i), z)]).map encR) := by
  have s2 := (Rd.same_new (o := .tup [.str n, .int i]) hp).trans (Rd.same_new (o := .tup [.ref p, .int z]) hq)
  refine ⟨Rd.same_mut (s.trans s2) hr0, ?_⟩
  rw [List.map_append]
  exact push hX (nlMap encR_nl) s2 (s2 _ _ hr) (rowDp (p := (n, i)) (SqT.of upd_same) (SqT.of (Rd.same_new hq _ _ upd_same))) (encR_nl _)
theorem okQ_app {R : List (Ast × Int)} {n : Str} {i z : Int} (h : OkQ R) (o : PyData.strOk n = true) (hz : 0 < z) : OkQ (R ++ [((n, i), z)]) := by
  constructor
  · intro e he
    rcases List.mem_append.mp he with h1 | h1
    · exact h.1 e h1
    · rw [List.mem_singleton.mp h1]; exact o
  · intro e he
    rcases List.mem_append.mp he with h1 | h1
    · exact h.2 e h1
    · rw [List.mem_singleton.mp h1]; exact hz

theorem dp_keys {K : PySem.W.Frag} {H : Hp} : ∀ {t : List Key}, DpAll K H (t.map kV) (t.map kDat)
  | [] => .nil
  | .inl _ :: _ => .cons (.int _) dp_keys
  | .inr _ :: _ => .cons (.str _) dp_keys
theorem dp_keys_of {K : PySem.W.Frag} {H : Hp} : ∀ {xs : List V} {t : List Key}, DpAll K H xs (t.map kDat) → xs = t.map kV
  | _, [], h => by cases h; rfl
  | _, .inl _ :: _, h => by cases h with | cons a b => cases a; rw [dp_keys_of b]; rfl
  | _, .inr _ :: _, h => by cases h with | cons a b => cases a; rw [dp_keys_of b]; rfl

abbrev MdT := List ((Int × Int) × Tr)
/-- the law's own books: a dict whose one item is a dict of what stands at each reference -/
def MdAt (P : Program) (w : World) (K : PySem.W.Frag) (H : Hp) (m o : Addr) (M : MdT) : Prop := H m = some (.dK [(Sum.inr (Rd.S [111, 117, 116, 112, 117, 116, 115]), .ref o)]) ∧ ∃ kvs, DS P w K H o kvs ∧ Paired (fun (kv : List Key × V) e => kv.1 = eR e.1 ∧ Dp K H kv.2 (encTr e.2)) kvs M ∧ (M.map (·.1)).Nodup

theorem mdGet {H : Hp} {m o : Addr} {R : V → Prop} (h : H m = some (.dK [(Sum.inr (Rd.S [111, 117, 116, 112, 117, 116, 115]), .ref o)])) (k : R (.ref o)) : ∃ a v, V.ref m = .ref a ∧ DGet H a (.str (Rd.S [111, 117, 116, 112, 117, 116, 115])) (some v) ∧ R v := by
  refine ⟨m, .ref o, rfl, ?_, k⟩
  have := DGet.k (k := .inr (Rd.S [111, 117, 116, 112, 117, 116, 115])) h
  rwa [valV_pos rfl] at this
def lookM : MdT → Int × Int → Option Tr
  | [], _ => none
  | x :: M, e => if x.1 = e then some x.2 else lookM M e
theorem mdFind {K : PySem.W.Frag} {H : Hp} {e : Int × Int} : ∀ {kvs : List (List Key × V)} {M : MdT}, Paired (fun (kv : List Key × V) e => kv.1 = eR e.1 ∧ Dp K H kv.2 (encTr e.2)) kvs M → e ∈ M.map (·.1) → ∃ t v, lookM M e = some t ∧ valV kvs (eR e) = some v ∧ Dp K H v (encTr t)
  | _, _, Paired.nil, h => by simp at h
  | _, _, Paired.cons (a := x) (b := y) h t, hn => by
    by_cases c : y.1 = e
    · exact ⟨y.2, x.2, by simp only [lookM, if_pos c], valV_pos (h.1.trans (by rw [c])), h.2⟩
    · rcases List.mem_cons.mp hn with q | q
      · exact absurd q.symm c
      · obtain ⟨u, v, q1, q2, q3⟩ := mdFind t q
        exact ⟨u, v, by simp only [lookM, if_neg c]; exact q1, (valV_neg fun z => c (eR_inj (h.1.symm.trans z))).trans q2, q3⟩
theorem lookM_mem {x : (Int × Int) × Tr} : ∀ {M : MdT}, (M.map (·.1)).Nodup → x ∈ M → lookM M x.1 = some x.2
  | [], _, h => by simp at h
  | y :: M, hn, h => by
    rw [List.map_cons, List.nodup_cons] at hn
    rcases List.mem_cons.mp h with rfl | q
    · simp only [lookM, if_true]
    · have c : y.1 ≠ x.1 := fun z => hn.1 (z ▸ List.mem_map_of_mem q)
      simp only [lookM, if_neg c]
      exact lookM_mem hn.2 q
theorem keysP2 {K : PySem.W.Frag} {H : Hp} : ∀ {ps : List Addr} {kvs : List (List Key × V)} {M : MdT}, KeysAt K H ps kvs → Paired (fun (kv : List Key × V) e => kv.1 = eR e.1 ∧ Dp K H kv.2 (encTr e.2)) kvs M → DpAll K H (ps.map V.ref) ((M.map (·.1)).map encP2)
  | _, _, _, Paired.nil, Paired.nil => .nil
  | _, _, _, Paired.cons (a := a) (b := b) h t, Paired.cons (b := c) g u => by
    have h1 : SqT K H a (b.1.map kV) := h
    have g1 : b.1 = eR c.1 := g.1
    rw [g1] at h1
    exact .cons (.tup (ds := [.int c.1.1, .int c.1.2]) h1 (.cons (.int _) (.cons (.int _) .nil))) (keysP2 t u)
theorem encTr_of {K : PySem.W.Frag} {H : Hp} {v : V} {t : Tr} (h : Dp K H v (encTr t)) : ∃ a x1 x2 x3, v = .ref a ∧ SqT K H a [.ref x1, .ref x2, .ref x3] ∧ SqT K H x1 (t.ad.map kV) ∧ (∃ rs, SqT K H x2 rs ∧ DpAll K H rs (t.rw.map encR)) ∧ ∃ es, SqT K H x3 es ∧ DpAll K H es (t.dt.map .int) := by
  cases h with
  | tup hs hd =>
    cases hd with
    | cons d1 r =>
      cases r with
      | cons d2 r =>
        cases r with
        | cons d3 r =>
          cases r
          cases d1 with
          | tup s1 e1 =>
            cases d2 with
            | tup s2 e2 =>
              cases d3 with
              | tup s3 e3 =>
                rw [dp_keys_of e1] at s1
                exact ⟨_, _, _, _, rfl, hs, s1, ⟨_, s2, e2⟩, _, s3, e3⟩
theorem encP2_nl (p : Int × Int) : nl (encP2 p) = true := rfl
theorem refsF {M : MdT} {B : List (Int × Int)} {kk : List Key} (hB : B.Perm (M.map (·.1))) (hn : (M.map (·.1)).Nodup) : (B.filter fun e => decide ((lookM M e).map (·.ad) = some kk)).Perm ((M.filter fun e => e.2.ad = kk).map (·.1)) := by
  refine (hB.filter _).trans ?_
  rw [List.filter_map]
  refine List.Perm.of_eq (congrArg _ (List.filter_congr fun x hx => ?_))
  simp only [Function.comp, lookM_mem hn hx, Option.map_some, Option.some.injEq]
theorem fmIf {α β : Type} {c : α → Prop} [DecidablePred c] {f : α → β} : ∀ {B : List α}, B.filterMap (fun e => if c e then some (f e) else none) = (B.filter fun e => decide (c e)).map f
  | [] => rfl
  | e :: B => by by_cases h : c e <;> simp [List.filterMap_cons, List.filter_cons, h, fmIf (B := B)]

theorem keysA {K : PySem.W.Frag} {H : Hp} : ∀ {ps : List Addr} {m : List (Ast × V)}, KeysAt K H ps (eD m) → DpAll K H (ps.map V.ref) ((m.map (·.1)).map encA)
  | [], [], _ => .nil
  | [], _ :: _, h => by cases h
  | _ :: _, [], h => by cases h
  | a :: ps, e :: m, h => by
    cases h with
    | cons h t => exact .cons (astDp h) (keysA t)
theorem tot_pos {p : Ast} : ∀ {R : List (Ast × Int)}, (∀ e ∈ R, 0 < e.2) → 0 ≤ tot R p ∧ (p ∈ R.map (·.1) → 0 < tot R p)
  | [], _ => ⟨Int.le_refl _, fun h => by simp at h⟩
  | e :: R, h => by
    have ih := tot_pos (p := p) (R := R) fun x hx => h x (List.mem_cons_of_mem _ hx)
    have h0 := h e List.mem_cons_self
    have e1 : tot (e :: R) p = (if e.1 = p then e.2 else 0) + tot R p := rfl
    rw [e1]
    constructor
    · split <;> omega
    · intro hm
      rw [List.map_cons, List.mem_cons] at hm
      rcases hm with hm | hm
      · rw [if_pos hm.symm]; omega
      · have := ih.2 hm
        split <;> omega
def sumR (M : MdT) (S : List (Int × Int)) : List (Ast × Int) := (S.map fun e => ((lookM M e).map (·.rw)).getD []).flatten
theorem sumR_take {M : MdT} {S : List (Int × Int)} {i : Nat} {e : Int × Int} {t : Tr} (h : S[i]? = some e) (ht : lookM M e = some t) : sumR M (S.take (i + 1)) = sumR M (S.take i) ++ t.rw := by
  unfold sumR
  rw [take_map h, List.flatten_append, ht]
  simp
theorem lookM_in {M : MdT} {e : Int × Int} {t : Tr} (h : lookM M e = some t) : (e, t) ∈ M := by
  induction M with
  | nil => cases h
  | cons y M ih =>
    simp only [lookM] at h
    split at h
    · rename_i c
      cases h
      rw [← c]; exact List.mem_cons_self
    · exact List.mem_cons_of_mem _ (ih h)
theorem sumR_pos {M : MdT} (hO : ∀ e ∈ M, OkTr e.2) : ∀ {S : List (Int × Int)}, (∀ e ∈ sumR M S, 0 < e.2) ∧ OkR (sumR M S) ∧ (sumR M S).length ≤ 3 * S.length
  | [] => ⟨fun _ h => by simp [sumR] at h, fun _ h => by simp [sumR] at h, by simp [sumR]⟩
  | s :: S => by
    obtain ⟨h1, h2, h3⟩ := sumR_pos (M := M) hO (S := S)
    have e : sumR M (s :: S) = ((lookM M s).map (·.rw)).getD [] ++ sumR M S := by simp [sumR]
    rw [e]
    cases q : lookM M s with
    | none => simp only [Option.map_none, Option.getD_none, List.nil_append, List.length_cons]; exact ⟨h1, h2, by omega⟩
    | some t =>
      have o := hO _ (lookM_in q)
      simp only [Option.map_some, Option.getD_some, List.length_append, List.length_cons]
      have : t.rw.length ≤ 3 := o.2.1
      exact ⟨fun x hx => (List.mem_append.mp hx).elim (o.2.2.2.2 x) (h1 x), fun x hx => (List.mem_append.mp hx).elim (o.1 x) (h2 x), by omega⟩
/-- a bundle at a whose row of rows is xs -/
def OwnAt (K : PySem.W.Frag) (H : Hp) (a : Addr) (xs : List V) : Prop := ∃ dx d t, H a = some (.ins (He.ga K "Bundle") dx [("_quantities", .ref d), ("rows", .ref t)]) ∧ H t = some (.tup xs)
theorem OwnAt.keep {K : PySem.W.Frag} {H H' : Hp} {a : Addr} {xs : List V} (h : OwnAt K H a xs) (s : Same H H') : OwnAt K H' a xs := by
  obtain ⟨dx, d, t, h1, h2⟩ := h
  exact ⟨dx, d, t, s _ _ h1, s _ _ h2⟩
theorem bds_off {P : Program} {w : World} {K : PySem.W.Frag} {H H' : Hp} {b c C dx : Addr} {fs : List (Str × V)} {N : List (Ast × Int)} (h : BdS P w K H c N) (e : Beside b H H') (hb : H b = some (.ins C dx fs)) (ne : c ≠ b) : BdS P w K H' c N := by
  obtain ⟨dx2, r, d, xs, h1, h2, h3, h4, h5⟩ := h
  obtain ⟨z, ys, h6, h7⟩ := id h4
  have nr : r ≠ b := fun q => by subst q; rw [hb] at h2; cases h2
  have nd : d ≠ b := fun q => by
    subst q
    have h8 : some (HO.ins C dx fs) = some (dX P w d ys) := hb.symm.trans h6
    have h9 : HO.ins C dx fs = HO.ext _ := Option.some.inj h8
    cases h9
  exact ⟨dx2, r, d, xs, e _ _ ne h1, e _ _ nr h2, e.dpAll hb h3, h4.keepT ((e _ _ nd h6).trans h6.symm) (fun q ys hq => e.sqT hb hq), h5⟩
/-- the dict of the bundle at b -/
def BdD (K : PySem.W.Frag) (H : Hp) (b d : Addr) : Prop := ∃ dx r, H b = some (.ins (He.ga K "Bundle") dx [("_quantities", .ref d), ("rows", .ref r)])
theorem BdS.own {P : Program} {w : World} {K : PySem.W.Frag} {H : Hp} {b : Addr} {N : List (Ast × Int)} (h : BdS P w K H b N) : ∃ xs, OwnAt K H b xs ∧ DpAll K H xs (N.map encR) := by
  obtain ⟨dx, r, d, xs, h1, h2, h3, _⟩ := h
  exact ⟨xs, ⟨dx, d, r, h1, h2⟩, h3⟩
end Fa

set_option Elab.async false
set_option linter.all false
set_option maxRecDepth 100000
set_option maxHeartbeats 4000000
/-! Frames: what is left alone by changes of the objects of a list; books beside the law's own ones. -/
namespace Fa
open PySem PySem.Spec PyProof.Rows L2 Bd Es Dj Ef Re
/-- all but what stands at O; tuples stay -/
structure Fr (K : PySem.W.Frag) (O : List Addr) (H H' : Hp) : Prop where
  keep : ∀ a u, a ∉ O → H a = some u → H' a = some u
  tup : ∀ a xs, SqT K H a xs → SqT K H' a xs
  tr : ∀ a xs, H a = some (.tup xs) → H' a = some (.tup xs)
section
variable {P : Program} {w : World} {K : PySem.W.Frag} {H H1 H2 H' : Hp} {O O' : List Addr}
theorem Fr.of (s : Same H H') : Fr K O H H' := ⟨fun a u _ h => s a u h, fun _ _ h => Rd.same_tup s h, fun _ _ h => s _ _ h⟩
theorem Fr.refl : Fr K O H H := .of (Same.refl _)
theorem Fr.trans (f : Fr K O H H1) (g : Fr K O H1 H2) : Fr K O H H2 := ⟨fun a u n h => g.keep a u n (f.keep a u n h), fun a xs h => g.tup a xs (f.tup a xs h), fun a xs h => g.tr a xs (f.tr a xs h)⟩
theorem Fr.mono (f : Fr K O H H') (h : ∀ x ∈ O, x ∈ O') : Fr K O' H H' := ⟨fun a u n => f.keep a u fun q => n (h a q), f.tup, f.tr⟩
theorem Fr.then (f : Fr K O H H1) (s : Same H1 H2) : Fr K O H H2 := f.trans (.of s)
/-- O grows by what was free -/
theorem Fr.shrink (f : Fr K O' H H') (h : ∀ x ∈ O', x ∈ O ∨ H x = none) : Fr K O H H' := ⟨fun a u n e => f.keep a u (fun q => (h a q).elim n fun z => by rw [z] at e; cases e) e, f.tup, f.tr⟩
theorem Fr.dict {d : Addr} {ks : List (List Key × Addr × Value)} {o : HO} (h : H d = some (dX P w d ks)) (hd : d ∈ O) : Fr K O H (upd H d o) :=
  ⟨fun a u n e => (upd_ne fun q => n (by rw [q]; exact hd)).trans e, fun a xs e => sqT_upd (o := dX P w d ks) h (fun _ z => by cases z) (fun _ _ z => by cases z) e, fun a xs e => (upd_ne fun q => by rw [q, h] at e; cases Option.some.inj e).trans e⟩
theorem Fr.dk {d : Addr} {ks : List (Key × V)} {o : HO} (h : H d = some (.dK ks)) (hd : d ∈ O) : Fr K O H (upd H d o) :=
  ⟨fun a u n e => (upd_ne fun q => n (by rw [q]; exact hd)).trans e, fun a xs e => sqT_upd (o := .dK ks) h (fun _ z => by cases z) (fun _ _ z => by cases z) e, fun a xs e => (upd_ne fun q => by rw [q, h] at e; cases Option.some.inj e).trans e⟩
theorem Fr.list {d : Addr} {ks : List V} {o : HO} (h : H d = some (.lst ks)) (hd : d ∈ O) : Fr K O H (upd H d o) :=
  ⟨fun a u n e => (upd_ne fun q => n (by rw [q]; exact hd)).trans e, fun a xs e => sqT_upd (o := .lst ks) h (fun _ z => by cases z) (fun _ _ z => by cases z) e, fun a xs e => (upd_ne fun q => by rw [q, h] at e; cases Option.some.inj e).trans e⟩
theorem Fr.ins {d C dx : Addr} {fs : List (Str × V)} {o : HO} (h : H d = some (.ins C dx fs)) (hd : d ∈ O) : Fr K O H (upd H d o) :=
  ⟨fun a u n e => (upd_ne fun q => n (by rw [q]; exact hd)).trans e, fun a xs e => sqT_upd (o := .ins C dx fs) h (fun _ z => by cases z) (fun _ _ z => by cases z) e, fun a xs e => (upd_ne fun q => by rw [q, h] at e; cases Option.some.inj e).trans e⟩
theorem Fr.sqL {a : Addr} {xs : List V} (f : Fr K O H H') (n : a ∉ O) (h : SqL K H a xs) : SqL K H' a xs := by
  rcases h with (h | ⟨z, h⟩) | h
  · exact .inl (.inl (f.keep _ _ n h))
  · exact .inl (.inr ⟨z, f.keep _ _ n h⟩)
  · exact .inr h
theorem Fr.dp (e : Fr K O H H') : ∀ {x : V} {d : PyData}, nl d = true → Dp K H x d → Dp K H' x d
  | _, _, _, .non => .non
  | _, _, _, .bl b => .bl b
  | _, _, _, .int i => .int i
  | _, _, _, .str x => .str x
  | _, _, n, .lst h a => by simp [nl] at n
  | _, _, n, .tup h a => .tup (e.tup _ _ h) (go e (by simpa only [nl] using n) a)
where go (e : Fr K O H H') : ∀ {xs : List V} {ds : List PyData}, nlAll ds = true → DpAll K H xs ds → DpAll K H' xs ds
  | _, _, _, .nil => .nil
  | _, _, n, .cons h t => .cons (Fr.dp e (by simp only [nlAll, Bool.and_eq_true] at n; exact n.1) h) (go e (by simp only [nlAll, Bool.and_eq_true] at n; exact n.2) t)
theorem Fr.dpAll (e : Fr K O H H') {xs : List V} {ds : List PyData} (n : nlAll ds = true) (h : DpAll K H xs ds) : DpAll K H' xs ds := Fr.dp.go e n h
theorem Fr.ds {a : Addr} {kvs : List (List Key × V)} (e : Fr K O H H') (n : a ∉ O) (h : DS P w K H a kvs) : DS P w K H' a kvs := by
  obtain ⟨z, xs, h1, h2⟩ := id h
  exact Es.DS.keepT ((e.keep _ _ n h1).trans h1.symm) e.tup h
theorem Fr.bdR {c : Addr} {N : List (Ast × Int)} (e : Fr K O H H') (n : c ∉ O) (h : BdR K H c N) (hO : ∀ a xs, H a = some (.tup xs) → a ∉ O) : BdR K H' c N := by
  obtain ⟨dx, d, r, xs, h1, h2, h3⟩ := h
  exact ⟨dx, d, r, xs, e.keep _ _ n h1, e.keep _ _ (hO _ _ h2) h2, e.dpAll (nlMap encR_nl) h3⟩
/-- books' own dicts -/
theorem BkAt.dic {b d : Addr} {ds : List Addr} {B : BkT} (h : BkAt P w K H b d ds B) : ∀ x ∈ d :: ds, ∃ xs, H x = some (dX P w x xs) := by
  obtain ⟨dx, kvs, h1, h2, h3, h4, h5⟩ := h
  intro x hx
  rcases List.mem_cons.mp hx with rfl | hx
  · exact ⟨_, h2.2.choose_spec.1⟩
  · obtain ⟨L, hL⟩ := ds_at h5 (by rw [h3]; exact List.mem_map_of_mem hx)
    exact hL.some
theorem sqT_fr (dic : ∀ x ∈ O, ∃ xs, H x = some (dX P w x xs)) (hk : ∀ a u, a ∉ O → H a = some u → H' a = some u) {a : Addr} {xs : List V} (h : SqT K H a xs) : SqT K H' a xs := by
  rcases h with (h | ⟨z, h⟩) | h
  · refine .inl (.inl (hk _ _ (fun q => ?_) h))
    obtain ⟨ys, hy⟩ := dic a q
    rw [hy] at h
    cases Option.some.inj h
  · refine .inl (.inr ⟨z, hk _ _ (fun q => ?_) h⟩)
    obtain ⟨ys, hy⟩ := dic a q
    rw [hy] at h
    cases Option.some.inj h
  · exact .inr h
theorem tr_fr (dic : ∀ x ∈ O, ∃ xs, H x = some (dX P w x xs)) (hk : ∀ a u, a ∉ O → H a = some u → H' a = some u) {a : Addr} {xs : List V} (h : H a = some (.tup xs)) : H' a = some (.tup xs) :=
  hk _ _ (fun q => by
    obtain ⟨ys, hy⟩ := dic a q
    rw [hy] at h
    cases Option.some.inj h) h
theorem Fr.books {b d : Addr} {ds : List Addr} {B : BkT} (h : BkAt P w K H b d ds B) (hk : ∀ a u, a ∉ d :: ds → H a = some u → H' a = some u) : Fr K (d :: ds) H H' := ⟨hk, fun _ _ => sqT_fr h.dic hk, fun _ _ => tr_fr h.dic hk⟩
theorem dX_no {d : Addr} {ks : List (List Key × Addr × Value)} {o : HO} {a : Addr} (h : H d = some (dX P w d ks)) (g : H a = some o) (n : ∀ φ, o ≠ .ext φ) : a ≠ d := fun e => by
  subst e
  rw [h] at g
  exact n _ (Option.some.inj g).symm
/-- what is no dict of the books is none of them -/
theorem BkAt.out {b d : Addr} {ds : List Addr} {B : BkT} (h : BkAt P w K H b d ds B) {a : Addr} {o : HO} (g : H a = some o) (n : ∀ φ, o ≠ .ext φ) : a ∉ d :: ds := fun q => by
  obtain ⟨ys, hy⟩ := h.dic a q
  exact dX_no hy g n rfl
theorem BkAt.fr {b d : Addr} {ds : List Addr} {B : BkT} (h : BkAt P w K H b d ds B) (f : Fr K O H H') (nb : b ∉ O) (nd : ∀ x ∈ d :: ds, x ∉ O) (nc : ∀ c dx fs, H c = some (.ins (He.ga K "Bundle") dx fs) → c ∉ O) (nt : ∀ a xs, H a = some (.tup xs) → a ∉ O) : BkAt P w K H' b d ds B := by
  obtain ⟨dx, kvs, h1, h2, h3, h4, h5⟩ := h
  refine ⟨dx, kvs, f.keep _ _ nb h1, f.ds (nd _ List.mem_cons_self) h2, h3, h4, rest_keep h5 fun dj L hm q => ?_⟩
  obtain ⟨ks, q1, q2⟩ := q
  have hd : dj ∈ ds := by
    rw [h3] at hm
    obtain ⟨x, hx, ex⟩ := List.mem_map.mp hm
    cases ex
    exact hx
  exact ⟨ks, f.ds (nd _ (List.mem_cons_of_mem _ hd)) q1, Paired.mapP q2 fun _ _ ⟨e, c, e2, q⟩ => ⟨e, c, e2, by
    obtain ⟨dx, d, r, xs, g1, g2, g3⟩ := q
    exact f.bdR (nc _ _ _ g1) ⟨dx, d, r, xs, g1, g2, g3⟩ nt⟩⟩
end
/-! ### the books' mathematics -/
def flatB (B : BkT) : List Rf := (B.map fun e => e.2.map (·.1)).flatten
/-- the books and the law's own: the same references at the same addresses, with the same sums -/
structure BM (B : BkT) (M : MdT) : Prop where
  nd : (B.map (·.1)).Nodup
  pm : (flatB B).Perm (M.map (·.1))
  pt : ∀ e ∈ B, ∀ x ∈ e.2, x.2.length ≤ 3 ∧ ∃ t, lookM M x.1 = some t ∧ t.ad = e.1 ∧ ∀ p, tot x.2 p = tot t.rw p
theorem flatB_cons {e : List Key × List (Rf × List (Ast × Int))} {B : BkT} : flatB (e :: B) = e.2.map (·.1) ++ flatB B := rfl
theorem look_refs {M : MdT} {kk : List Key} : ∀ {B : BkT}, (B.map (·.1)).Nodup → (∀ e ∈ B, ∀ x ∈ e.2, (lookM M x.1).map (·.ad) = some e.1) → (lookB B kk).map (·.1) = (flatB B).filter fun r => decide ((lookM M r).map (·.ad) = some kk)
  | [], _, _ => rfl
  | e :: B, hn, h => by
    rw [List.map_cons, List.nodup_cons] at hn
    have ih := look_refs (kk := kk) hn.2 fun f hf => h f (List.mem_cons_of_mem _ hf)
    have h0 := h e List.mem_cons_self
    rw [flatB_cons, List.filter_append]
    by_cases c : e.1 = kk
    · rw [lookB_pos c]
      have e1 : (e.2.map (·.1)).filter (fun r => decide ((lookM M r).map (·.ad) = some kk)) = e.2.map (·.1) := List.filter_eq_self.mpr fun r hr => by
        obtain ⟨x, hx, rfl⟩ := List.mem_map.mp hr
        exact decide_eq_true (by rw [h0 x hx, c])
      have e2 : (flatB B).filter (fun r => decide ((lookM M r).map (·.ad) = some kk)) = [] := List.filter_eq_nil_iff.mpr fun r hr => by
        obtain ⟨l, hl, hr2⟩ := List.mem_flatten.mp hr
        obtain ⟨f, hf, rfl⟩ := List.mem_map.mp hl
        obtain ⟨x, hx, rfl⟩ := List.mem_map.mp hr2
        intro z
        have z2 := of_decide_eq_true z
        rw [h f (List.mem_cons_of_mem _ hf) x hx] at z2
        exact hn.1 (by rw [c, ← Option.some.inj z2]; exact List.mem_map_of_mem hf)
      rw [e1, e2, List.append_nil]
    · rw [lookB_neg c, ih]
      have e1 : (e.2.map (·.1)).filter (fun r => decide ((lookM M r).map (·.ad) = some kk)) = [] := List.filter_eq_nil_iff.mpr fun r hr => by
        obtain ⟨x, hx, rfl⟩ := List.mem_map.mp hr
        intro z
        have z2 := of_decide_eq_true z
        rw [h0 x hx] at z2
        exact c (Option.some.inj z2)
      rw [e1, List.nil_append]
theorem BM.ads {B : BkT} {M : MdT} (h : BM B M) : ∀ e ∈ B, ∀ x ∈ e.2, (lookM M x.1).map (·.ad) = some e.1 := fun e he x hx => by
  obtain ⟨_, t, h1, h2, _⟩ := h.pt e he x hx
  rw [h1, Option.map_some, h2]
theorem BM.refs {B : BkT} {M : MdT} (h : BM B M) (hM : (M.map (·.1)).Nodup) (kk : List Key) : ((lookB B kk).map (·.1)).Perm ((M.filter fun e => e.2.ad = kk).map (·.1)) := by
  rw [look_refs h.nd h.ads]
  exact refsF h.pm hM
theorem sum_perm : ∀ {l m : List Int}, l.Perm m → l.sum = m.sum := fun {l m} h => by
  induction h with
  | nil => rfl
  | cons x _ ih => simp [ih]
  | swap x y l => simp only [List.sum_cons]; omega
  | trans _ _ a b => exact a.trans b
theorem tot_flatten {p : Ast} : ∀ {l : List (List (Ast × Int))}, tot l.flatten p = (l.map fun R => tot R p).sum
  | [] => rfl
  | R :: l => by rw [List.flatten_cons, tot_append, tot_flatten (l := l)]; rfl
theorem sumR_tot {M : MdT} {S : List Rf} {p : Ast} : tot (sumR M S) p = (S.map fun e => tot (((lookM M e).map (·.rw)).getD []) p).sum := by
  unfold sumR
  rw [tot_flatten, List.map_map]
  rfl
theorem sumR_perm {M : MdT} {S T : List Rf} (h : S.Perm T) (p : Ast) : tot (sumR M S) p = tot (sumR M T) p := by
  rw [sumR_tot, sumR_tot]
  exact sum_perm (h.map _)
theorem sumR_app {M : MdT} {S T : List Rf} : sumR M (S ++ T) = sumR M S ++ sumR M T := by simp [sumR]
theorem look_tot {M : MdT} {p : Ast} : ∀ {L : List (Rf × List (Ast × Int))}, (∀ x ∈ L, ∃ t, lookM M x.1 = some t ∧ tot x.2 p = tot t.rw p) → tot (L.map (·.2)).flatten p = tot (sumR M (L.map (·.1))) p
  | [], _ => rfl
  | x :: L, h => by
    obtain ⟨t, h1, h2⟩ := h x List.mem_cons_self
    rw [List.map_cons, List.map_cons, List.flatten_cons, tot_append, look_tot fun y hy => h y (List.mem_cons_of_mem _ hy), h2]
    rw [show sumR M (x.1 :: L.map (·.1)) = ((lookM M x.1).map (·.rw)).getD [] ++ sumR M (L.map (·.1)) by simp [sumR], tot_append, h1]
    rfl
theorem lookB_mem {B : BkT} {kk : List Key} {x : Rf × List (Ast × Int)} (h : x ∈ lookB B kk) : ∃ e ∈ B, x ∈ e.2 ∧ e.1 = kk := by
  induction B with
  | nil => simp [lookB] at h
  | cons e B ih =>
    by_cases c : e.1 = kk
    · rw [lookB_pos c] at h
      exact ⟨e, List.mem_cons_self, h, c⟩
    · rw [lookB_neg c] at h
      obtain ⟨f, hf, h2⟩ := ih h
      exact ⟨f, List.mem_cons_of_mem _ hf, h2⟩
theorem BM.sums {B : BkT} {M : MdT} (h : BM B M) (kk : List Key) (p : Ast) : tot ((lookB B kk).map (·.2)).flatten p = tot (sumR M ((lookB B kk).map (·.1))) p :=
  look_tot fun x hx => by
    obtain ⟨e, he, hx2, _⟩ := lookB_mem hx
    obtain ⟨_, t, h1, _, h3⟩ := h.pt e he x hx2
    exact ⟨t, h1, h3 p⟩
theorem all_tot {M : MdT} {p : Ast} : ∀ {B : BkT}, (∀ e ∈ B, ∀ x ∈ e.2, ∃ t, lookM M x.1 = some t ∧ tot x.2 p = tot t.rw p) → tot (allB B) p = tot (sumR M (flatB B)) p
  | [], _ => rfl
  | e :: B, h => by
    rw [flatB_cons, sumR_app, tot_append, ← all_tot fun f hf => h f (List.mem_cons_of_mem _ hf), ← look_tot (h e List.mem_cons_self), ← tot_append]
    rfl
theorem BM.all {B : BkT} {M : MdT} (h : BM B M) (p : Ast) : tot (allB B) p = tot (sumR M (M.map (·.1))) p := by
  rw [← sumR_perm h.pm]
  exact all_tot fun e he x hx => by
    obtain ⟨_, t, h1, _, h3⟩ := h.pt e he x hx
    exact ⟨t, h1, h3 p⟩
theorem flat3 : ∀ {L : List (Rf × List (Ast × Int))}, (∀ x ∈ L, x.2.length ≤ 3) → (L.map (·.2)).flatten.length ≤ 3 * L.length
  | [], _ => Nat.le_refl _
  | x :: L, h => by
    have := flat3 (L := L) fun y hy => h y (List.mem_cons_of_mem _ hy)
    have := h x List.mem_cons_self
    rw [List.map_cons, List.flatten_cons, List.length_append, List.length_cons]
    omega
theorem all3 : ∀ {B : BkT}, (∀ e ∈ B, ∀ x ∈ e.2, x.2.length ≤ 3) → (allB B).length ≤ 3 * (flatB B).length
  | [], _ => Nat.le_refl _
  | e :: B, h => by
    have h1 := all3 (B := B) fun f hf => h f (List.mem_cons_of_mem _ hf)
    have h2 := flat3 (h e List.mem_cons_self)
    rw [flatB_cons, List.length_append, List.length_map]
    show ((e.2.map (·.2)).flatten ++ allB B).length ≤ _
    rw [List.length_append]
    omega
theorem flatB_mem {B : BkT} {e : List Key × List (Rf × List (Ast × Int))} {x : Rf × List (Ast × Int)} (he : e ∈ B) (hx : x ∈ e.2) : x.1 ∈ flatB B := List.mem_flatten.mpr ⟨_, List.mem_map_of_mem he, List.mem_map_of_mem hx⟩
theorem flatB_le {B : BkT} {e : List Key × List (Rf × List (Ast × Int))} (he : e ∈ B) : e.2.length ≤ (flatB B).length := by
  have := (List.sublist_flatten_of_mem (List.mem_map.mpr ⟨e, he, rfl⟩ : e.2.map (·.1) ∈ B.map fun e => e.2.map (·.1))).length_le
  rwa [List.length_map] at this
theorem lookB_le {B : BkT} {kk : List Key} : (lookB B kk).length ≤ (flatB B).length := by
  induction B with
  | nil => exact Nat.le_refl _
  | cons e B ih =>
    rw [flatB_cons, List.length_append, List.length_map]
    by_cases c : e.1 = kk
    · rw [lookB_pos c]; omega
    · rw [lookB_neg c]; omega
structure BLen (B : BkT) (n : Nat) : Prop where
  fl : (flatB B).length = n
  al : (allB B).length ≤ 3 * n
  lk : ∀ kk, (lookB B kk).length ≤ n ∧ ((lookB B kk).map (·.2)).flatten.length ≤ 3 * n
  ea : ∀ e ∈ B, e.2.length ≤ n
theorem BM.len {B : BkT} {M : MdT} (h : BM B M) : BLen B M.length := by
  have e := h.pm.length_eq
  rw [List.length_map] at e
  refine ⟨e, e ▸ all3 fun f hf x hx => (h.pt f hf x hx).1, fun kk => ?_, fun f hf => e ▸ flatB_le hf⟩
  have h1 : (lookB B kk).length ≤ _ := lookB_le
  have h2 := flat3 (L := lookB B kk) fun x hx => by
    obtain ⟨f, hf, hx2, _⟩ := lookB_mem hx
    exact (h.pt f hf x hx2).1
  exact ⟨e ▸ h1, by omega⟩
theorem BM.nil : BM [] [] := ⟨List.nodup_nil, .nil, fun _ h => by cases h⟩
/-! one more, one less -/
theorem addB_len {k : List Key} {p : Rf} {N : List (Ast × Int)} : ∀ {B : BkT}, (addB B k p N).length ≤ B.length + 1
  | [] => Nat.le_refl _
  | e :: B => by
    unfold addB
    split
    · simp
    · have := addB_len (k := k) (p := p) (N := N) (B := B)
      simp only [List.length_cons]; omega
theorem addB_flat {k : List Key} {p : Rf} {N : List (Ast × Int)} : ∀ {B : BkT}, (flatB (addB B k p N)).Perm (flatB B ++ [p])
  | [] => List.Perm.refl _
  | e :: B => by
    unfold addB
    split
    · rw [flatB_cons, flatB_cons, List.map_append, List.append_assoc, List.append_assoc]
      exact List.Perm.append_left _ List.perm_append_comm
    · rw [flatB_cons, flatB_cons, List.append_assoc]
      exact List.Perm.append_left _ addB_flat
theorem addB_keys {k : List Key} {p : Rf} {N : List (Ast × Int)} : ∀ {B : BkT}, (k ∈ B.map (·.1) → (addB B k p N).map (·.1) = B.map (·.1)) ∧ (k ∉ B.map (·.1) → (addB B k p N).map (·.1) = B.map (·.1) ++ [k])
  | [] => ⟨fun h => by simp at h, fun _ => rfl⟩
  | e :: B => by
    have ih := addB_keys (k := k) (p := p) (N := N) (B := B)
    unfold addB
    by_cases c : e.1 = k
    · rw [if_pos c]
      exact ⟨fun _ => rfl, fun h => absurd (by rw [List.map_cons, c]; exact List.mem_cons_self) h⟩
    · rw [if_neg c, List.map_cons, List.map_cons]
      refine ⟨fun h => ?_, fun h => ?_⟩
      · rw [ih.1 ((List.mem_cons.mp h).resolve_left fun z => c z.symm)]
      · rw [ih.2 fun z => h (List.mem_cons_of_mem _ z)]
        rfl
theorem addB_mem {k : List Key} {p : Rf} {N : List (Ast × Int)} {x : Rf × List (Ast × Int)} : ∀ {B : BkT} {e : List Key × List (Rf × List (Ast × Int))}, e ∈ addB B k p N → x ∈ e.2 → (∃ f ∈ B, f.1 = e.1 ∧ x ∈ f.2) ∨ (e.1 = k ∧ x = (p, N))
  | [], e, h, hx => by
    rw [List.mem_singleton.mp h] at hx ⊢
    exact .inr ⟨rfl, List.mem_singleton.mp hx⟩
  | f :: B, e, h, hx => by
    unfold addB at h
    split at h
    · rename_i c
      rcases List.mem_cons.mp h with rfl | h
      · rcases List.mem_append.mp hx with hx | hx
        · exact .inl ⟨f, List.mem_cons_self, rfl, hx⟩
        · exact .inr ⟨c, List.mem_singleton.mp hx⟩
      · exact .inl ⟨e, List.mem_cons_of_mem _ h, rfl, hx⟩
    · rcases List.mem_cons.mp h with rfl | h
      · exact .inl ⟨e, List.mem_cons_self, rfl, hx⟩
      · rcases addB_mem h hx with ⟨g, hg, h1, h2⟩ | h
        · exact .inl ⟨g, List.mem_cons_of_mem _ hg, h1, h2⟩
        · exact .inr h
theorem lookM_app {M : MdT} {p r : Rf} {t u : Tr} (h : lookM M r = some u) : lookM (M ++ [(p, t)]) r = some u := by
  induction M with
  | nil => cases h
  | cons y M ih =>
    simp only [List.cons_append, lookM] at h ⊢
    split
    · rename_i c; rw [if_pos c] at h; exact h
    · rename_i c; rw [if_neg c] at h; exact ih h
theorem lookM_new {M : MdT} {p : Rf} {t : Tr} (h : p ∉ M.map (·.1)) : lookM (M ++ [(p, t)]) p = some t := by
  induction M with
  | nil => simp [lookM]
  | cons y M ih =>
    rw [List.map_cons, List.mem_cons, not_or] at h
    simp only [List.cons_append, lookM]
    rw [if_neg fun q => h.1 q.symm]
    exact ih h.2
theorem BM.add {B : BkT} {M : MdT} {p : Rf} {t : Tr} {N : List (Ast × Int)} (h : BM B M) (hp : p ∉ M.map (·.1)) (hl : N.length ≤ 3) (ht : ∀ q, tot N q = tot t.rw q) : BM (addB B t.ad p N) (M ++ [(p, t)]) := by
  refine ⟨?_, ?_, fun e he x hx => ?_⟩
  · rcases Classical.em (t.ad ∈ B.map (·.1)) with n | n
    · rw [addB_keys.1 n]; exact h.nd
    · rw [addB_keys.2 n, List.nodup_append]
      refine ⟨h.nd, by simp, fun a ha b hb => ?_⟩
      rw [List.mem_singleton.mp hb]
      intro q
      exact n (q ▸ ha)
  · rw [List.map_append]
    exact addB_flat.trans (h.pm.append_right _)
  · rcases addB_mem he hx with ⟨f, hf, h1, h2⟩ | ⟨h1, h2⟩
    · obtain ⟨g1, u, g2, g3, g4⟩ := h.pt f hf x h2
      exact ⟨g1, u, lookM_app g2, g3.trans h1, g4⟩
    · subst h2
      exact ⟨hl, t, lookM_new hp, h1.symm, ht⟩
theorem remB_keys {k : List Key} {p : Rf} : ∀ {B : BkT}, (remB B k p).map (·.1) = B.map (·.1)
  | [] => rfl
  | e :: B => by
    unfold remB
    split
    · rfl
    · rw [List.map_cons, remB_keys (B := B), List.map_cons]
theorem remB_len {k : List Key} {p : Rf} {B : BkT} : (remB B k p).length = B.length := by
  have := congrArg List.length (remB_keys (k := k) (p := p) (B := B))
  rwa [List.length_map, List.length_map] at this
theorem filt_refs {p : Rf} : ∀ {L : List (Rf × List (Ast × Int))}, (L.filter fun x => decide (x.1 ≠ p)).map (·.1) = (L.map (·.1)).filter fun r => decide (r ≠ p)
  | [] => rfl
  | x :: L => by
    rw [List.map_cons, List.filter_cons, List.filter_cons]
    split
    · rw [List.map_cons, filt_refs]
    · exact filt_refs
theorem remB_flat {k : List Key} {p : Rf} : ∀ {B : BkT}, (B.map (·.1)).Nodup → (∀ e ∈ B, ∀ x ∈ e.2, x.1 = p → e.1 = k) → flatB (remB B k p) = (flatB B).filter fun r => decide (r ≠ p)
  | [], _, _ => rfl
  | e :: B, hn, h => by
    rw [List.map_cons, List.nodup_cons] at hn
    rw [flatB_cons, List.filter_append]
    have no : ∀ (L : List Rf), (∀ r ∈ L, r ≠ p) → L.filter (fun r => decide (r ≠ p)) = L := fun L hL => List.filter_eq_self.mpr fun r hr => decide_eq_true (hL r hr)
    unfold remB
    by_cases c : e.1 = k
    · rw [if_pos c, flatB_cons, filt_refs, no (flatB B) fun r hr => ?_]
      obtain ⟨l, hl, hr2⟩ := List.mem_flatten.mp hr
      obtain ⟨f, hf, rfl⟩ := List.mem_map.mp hl
      obtain ⟨x, hx, rfl⟩ := List.mem_map.mp hr2
      intro q
      exact hn.1 (by rw [c, ← h f (List.mem_cons_of_mem _ hf) x hx q]; exact List.mem_map_of_mem hf)
    · rw [if_neg c, flatB_cons, remB_flat hn.2 fun f hf => h f (List.mem_cons_of_mem _ hf), no (e.2.map (·.1)) fun r hr => ?_]
      obtain ⟨x, hx, rfl⟩ := List.mem_map.mp hr
      intro q
      exact c (h e List.mem_cons_self x hx q)
theorem remB_mem {k : List Key} {p : Rf} {x : Rf × List (Ast × Int)} : ∀ {B : BkT} {e : List Key × List (Rf × List (Ast × Int))}, (B.map (·.1)).Nodup → e ∈ remB B k p → x ∈ e.2 → (∃ f ∈ B, f.1 = e.1 ∧ x ∈ f.2 ∧ (f.1 = k → x.1 ≠ p))
  | [], _, _, h, _ => by cases h
  | f :: B, e, hn, h, hx => by
    rw [List.map_cons, List.nodup_cons] at hn
    unfold remB at h
    split at h
    · rename_i c
      rcases List.mem_cons.mp h with rfl | h
      · have := List.mem_filter.mp hx
        exact ⟨f, List.mem_cons_self, rfl, this.1, fun _ => of_decide_eq_true this.2⟩
      · refine ⟨e, List.mem_cons_of_mem _ h, rfl, hx, fun q => absurd (by rw [c, ← q]; exact List.mem_map_of_mem h) hn.1⟩
    · rename_i c
      rcases List.mem_cons.mp h with rfl | h
      · exact ⟨e, List.mem_cons_self, rfl, hx, fun q => absurd q c⟩
      · obtain ⟨g, hg, h1, h2, h3⟩ := remB_mem hn.2 h hx
        exact ⟨g, List.mem_cons_of_mem _ hg, h1, h2, h3⟩
theorem lookM_filter {M : MdT} {p r : Rf} (h : r ≠ p) : lookM (M.filter fun e => decide (e.1 ≠ p)) r = lookM M r := by
  induction M with
  | nil => rfl
  | cons y M ih =>
    rw [List.filter_cons]
    split
    · simp only [lookM]
      split
      · rfl
      · exact ih
    · rename_i c
      have c2 : y.1 = p := by simpa using c
      simp only [lookM]
      rw [if_neg fun q => h (q.symm.trans c2)]
      exact ih
theorem mapF {p : Rf} : ∀ {M : MdT}, (M.filter fun e => decide (e.1 ≠ p)).map (·.1) = (M.map (·.1)).filter fun r => decide (r ≠ p)
  | [] => rfl
  | x :: M => by
    rw [List.map_cons, List.filter_cons, List.filter_cons]
    split
    · rw [List.map_cons, mapF]
    · exact mapF
theorem BM.rem {B : BkT} {M : MdT} {p : Rf} {t : Tr} (h : BM B M) (hp : lookM M p = some t) : BM (remB B t.ad p) (M.filter fun e => decide (e.1 ≠ p)) := by
  have at_p : ∀ e ∈ B, ∀ x ∈ e.2, x.1 = p → e.1 = t.ad := fun e he x hx q => by
    obtain ⟨_, u, g2, g3, _⟩ := h.pt e he x hx
    rw [q, hp] at g2
    rw [← g3, Option.some.inj g2]
  refine ⟨by rw [remB_keys]; exact h.nd, ?_, fun e he x hx => ?_⟩
  · rw [remB_flat h.nd at_p, mapF]
    exact h.pm.filter _
  · obtain ⟨f, hf, h1, h2, h3⟩ := remB_mem h.nd he hx
    obtain ⟨g1, u, g2, g3, g4⟩ := h.pt f hf x h2
    have ne : x.1 ≠ p := fun q => h3 (at_p f hf x h2 q) q
    exact ⟨g1, u, by rw [lookM_filter ne]; exact g2, g3.trans h1, g4⟩
theorem ltII_anti {p q : Rf} (h1 : ltII p q = false) (h2 : ltII q p = false) : p = q := by
  have a := ltII_no.mp h1
  have b := ltII_no.mp h2
  have e1 : p.1 = q.1 := by omega
  have e2 : p.2 = q.2 := by omega
  exact Prod.ext e1 e2
theorem srt_uniq {S T : List Rf} (h1 : SrtO.Srtd ltII S) (h2 : SrtO.Srtd ltII T) (p : S.Perm T) : S = T :=
  List.Perm.eq_of_pairwise (fun a b _ _ x y => (ltII_anti x y).symm) h1 h2 p
end Fa

set_option Elab.async false
set_option linter.all false
set_option maxRecDepth 100000
set_option maxHeartbeats 4000000
/-! Dicts of numbers as they are read; a field as a target; a starred item of a tuple. -/
namespace Es
open PySem PySem.Spec PyProof.Rows L2 Bd Dj
/-- o.f as a target -/
def gFld (K : PySem.W.Frag) (to : TE) (f : Str) : TG := fun v σ H Q => to σ H fun x H1 => ∃ a C dx fs, x = .ref a ∧ H1 a = some (.ins C dx fs) ∧ Cls K C ∧ NoAttr K C f ∧ fs.length < 1000 ∧ Q σ (upd H1 a (.ins C dx (putF f v fs)))
theorem pg_fld {X : Cx} {o : Expr} {f : Str} {pos : Pos} {to : TE} (ho : PE X o to) : PG X (.Attribute o f pos) (gFld X.K to f) := by
  refine ⟨fun pins s σ H v u Q I r h => ?_⟩
  refine PySem.W.kas_attr (thn (ho.run pins s σ H _ I h) fun ov s1 ⟨x, H1, I1, rx, a, C, dx, fs, ex, ea, c, n, l, q⟩ => ?_)
  subst ex
  obtain rfl : ov = Value.ref a := rx
  exact setattr_ok I1 ea c n l r fun s3 I3 => ⟨σ, _, I3, q⟩
theorem pa_starK {X : Cx} {K : PySem.W.Frag} {e : Expr} {es : List Expr} {p : Pos} {te : TE} {t : TA} (h : X.K = K) (he : PE X e te) (hr : PA X es t) (hs : starEach (.Starred e p :: es) X.env = (true, eval e X.env) :: starEach es X.env := by rfl) : PA X (.Starred e p :: es) (StX.tStar K te t) := by
  subst h
  exact StX.pa_star he hr hs
theorem pe_fldK {X : Cx} {K : PySem.W.Frag} {o : Expr} {f : Str} {pos : Pos} {ta : TE} (h : X.K = K) (ha : PE X o ta) (hb : attributeBase o f X.env (eval o X.env) = eval o X.env) : PE X (.Attribute o f pos) (tFld K ta f) := by
  subst h
  exact pe_fld ha hb
theorem op_catAK {X : Cx} {K : PySem.W.Frag} (h : X.K = K) : OpR X (binaryOp .Add) (rCatA K) := by
  subst h
  exact op_catA
end Es
namespace Re
open PySem PySem.Spec PyProof.Rows L2 Bd Es Dj
section
variable {K : PySem.W.Frag} {σ : L2.St} {H : Hp} {Q : VK} {td ty tx tv : TE} {n b c : L2.St → Hp → Prop} {r : VK}
theorem dget1S (k : td σ H fun x H1 => ∃ a, x = .ref a ∧ IsD H1 a ∧ ty σ H1 fun y H2 => ∃ o, DGet H2 a y o ∧ Q (o.getD .non) H2) : tDGet1 td ty σ H Q := k
theorem dinS (k : ty σ H fun y H1 => td σ H1 fun x H2 => ∃ a o, x = .ref a ∧ DGet H2 a y o ∧ Q (.bl o.isSome) H2) : tDIn ty td σ H Q := k
theorem dputS (k : tv σ H fun v H1 => td σ H1 fun x H2 => ty σ H2 fun y H3 => ∃ a H4, x = .ref a ∧ DPut H3 a y v H4 ∧ n σ H4) : sDPut td ty tv ⟨n, r, b, c⟩ σ H := k
theorem dpop2S (k : td σ H fun x H1 => ∃ a, x = .ref a ∧ IsD H1 a ∧ ty σ H1 fun y H2 => tx σ H2 fun z H3 => ∃ kvs k, H3 a = some (.dK kvs) ∧ y = kV k ∧
  (∀ v, valV kvs k = some v → Q v (upd H3 a (.dK (L2.dropK kvs k)))) ∧ (valV kvs k = none → Q z H3)) : tDPop2 td ty tx σ H Q := k
theorem ddelS (k : td σ H fun x H1 => ty σ H1 fun y H2 => ∃ a kvs k, x = .ref a ∧ H2 a = some (.dK kvs) ∧ y = kV k ∧ (valV kvs k).isSome = true ∧ n σ (upd H2 a (.dK (L2.dropK kvs k)))) : sDDel td ty ⟨n, r, b, c⟩ σ H := k
theorem gfld {f : Str} {v : V} {Qd : L2.St → Hp → Prop} (k : td σ H fun x H1 => ∃ a C dx fs, x = .ref a ∧ H1 a = some (.ins C dx fs) ∧ Cls K C ∧ NoAttr K C f ∧ fs.length < 1000 ∧ Qd σ (upd H1 a (.ins C dx (putF f v fs)))) : gFld K td f v σ H Qd := k
theorem iVal {R : It → Hp → Prop} (k : td σ H fun x H1 => ∃ d o kvs, x = .ref d ∧ H1 d = some (.frz o (.dK kvs)) ∧ R (Itd d o kvs) H1) : iVals td σ H R := k
theorem isDK {a : Addr} {kvs : List (Key × V)} (h : H a = some (.dK kvs)) : IsD H a := .inl ⟨kvs, .inl h⟩
theorem lockS {t : TS} {d : Addr} {u : HO} (h : H d = some u) (m : Mut (some u)) (k : ∀ od, t ⟨fun σ' H' => H' d = some (.frz od u) ∧ n σ' (upd H' d u), fun v H' => H' d = some (.frz od u) ∧ r v (upd H' d u), fun σ' H' => H' d = some (.frz od u) ∧ b σ' (upd H' d u), fun σ' H' => H' d = some (.frz od u) ∧ c σ' (upd H' d u)⟩ σ (upd H d (.frz od u))) : tLock t ⟨n, r, b, c⟩ σ H := ⟨d, u, h, m, k⟩
/-- for .. in d.values(), d locked -/
theorem forVals {d : Addr} {g0 : Obj} {kvs : List (Key × V)} {g : TG} {tb : TS} (Pv : Nat → L2.St → Hp → Prop) (h : H d = some (.frz g0 (.dK kvs))) (h0 : Pv 0 σ H) (hl : ∀ i σ H', i ≤ kvs.length → Pv i σ H' → H' d = some (.frz g0 (.dK kvs)))
    (hs : ∀ (i : Nat) (k : Key) (x : V) (σ' : L2.St) (H' : Hp), kvs[i]? = some (k, x) → Pv i σ' H' → g x σ' H' fun σ2 H2 => tb ⟨Pv (i + 1), r, n, Pv (i + 1)⟩ σ2 H2) (hd : ∀ σ' H', Pv kvs.length σ' H' → n σ' H') :
    Rd.ForJ g tb ⟨n, r, b, c⟩ σ (Itd d g0 kvs) H := by
  refine ⟨fun i m σ' H' => m = kvs.length - i ∧ i ≤ kvs.length ∧ Pv i σ' H', ⟨kvs.length, by simp, Nat.zero_le _, h0⟩, ?_⟩
  rintro i m σ' H' ⟨rfl, hi, p⟩
  have q := hl i σ' H' hi p
  by_cases hlt : i < kvs.length
  · refine .inr ⟨⟨q, hlt⟩, Pv (i + 1), fun σ2 H2 p' => ⟨kvs.length - (i + 1), by omega, rfl, hlt, p'⟩, ?_⟩
    rintro x H2 ⟨rfl, k, hk⟩
    exact hs i k x σ' _ hk p
  · have e : i = kvs.length := by omega
    subst e
    exact .inl ⟨⟨q, Nat.le_refl _⟩, hd σ' H' p⟩
/-- for .. in enumerate(a list) -/
theorem forEn {a : Addr} {xs : List V} {g : TG} {tb : TS} (Pv : Nat → L2.St → Hp → Prop) (h : SqL K H a xs) (h0 : Pv 0 σ H) (hl : ∀ i σ H', i ≤ xs.length → Pv i σ H' → SqL K H' a xs)
    (hs : ∀ (i : Nat) (x : V) (σ' : L2.St) (H' : Hp) (T : Addr), xs[i]? = some x → Pv i σ' H' → H' T = none → g (.ref T) σ' (upd H' T (.tup [.int (i : Nat), x])) fun σ2 H2 => tb ⟨Pv (i + 1), r, n, Pv (i + 1)⟩ σ2 H2) (hd : ∀ σ' H', Pv xs.length σ' H' → n σ' H') :
    ∃ a' xs', [V.ref a] = [V.ref a'] ∧ SqL K H a' xs' ∧ Rd.ForJ g tb ⟨n, r, b, c⟩ σ (Ite K a') H := by
  refine ⟨a, xs, rfl, h, fun i m σ' H' => m = xs.length - i ∧ i ≤ xs.length ∧ Pv i σ' H', ⟨xs.length, by simp, Nat.zero_le _, h0⟩, ?_⟩
  rintro i m σ' H' ⟨rfl, hi, p⟩
  have q := hl i σ' H' hi p
  by_cases hlt : i < xs.length
  · refine .inr ⟨⟨xs, xs[i], q, by simp [hlt]⟩, Pv (i + 1), fun σ2 H2 p' => ⟨xs.length - (i + 1), by omega, rfl, hlt, p'⟩, ?_⟩
    rintro x H2 ⟨T, x', rfl, hT, rfl, hx⟩
    exact hs i x' σ' H' T (hx xs q) p hT
  · have e : i = xs.length := by omega
    subst e
    exact .inl ⟨⟨xs, q, Nat.le_refl _⟩, hd σ' H' p⟩
/-- (index, (x, y)) of enumerate -/
theorem enp {T z : Addr} {u x y : V} {i j l : Nat} {Qd : L2.St → Hp → Prop} (h : SqT K H T [u, .ref z]) (hz : SqT K H z [x, y]) (k : Qd (((σ.set i (some u)).set j (some x)).set l (some y)) H) : gTup K 2 (gCons (gName i) (gCons (gTup K 2 (gCons (gName j) (gCons (gName l) gNil))) gNil)) (.ref T) σ H Qd :=
  ⟨T, _, rfl, h, rfl, u, [.ref z], rfl, .ref z, [], rfl, ⟨z, _, rfl, hz, rfl, x, [y], rfl, y, [], rfl, rfl, ⟨rfl, k⟩⟩⟩
theorem star {te : TE} {tr : TA} {Q : List V → Hp → Prop} (k : te σ H fun y H1 => ∃ a xs, y = V.ref a ∧ (SqT K H1 a xs ∨ SqL K H1 a xs) ∧ tr σ H1 fun vs H2 => Q (xs ++ vs) H2) : StX.tStar K te tr σ H Q := k
end
end Re

set_option Elab.async false
set_option linter.all false
set_option maxRecDepth 100000
set_option maxHeartbeats 4000000
/-! A state: what stands in the heap of it, and the value that it holds. -/
namespace Fa
open PySem PySem.Spec PyProof.Rows L2 Bd Es Dj Ef Re
theorem kDat_nl : ∀ {a : List Key}, nlAll (a.map kDat) = true
  | [] => rfl
  | .inl _ :: a => by simp only [List.map_cons, nlAll, kDat, nl, Bool.true_and]; exact kDat_nl
  | .inr _ :: a => by simp only [List.map_cons, nlAll, kDat, nl, Bool.true_and]; exact kDat_nl
theorem encTr_nl (t : Tr) : nl (encTr t) = true := by
  have h1 : nlAll (t.rw.map encR) = true := nlMap encR_nl
  have h2 : nlAll (t.dt.map PyData.int) = true := nlMap fun _ => rfl
  simp only [encTr, nl, nlAll, kDat_nl, h1, h2, Bool.and_self]
theorem valV_some {k : List Key} : ∀ {ks : List (List Key × V)}, k ∈ ks.map (·.1) → ∃ v, valV ks k = some v
  | [], h => by simp at h
  | x :: ks, h => by
    by_cases c : x.1 = k
    · exact ⟨_, valV_pos c⟩
    · rw [valV_neg c]
      exact valV_some ((List.mem_cons.mp h).resolve_left fun z => c z.symm)
theorem valV_no {k : List Key} : ∀ {ks : List (List Key × V)}, valV ks k = none → k ∉ ks.map (·.1)
  | [], _ => by simp
  | x :: ks, h => by
    by_cases c : x.1 = k
    · rw [valV_pos c] at h; cases h
    · rw [valV_neg c] at h
      rw [List.map_cons, List.mem_cons, not_or]
      exact ⟨fun z => c z.symm, valV_no h⟩
theorem valV_app {k : List Key} {v : V} : ∀ {ks : List (List Key × V)}, valV ks k = none → valV (ks ++ [(k, v)]) k = some v
  | [], _ => valV_pos rfl
  | x :: ks, h => by
    by_cases c : x.1 = k
    · rw [valV_pos c] at h; cases h
    · rw [valV_neg c] at h
      rw [List.cons_append, valV_neg c]
      exact valV_app h
theorem valV_none {k : List Key} : ∀ {ks : List (List Key × V)}, k ∉ ks.map (·.1) → valV ks k = none
  | [], _ => rfl
  | x :: ks, h => by
    rw [List.map_cons, List.mem_cons, not_or] at h
    rw [valV_neg fun z => h.1 z.symm]
    exact valV_none h.2
/-- a change that can be taken back: what was there before -/
inductive Chg
  | out (r : Rf) (b : Option Tr)
  | acc (k : Int) (b : Option (Int × Int))
  | pot (n : Nat) (v : Int)
  | clk (s e : Int)
  | stk (rows : List (Int × Int))
  | usd (n : Int)
/-- a state's value; n bounds what it may hold -/
structure StM where
  fees : Int
  res : Int
  tre : Int
  slot : Int
  epo : Int
  outs : MdT
  accs : List (Int × (Int × Int))
  stk : List (Int × Int)
  used : List Int
  chg : List Chg
  fgt : Int
  n : Nat
/-- where a state's parts stand -/
structure SA where
  t : Addr
  dx : Addr
  b : Addr
  od : Addr
  ad : Addr
  ud : Addr
  cl : Addr
  d : Addr
  ds : List Addr
  sk : Addr
  z : List Addr
/-- all that a state changes in place -/
def SA.O (A : SA) : List Addr := A.t :: A.b :: A.od :: A.ad :: A.ud :: A.cl :: A.d :: A.ds
/-- and what its outputs keep clear of -/
def SA.V (A : SA) : List Addr := A.O ++ A.z
abbrev stO (K : PySem.W.Frag) (A : SA) (S : StM) : HO := .ins (He.ga K "State") A.dx [(("fees" : Str), .int S.fees), (("reserve" : Str), .int S.res), (("treasury" : Str), .int S.tre), (("slot" : Str), .int S.slot), (("epoch" : Str), .int S.epo), (("books" : Str), .ref A.b), (("_outputs" : Str), .ref A.od), (("_accounts" : Str), .ref A.ad), (("_stakes" : Str), .ref A.sk), (("_used" : Str), .ref A.ud), (("_changes" : Str), .ref A.cl), (("_forgotten" : Str), .int S.fgt)]
/-- a bundle whose parts are none of O -/
def BdO (P : Program) (w : World) (K : PySem.W.Frag) (O : List Addr) (H : Hp) (c : Addr) (N : List (Ast × Int)) : Prop := BdS P w K H c N ∧ ∃ dx d r, H c = some (.ins (He.ga K "Bundle") dx [(("_quantities" : Str), .ref d), (("rows" : Str), .ref r)]) ∧ c ∉ O ∧ d ∉ O
/-- an output whose parts are none of O -/
def OuAt (P : Program) (w : World) (K : PySem.W.Frag) (O : List Addr) (H : Hp) (v : V) (x : Tr) : Prop := ∃ o odx z c dd, v = .ref o ∧ o ∉ O ∧ H o = some (.ins (He.ga K "Output") odx [(("address" : Str), .ref z), (("bundle" : Str), .ref c), (("datum" : Str), .ref dd)]) ∧ SqT K H z (x.ad.map kV) ∧ BdO P w K O H c x.rw ∧ SqT K H dd (x.dt.map V.int)
section
variable {P : Program} {w : World} {K : PySem.W.Frag} {H H' : Hp} {O O' : List Addr}
theorem BdO.fr {c : Addr} {N : List (Ast × Int)} (h : BdO P w K O H c N) (f : Fr K O H H') (g : ∀ x ∈ O', x ∈ O ∨ H x = none) : BdO P w K O' H' c N := by
  obtain ⟨⟨dx, r, d, xs, h1, h2, h3, h4, h5⟩, dx', d', r', h6, nc, nd⟩ := h
  rw [h1] at h6
  have e := (HO.ins.inj (Option.some.inj h6)).2.2
  have ed : d = d' := by injection e with e1 _; injection e1 with _ e2; exact V.ref.inj e2
  subst ed
  have hd : ∃ ys, H d = some (dX P w d ys) := ⟨_, h4.2.choose_spec.1⟩
  have kc := f.keep _ _ nc h1
  refine ⟨⟨dx, r, d, xs, kc, f.tr _ _ h2, f.dpAll (nlMap encR_nl) h3, f.ds nd h4, h5⟩, dx, d, r, kc, fun q => ?_, fun q => ?_⟩
  · rcases g _ q with q | q
    · exact nc q
    · rw [h1] at q; cases q
  · rcases g _ q with q | q
    · exact nd q
    · obtain ⟨ys, hy⟩ := hd
      rw [hy] at q; cases q
theorem OuAt.fr {v : V} {x : Tr} (h : OuAt P w K O H v x) (f : Fr K O H H') (g : ∀ x ∈ O', x ∈ O ∨ H x = none) : OuAt P w K O' H' v x := by
  obtain ⟨o, odx, z, c, dd, h1, h2, h3, h4, h5, h6⟩ := h
  refine ⟨o, odx, z, c, dd, h1, fun q => ?_, f.keep _ _ h2 h3, f.tup _ _ h4, h5.fr f g, f.tup _ _ h6⟩
  rcases g _ q with q | q
  · exact h2 q
  · rw [h3] at q; cases q
theorem OuAt.keep {v : V} {x : Tr} (h : OuAt P w K O H v x) (s : Same H H') : OuAt P w K O H' v x := h.fr (.of s) fun _ q => .inl q
theorem BdO.rows {c : Addr} {N : List (Ast × Int)} (h : BdO P w K O H c N) : BdR K H c N := BdS.bdR h.1
/-- a reference, a pair of numbers -/
abbrev P2At (K : PySem.W.Frag) (H : Hp) (v : V) (p : Int × Int) : Prop := ∃ z, v = .ref z ∧ SqT K H z [.int p.1, .int p.2]
def potName : Nat → Str
  | 0 => "fees"
  | 1 => "reserve"
  | _ => "treasury"
/-- what stands for a change -/
def ChAt (P : Program) (w : World) (K : PySem.W.Frag) (O : List Addr) (H : Hp) (v : V) : Chg → Prop
  | .out r b => ∃ z q u, v = .ref z ∧ SqT K H z [.str "output", .ref q, u] ∧ SqT K H q [.int r.1, .int r.2] ∧ match b with | none => u = .non | some t => OuAt P w K O H u t
  | .acc k b => ∃ z u, v = .ref z ∧ SqT K H z [.str "account", .int k, u] ∧ match b with | none => u = .non | some p => P2At K H u p
  | .pot n x => ∃ z, v = .ref z ∧ SqT K H z [.str "pot", .str (potName n), .int x]
  | .clk s e => ∃ z u, v = .ref z ∧ SqT K H z [.str "clock", .non, u] ∧ P2At K H u (s, e)
  | .stk rows => ∃ z q xs, v = .ref z ∧ SqT K H z [.str "stakes", .non, .ref q] ∧ SqT K H q xs ∧ DpAll K H xs (rows.map encP2)
  | .usd n => ∃ z, v = .ref z ∧ SqT K H z [.str "used", .int n, .bl false]
theorem ChAt.fr {v : V} {c : Chg} (h : ChAt P w K O H v c) (f : Fr K O H H') (g : ∀ x ∈ O', x ∈ O ∨ H x = none) : ChAt P w K O' H' v c := by
  cases c with
  | out r b =>
    obtain ⟨z, q, u, h1, h2, h3, h4⟩ := h
    refine ⟨z, q, u, h1, f.tup _ _ h2, f.tup _ _ h3, ?_⟩
    cases b with
    | none => exact h4
    | some t => exact OuAt.fr h4 f g
  | acc k b =>
    obtain ⟨z, u, h1, h2, h4⟩ := h
    refine ⟨z, u, h1, f.tup _ _ h2, ?_⟩
    cases b with
    | none => exact h4
    | some t =>
      obtain ⟨y, e, hy⟩ := h4
      exact ⟨y, e, f.tup _ _ hy⟩
  | pot n x =>
    obtain ⟨z, h1, h2⟩ := h
    exact ⟨z, h1, f.tup _ _ h2⟩
  | clk s e =>
    obtain ⟨z, u, h1, h2, y, e, hy⟩ := h
    exact ⟨z, u, h1, f.tup _ _ h2, y, e, f.tup _ _ hy⟩
  | stk rows =>
    obtain ⟨z, q, xs, h1, h2, h3, h4⟩ := h
    exact ⟨z, q, xs, h1, f.tup _ _ h2, f.tup _ _ h3, f.dpAll (nlMap encP2_nl) h4⟩
  | usd n =>
    obtain ⟨z, h1, h2⟩ := h
    exact ⟨z, h1, f.tup _ _ h2⟩
/-- an entry of the accounts -/
abbrev AccR (K : PySem.W.Frag) (H : Hp) (x : Key × V) (e : Int × (Int × Int)) : Prop := x.1 = .inl e.1 ∧ P2At K H x.2 e.2
/-- an entry of the outputs -/
abbrev OutR (P : Program) (w : World) (K : PySem.W.Frag) (O : List Addr) (H : Hp) (x : List Key × V) (e : Rf × Tr) : Prop := x.1 = eR e.1 ∧ OuAt P w K O H x.2 e.2
theorem _root_.Fa.BkAt.fr2 {b d : Addr} {ds : List Addr} {B : BkT} (h : BkAt P w K H b d ds B) (f : Fr K O H H') (nb : b ∉ O) (nd : ∀ x ∈ d :: ds, x ∉ O) (nc : ∀ c dx d r, H c = some (.ins (He.ga K "Bundle") dx [(("_quantities" : Str), .ref d), (("rows" : Str), .ref r)]) → c ∉ O) (nt : ∀ a xs, H a = some (.tup xs) → a ∉ O) : BkAt P w K H' b d ds B := by
  obtain ⟨dx, kvs, h1, h2, h3, h4, h5⟩ := h
  refine ⟨dx, kvs, f.keep _ _ nb h1, f.ds (nd _ List.mem_cons_self) h2, h3, h4, rest_keep h5 fun dj L hm q => ?_⟩
  obtain ⟨ks, q1, q2⟩ := q
  have hd : dj ∈ ds := by
    rw [h3] at hm
    obtain ⟨x, hx, ex⟩ := List.mem_map.mp hm
    cases ex
    exact hx
  exact ⟨ks, f.ds (nd _ (List.mem_cons_of_mem _ hd)) q1, Paired.mapP q2 fun _ _ ⟨e, c, e2, q⟩ => ⟨e, c, e2, by
    obtain ⟨dx, d, r, xs, g1, g2, g3⟩ := q
    exact f.bdR (nc _ _ _ _ g1) ⟨dx, d, r, xs, g1, g2, g3⟩ nt⟩⟩
/-- the state at A has the value S -/
structure StAt (P : Program) (w : World) (K : PySem.W.Frag) (H : Hp) (A : SA) (S : StM) (B : BkT) : Prop where
  nd : A.O.Nodup
  t : H A.t = some (stO K A S)
  bk : BkAt P w K H A.b A.d A.ds B
  bm : BM B S.outs
  lb : B.length + S.chg.length ≤ S.n
  lo : S.outs.length + S.chg.length ≤ S.n
  od : ∃ kv, DS P w K H A.od kv ∧ Paired (OutR P w K A.V H) kv S.outs
  ond : (S.outs.map (·.1)).Nodup
  ad : ∃ kv, H A.ad = some (.dK kv) ∧ Paired (AccR K H) kv S.accs
  and_ : (S.accs.map (·.1)).Nodup
  sk : ∃ xs, SqT K H A.sk xs ∧ DpAll K H xs (S.stk.map encP2)
  ud : H A.ud = some (.dK (S.used.map fun n => (.inl n, .bl true)))
  und : S.used.Nodup
  cl : ∃ xs, H A.cl = some (.lst xs) ∧ Paired (ChAt P w K A.V H) xs S.chg
  zl : ∀ x ∈ A.z, H x ≠ none ∧ x ∉ A.O
theorem StAt.inO {A : SA} {S : StM} {B : BkT} (h : StAt P w K H A S B) : ∀ x ∈ A.O, (∀ xs, H x ≠ some (.tup xs)) ∧ (∀ odx (fs : List (Str × V)), fs.length = 2 ∨ fs.length = 3 → ∀ C, H x ≠ some (.ins C odx fs)) := by
  intro x hx
  have nins : ∀ {o : HO}, H x = some o → (∀ xs, o ≠ .tup xs) → (∀ C odx fs, fs.length = 2 ∨ fs.length = 3 → o ≠ .ins C odx fs) → (∀ xs, H x ≠ some (.tup xs)) ∧ (∀ odx (fs : List (Str × V)), fs.length = 2 ∨ fs.length = 3 → ∀ C, H x ≠ some (.ins C odx fs)) := fun {o} e n1 n2 =>
    ⟨fun xs q => n1 xs (Option.some.inj (e.symm.trans q)), fun odx fs l C q => n2 C odx fs l (Option.some.inj (e.symm.trans q))⟩
  simp only [SA.O, List.mem_cons] at hx
  rcases hx with rfl | rfl | rfl | rfl | rfl | rfl | hx
  · exact nins h.t (fun _ z => by cases z) fun _ _ _ l z => by cases z; simp at l
  · obtain ⟨dx, hb⟩ : ∃ dx, H A.b = some (.ins (He.ga K "Books") dx [("_bundles", .ref A.d)]) := by
      obtain ⟨dx, kvs, h1, _⟩ := h.bk
      exact ⟨dx, h1⟩
    exact nins hb (fun _ z => by cases z) fun _ _ _ l z => by cases z; simp at l
  · obtain ⟨kv, h1, _⟩ := h.od
    exact nins h1.2.choose_spec.1 (fun _ z => by cases z) fun _ _ _ l z => by cases z
  · obtain ⟨kv, h1, _⟩ := h.ad
    exact nins h1 (fun _ z => by cases z) fun _ _ _ l z => by cases z
  · exact nins h.ud (fun _ z => by cases z) fun _ _ _ l z => by cases z
  · obtain ⟨kv, h1, _⟩ := h.cl
    exact nins h1 (fun _ z => by cases z) fun _ _ _ l z => by cases z
  · obtain ⟨xs, hx⟩ := h.bk.dic x (List.mem_cons.mpr hx)
    exact nins hx (fun _ z => by cases z) fun _ _ _ l z => by cases z
/-- nothing of the state has changed but what it doesn't own -/
theorem StAt.fr {A : SA} {S : StM} {B : BkT} (h : StAt P w K H A S B) {U : List Addr} (f : Fr K U H H') (n : ∀ x ∈ A.O, x ∉ U) (nb : ∀ c dx fs, fs.length = 2 ∨ fs.length = 3 → ∀ C, H c = some (.ins C dx fs) → c ∉ U) (nt : ∀ x ∈ U, x ∈ A.V ∨ ∀ xs, H x ≠ some (dX P w x xs)) (ntp : ∀ a xs, H a = some (.tup xs) → a ∉ U) (lz : ∀ x ∈ A.z, H' x ≠ none) : StAt P w K H' A S B := by
  have ou : ∀ {v : V} {x : Tr}, OuAt P w K A.V H v x → OuAt P w K A.V H' v x := fun {v x} q => by
    obtain ⟨o, odx, z, c, dd, h1, h2, h3, h4, ⟨⟨bdx, r, d, xs, g1, g2, g3, g4, g5⟩, bdx', d', r', g6, nc, nd'⟩, h6⟩ := q
    have ed : d = d' := by
      rw [g1] at g6
      have e := (HO.ins.inj (Option.some.inj g6)).2.2
      injection e with e1 _
      injection e1 with _ e2
      exact V.ref.inj e2
    subst ed
    have ndU : d ∉ U := fun q => (nt d q).elim nd' fun z => z _ g4.2.choose_spec.1
    refine ⟨o, odx, z, c, dd, h1, h2, f.keep _ _ (nb _ _ _ (.inr rfl) _ h3) h3, f.tup _ _ h4, ⟨⟨bdx, r, d, xs, f.keep _ _ (nb _ _ _ (.inl rfl) _ g1) g1, f.tr _ _ g2, f.dpAll (nlMap encR_nl) g3, f.ds ndU g4, g5⟩, bdx', d, r', f.keep _ _ (nb _ _ _ (.inl rfl) _ g6) g6, nc, nd'⟩, f.tup _ _ h6⟩
  have ch : ∀ {v : V} {c : Chg}, ChAt P w K A.V H v c → ChAt P w K A.V H' v c := fun {v c} q => by
    cases c with
    | out r b =>
      obtain ⟨z, q, u, h1, h2, h3, h4⟩ := q
      refine ⟨z, q, u, h1, f.tup _ _ h2, f.tup _ _ h3, ?_⟩
      cases b with
      | none => exact h4
      | some t => exact ou h4
    | acc k b =>
      obtain ⟨z, u, h1, h2, h4⟩ := q
      refine ⟨z, u, h1, f.tup _ _ h2, ?_⟩
      cases b with
      | none => exact h4
      | some t =>
        obtain ⟨y, e, hy⟩ := h4
        exact ⟨y, e, f.tup _ _ hy⟩
    | pot n x =>
      obtain ⟨z, h1, h2⟩ := q
      exact ⟨z, h1, f.tup _ _ h2⟩
    | clk s e =>
      obtain ⟨z, u, h1, h2, y, e, hy⟩ := q
      exact ⟨z, u, h1, f.tup _ _ h2, y, e, f.tup _ _ hy⟩
    | stk rows =>
      obtain ⟨z, q, xs, h1, h2, h3, h4⟩ := q
      exact ⟨z, q, xs, h1, f.tup _ _ h2, f.tup _ _ h3, f.dpAll (nlMap encP2_nl) h4⟩
    | usd n =>
      obtain ⟨z, h1, h2⟩ := q
      exact ⟨z, h1, f.tup _ _ h2⟩
  have m : ∀ {x : Addr}, x ∈ A.O → x ∉ U := fun q => n _ q
  have mt : A.t ∈ A.O := by simp [SA.O]
  have mb : A.b ∈ A.O := by simp [SA.O]
  have mo : A.od ∈ A.O := by simp [SA.O]
  have ma : A.ad ∈ A.O := by simp [SA.O]
  have mu : A.ud ∈ A.O := by simp [SA.O]
  have mc : A.cl ∈ A.O := by simp [SA.O]
  have md : ∀ x ∈ A.d :: A.ds, x ∈ A.O := fun x hx => by simp only [SA.O, List.mem_cons] at hx ⊢; simp [hx]
  exact { h with
    zl := fun x hx => ⟨lz x hx, (h.zl x hx).2⟩
    t := f.keep _ _ (m mt) h.t
    bk := h.bk.fr2 f (m mb) (fun x hx => m (md x hx)) (fun c dx d r q => nb _ _ _ (.inl rfl) _ q) ntp
    od := by
      obtain ⟨kv, h1, h2⟩ := h.od
      exact ⟨kv, f.ds (m mo) h1, Paired.mapP h2 fun _ _ ⟨e, q⟩ => ⟨e, ou q⟩⟩
    ad := by
      obtain ⟨kv, h1, h2⟩ := h.ad
      exact ⟨kv, f.keep _ _ (m ma) h1, Paired.mapP h2 fun _ _ ⟨e, y, e2, q⟩ => ⟨e, y, e2, f.tup _ _ q⟩⟩
    sk := by
      obtain ⟨xs, h1, h2⟩ := h.sk
      exact ⟨xs, f.tup _ _ h1, f.dpAll (nlMap encP2_nl) h2⟩
    ud := f.keep _ _ (m mu) h.ud
    cl := by
      obtain ⟨xs, h1, h2⟩ := h.cl
      exact ⟨xs, f.keep _ _ (m mc) h1, Paired.mapP h2 fun _ _ q => ch q⟩ }
/-- what of a state stands besides its outputs and books -/
structure StQ (P : Program) (w : World) (K : PySem.W.Frag) (H : Hp) (A : SA) (O : List Addr) (S : StM) : Prop where
  t : H A.t = some (stO K A S)
  ad : ∃ kv, H A.ad = some (.dK kv) ∧ Paired (AccR K H) kv S.accs
  and_ : (S.accs.map (·.1)).Nodup
  sk : ∃ xs, SqT K H A.sk xs ∧ DpAll K H xs (S.stk.map encP2)
  ud : H A.ud = some (.dK (S.used.map fun n => (.inl n, .bl true)))
  und : S.used.Nodup
  cl : ∃ xs, H A.cl = some (.lst xs) ∧ Paired (ChAt P w K O H) xs S.chg
theorem StAt.q {A : SA} {S : StM} {B : BkT} (h : StAt P w K H A S B) : StQ P w K H A A.V S := ⟨h.t, h.ad, h.and_, h.sk, h.ud, h.und, h.cl⟩
theorem StQ.fr {A : SA} {S : StM} {U : List Addr} (h : StQ P w K H A O S) (f : Fr K U H H') (hU : ∀ x ∈ U, x ∈ O) (n : ∀ x ∈ U, x ≠ A.t ∧ x ≠ A.ad ∧ x ≠ A.ud ∧ x ≠ A.cl) (g : ∀ x ∈ O', x ∈ O ∨ H x = none) : StQ P w K H' A O' S := by
  have fO := f.mono hU
  exact {
    t := f.keep _ _ (fun q => (n _ q).1 rfl) h.t
    ad := by
      obtain ⟨kv, h1, h2⟩ := h.ad
      exact ⟨kv, f.keep _ _ (fun q => (n _ q).2.1 rfl) h1, Paired.mapP h2 fun _ _ ⟨e, y, e2, q⟩ => ⟨e, y, e2, f.tup _ _ q⟩⟩
    and_ := h.and_
    sk := by
      obtain ⟨xs, h1, h2⟩ := h.sk
      exact ⟨xs, f.tup _ _ h1, f.dpAll (nlMap encP2_nl) h2⟩
    ud := f.keep _ _ (fun q => (n _ q).2.2.1 rfl) h.ud
    und := h.und
    cl := by
      obtain ⟨xs, h1, h2⟩ := h.cl
      exact ⟨xs, f.keep _ _ (fun q => (n _ q).2.2.2 rfl) h1, Paired.mapP h2 fun _ _ q => q.fr fO g⟩ }
theorem StAt.of {A : SA} {S : StM} {B : BkT} (q : StQ P w K H A A.V S) (nd : A.O.Nodup) (bk : BkAt P w K H A.b A.d A.ds B) (bm : BM B S.outs) (lb : B.length + S.chg.length ≤ S.n) (lo : S.outs.length + S.chg.length ≤ S.n)
    (od : ∃ kv, DS P w K H A.od kv ∧ Paired (OutR P w K A.V H) kv S.outs) (ond : (S.outs.map (·.1)).Nodup) (zl : ∀ x ∈ A.z, H x ≠ none ∧ x ∉ A.O) : StAt P w K H A S B :=
  ⟨nd, q.t, bk, bm, lb, lo, od, ond, q.ad, q.and_, q.sk, q.ud, q.und, q.cl, zl⟩
/-- nothing has changed, there is but more -/
theorem StAt.keep {A : SA} {S : StM} {B : BkT} (h : StAt P w K H A S B) (s : Same H H') : StAt P w K H' A S B :=
  .of (h.q.fr (U := []) (.of s) (by simp) (by simp) fun x q => .inl q) h.nd (BkAt.keep h.bk s) h.bm h.lb h.lo
    (by obtain ⟨kv, h1, h2⟩ := h.od; exact ⟨kv, Es.DS.keep s h1, Paired.mapP h2 fun _ _ ⟨e, q⟩ => ⟨e, q.keep s⟩⟩) h.ond (fun x hx => ⟨fun q => (h.zl x hx).1 (s.free q), (h.zl x hx).2⟩)
/-! reading -/
theorem outs_look {kv : List (List Key × V)} {M : MdT} {p : Rf} : Paired (OutR P w K O H) kv M → (∃ t v, lookM M p = some t ∧ valV kv (eR p) = some v ∧ OuAt P w K O H v t) ∨ (lookM M p = none ∧ valV kv (eR p) = none) := by
  intro h
  induction h with
  | nil => exact .inr ⟨rfl, rfl⟩
  | @cons x e l1 l2 h t ih =>
    by_cases c : e.1 = p
    · exact .inl ⟨e.2, x.2, by simp only [lookM, if_pos c], valV_pos (h.1.trans (by rw [c])), h.2⟩
    · have c2 : ¬ x.1 = eR p := fun z => c (eR_inj (h.1.symm.trans z))
      simp only [lookM, if_neg c]
      rw [valV_neg c2]
      exact ih
theorem outs_keys {kv : List (List Key × V)} {M : MdT} (h : Paired (OutR P w K O H) kv M) : ∃ m : List ((Int × Int) × V), kv = m.map (fun e => (eR e.1, e.2)) ∧ m.map (·.1) = M.map (·.1) := by
  induction h with
  | nil => exact ⟨[], rfl, rfl⟩
  | @cons x e l1 l2 h t ih =>
    obtain ⟨m, h1, h2⟩ := ih
    exact ⟨(e.1, x.2) :: m, by rw [List.map_cons, ← h1, ← h.1], by rw [List.map_cons, List.map_cons, h2]⟩
def lookA : List (Int × (Int × Int)) → Int → Option (Int × Int)
  | [], _ => none
  | x :: M, e => if x.1 = e then some x.2 else lookA M e
theorem accs_look {kv : List (Key × V)} {M : List (Int × (Int × Int))} {k : Int} (h : Paired (AccR K H) kv M) : (∃ t v, lookA M k = some t ∧ valV kv (.inl k) = some v ∧ P2At K H v t) ∨ (lookA M k = none ∧ valV kv (.inl k) = none) := by
  induction h with
  | nil => exact .inr ⟨rfl, rfl⟩
  | @cons x e l1 l2 h t ih =>
    by_cases c : e.1 = k
    · exact .inl ⟨e.2, x.2, by simp only [lookA, if_pos c], valV_pos (h.1.trans (by rw [c])), h.2⟩
    · have c2 : ¬ x.1 = .inl k := fun z => c (Sum.inl.inj (h.1.symm.trans z))
      simp only [lookA, if_neg c]
      rw [valV_neg c2]
      exact ih
theorem accs_keys {kv : List (Key × V)} {M : List (Int × (Int × Int))} (h : Paired (AccR K H) kv M) : kv.map (·.1) = (M.map (·.1)).map Sum.inl := by
  induction h with
  | nil => rfl
  | @cons x e l1 l2 h t ih => rw [List.map_cons, List.map_cons, List.map_cons, ih, h.1]
theorem used_val {U : List Int} {n : Int} : (valV (U.map fun n => ((.inl n : Key), V.bl true)) (.inl n)).isSome = decide (n ∈ U) := by
  induction U with
  | nil => rfl
  | cons u U ih =>
    by_cases c : u = n
    · rw [List.map_cons, valV_pos (by rw [c]), decide_eq_true (by rw [c]; exact List.mem_cons_self)]
      rfl
    · rw [List.map_cons, valV_neg fun z => c (Sum.inl.inj z), ih]
      by_cases m : n ∈ U
      · rw [decide_eq_true m, decide_eq_true (List.mem_cons_of_mem _ m)]
      · rw [decide_eq_false m, decide_eq_false fun q => (List.mem_cons.mp q).elim (fun z => c z.symm) m]
/-- the picture of a state's value -/
def encOu (o : Option Tr) : PyData := (o.map encTr).getD .none
def encAc (k : Int) (o : Option (Int × Int)) : PyData := .tuple [.int k, .int (o.getD (0, 0)).1, .int (o.getD (0, 0)).2]
def PicS (S : StM) (d : PyData) : Prop := ∃ (R : List Rf) (ks us : List Int), SrtO.Srtd ltII R ∧ R.Perm (S.outs.map (·.1)) ∧ ks.Pairwise (· ≤ ·) ∧ ks.Perm (S.accs.map (·.1)) ∧ us.Pairwise (· ≤ ·) ∧ us.Perm S.used ∧
  d = .tuple [.tuple (R.map fun r => .tuple [encP2 r, encOu (lookM S.outs r)]), .tuple (ks.map fun k => encAc k (lookA S.accs k)), .tuple (S.stk.map encP2), .int S.fees, .int S.res, .int S.tre, .int S.slot, .int S.epo, .tuple (us.map .int)]
theorem int_uniq {S T : List Int} (h1 : S.Pairwise (· ≤ ·)) (h2 : T.Pairwise (· ≤ ·)) (p : S.Perm T) : S = T :=
  List.Perm.eq_of_pairwise (fun a b _ _ x y => Int.le_antisymm x y) h1 h2 p
theorem PicS.uniq {S : StM} {d e : PyData} (h : PicS S d) (k : PicS S e) : d = e := by
  obtain ⟨R, ks, us, h1, h2, h3, h4, h5, h6, rfl⟩ := h
  obtain ⟨R', ks', us', k1, k2, k3, k4, k5, k6, rfl⟩ := k
  rw [srt_uniq h1 k1 (h2.trans k2.symm), int_uniq h3 k3 (h4.trans k4.symm), int_uniq h5 k5 (h6.trans k6.symm)]
def accSum : List (Int × (Int × Int)) → Int
  | [] => 0
  | e :: l => e.2.1 + e.2.2 + accSum l
theorem accSum_take {l : List (Int × (Int × Int))} {i : Nat} {e : Int × (Int × Int)} (h : l[i]? = some e) : accSum (l.take (i + 1)) = accSum (l.take i) + (e.2.1 + e.2.2) := by
  induction l generalizing i with
  | nil => simp at h
  | cons x l ih =>
    cases i with
    | zero =>
      simp only [List.getElem?_cons_zero, Option.some.injEq] at h
      subst h
      simp [accSum]
    | succ i =>
      simp only [List.getElem?_cons_succ] at h
      have := ih h
      simp only [List.take_succ_cons, accSum]
      omega
theorem upd_back {d : Addr} {u v : HO} (h : H d = some u) : upd (upd H d v) d u = H := by
  funext a
  by_cases e : a = d
  · rw [e, upd_same, h]
  · rw [upd_ne e, upd_ne e]
theorem encOu_nl (o : Option Tr) : nl (encOu o) = true := by
  cases o with
  | none => rfl
  | some t => exact encTr_nl t
theorem drop_outs {kv : List (List Key × V)} {M : MdT} {p : Rf} (h : Paired (OutR P w K O H) kv M) : Paired (OutR P w K O H) (L2.dropK kv (eR p)) (M.filter fun x => decide (x.1 ≠ p)) := by
  induction h with
  | nil => exact Paired.nil
  | @cons x y ks L h t ih =>
    by_cases c : y.1 = p
    · rw [show L2.dropK (x :: ks) (eR p) = L2.dropK ks (eR p) from List.filter_cons_of_neg (by simp [h.1, c]), List.filter_cons_of_neg (by simp [c])]
      exact ih
    · rw [show L2.dropK (x :: ks) (eR p) = x :: L2.dropK ks (eR p) from List.filter_cons_of_pos (by rw [h.1]; simpa using fun e => c (eR_inj e)), List.filter_cons_of_pos (by simpa using c)]
      exact Paired.cons h ih
theorem valV_someK {k : Key} : ∀ {ks : List (Key × V)}, k ∈ ks.map (·.1) → ∃ v, valV ks k = some v
  | [], h => by simp at h
  | x :: ks, h => by
    by_cases c : x.1 = k
    · exact ⟨_, valV_pos c⟩
    · rw [valV_neg c]
      exact valV_someK ((List.mem_cons.mp h).resolve_left fun z => c z.symm)
theorem lookM_no {M : MdT} {p : Rf} (h : p ∉ M.map (·.1)) : lookM M p = none := by
  induction M with
  | nil => rfl
  | cons y M ih =>
    rw [List.map_cons, List.mem_cons, not_or] at h
    simp only [lookM]
    rw [if_neg fun q => h.1 q.symm]
    exact ih h.2
theorem lookM_yes {M : MdT} {p : Rf} (h : p ∈ M.map (·.1)) : ∃ t, lookM M p = some t := by
  cases q : lookM M p with
  | some t => exact ⟨t, rfl⟩
  | none =>
    exfalso
    induction M with
    | nil => simp at h
    | cons y M ih =>
      simp only [lookM] at q
      split at q
      · cases q
      · rename_i c
        exact ih ((List.mem_cons.mp h).resolve_left fun z => c z.symm) q
def putOut (S : StM) (p : Rf) : Option Tr → StM
  | none => { S with outs := S.outs.filter fun e => decide (e.1 ≠ p) }
  | some t => { S with outs := S.outs ++ [(p, t)] }
theorem BkAt.dict {p b d : Addr} {ds : List Addr} {B : BkT} {ks : List (List Key × Addr × Value)} {o' : HO} (h : BkAt P w K H b d ds B) (hp : H p = some (dX P w p ks)) (n : p ∉ d :: ds) : BkAt P w K (upd H p o') b d ds B :=
  BkAt.fr2 h (Fr.dict hp (List.mem_singleton.mpr rfl)) (fun q => by obtain ⟨dx, _, h1, _⟩ := h; rw [List.mem_singleton.mp q] at h1; exact ins_dX h1 hp) (fun x hx q => n (List.mem_singleton.mp q ▸ hx)) (fun c dx d r hc q => by rw [List.mem_singleton.mp q] at hc; exact ins_dX hc hp) (fun a xs ha q => dX_no hp ha (fun _ z => by cases z) (List.mem_singleton.mp q))
theorem BkAt.ins {b d : Addr} {ds : List Addr} {B : BkT} (h : BkAt P w K H b d ds B) : ∃ dx, H b = some (.ins (He.ga K "Books") dx [("_bundles", .ref d)]) := by
  obtain ⟨dx, kvs, h1, _⟩ := h
  exact ⟨dx, h1⟩
theorem StQ.put {A : SA} {S : StM} {p : Rf} {o : Option Tr} (h : StQ P w K H A O S) : StQ P w K H A O (putOut S p o) := by
  cases o <;> exact ⟨h.t, h.ad, h.and_, h.sk, h.ud, h.und, h.cl⟩
/-- how the parts differ -/
structure SA.Ne (A : SA) : Prop where
  od : A.od ≠ A.t ∧ A.od ≠ A.ad ∧ A.od ≠ A.ud ∧ A.od ≠ A.cl
  odd : A.od ∉ A.d :: A.ds
  dd : ∀ x ∈ A.d :: A.ds, x ≠ A.t ∧ x ≠ A.ad ∧ x ≠ A.ud ∧ x ≠ A.cl
  t : A.t ≠ A.ad ∧ A.t ≠ A.ud ∧ A.t ≠ A.cl ∧ A.t ≠ A.b
  c : A.cl ≠ A.ad ∧ A.cl ≠ A.ud ∧ A.cl ≠ A.b ∧ A.ad ≠ A.ud ∧ A.ad ≠ A.b ∧ A.ud ≠ A.b ∧ A.od ≠ A.b
  bd : A.b ∉ A.d :: A.ds
theorem SA.ne {A : SA} (h : A.O.Nodup) : A.Ne := by
  simp only [SA.O, List.nodup_cons, List.mem_cons, not_or] at h
  obtain ⟨⟨a1, a2, a3, a4, a5, a6, a7⟩, ⟨b1, b2, b3, b4, b5, b6⟩, ⟨c1, c2, c3, c4, c5⟩, ⟨d1, d2, d3, d4⟩, ⟨e1, e2, e3⟩, ⟨f1, f2⟩, g1, g2⟩ := h
  refine ⟨⟨fun z => a2 z.symm, c1, c2, c3⟩, ?_, ?_, ⟨a3, a4, a5, a1⟩, ⟨fun z => d2 z.symm, fun z => e1 z.symm, fun z => b4 z.symm, d1, fun z => b2 z.symm, fun z => b3 z.symm, fun z => b1 z.symm⟩, ?_⟩
  · intro q
    rcases List.mem_cons.mp q with q | q
    · exact c4 q
    · exact c5 q
  · intro x hx
    rcases List.mem_cons.mp hx with rfl | hx
    · exact ⟨fun z => a6 z.symm, fun z => d3 z.symm, fun z => e2 z.symm, fun z => f1 z.symm⟩
    · exact ⟨fun z => a7 (z ▸ hx), fun z => d4 (z ▸ hx), fun z => e3 (z ▸ hx), fun z => f2 (z ▸ hx)⟩
  · intro q
    rcases List.mem_cons.mp q with q | q
    · exact b5 q
    · exact b6 q
theorem SA.nodup {A : SA} {ds' : List Addr} (h : A.O.Nodup) (h2 : (A.d :: ds').Nodup) (h3 : ∀ x ∈ ds', x ∈ A.ds ∨ H x = none) (h4 : ∀ x ∈ [A.t, A.b, A.od, A.ad, A.ud, A.cl, A.d], H x ≠ none) : ({ A with ds := ds' } : SA).O.Nodup := by
  have no : ∀ x ∈ [A.t, A.b, A.od, A.ad, A.ud, A.cl, A.d], x ∉ A.ds → x ∉ ds' := fun x hx hn q => (h3 x q).elim hn fun z => h4 x hx z
  simp only [SA.O, List.nodup_cons, List.mem_cons, not_or] at h h2 ⊢
  obtain ⟨⟨a1, a2, a3, a4, a5, a6, a7⟩, ⟨b1, b2, b3, b4, b5, b6⟩, ⟨c1, c2, c3, c4, c5⟩, ⟨d1, d2, d3, d4⟩, ⟨e1, e2, e3⟩, ⟨f1, f2⟩, g1, g2⟩ := h
  exact ⟨⟨a1, a2, a3, a4, a5, a6, no _ (by simp) a7⟩, ⟨b1, b2, b3, b4, b5, no _ (by simp) b6⟩, ⟨c1, c2, c3, c4, no _ (by simp) c5⟩, ⟨d1, d2, d3, no _ (by simp) d4⟩, ⟨e1, e2, no _ (by simp) e3⟩, ⟨f1, no _ (by simp) f2⟩, h2.1, h2.2⟩
theorem StAt.live {A : SA} {S : StM} {B : BkT} (h : StAt P w K H A S B) : ∀ x ∈ [A.t, A.b, A.od, A.ad, A.ud, A.cl, A.d], H x ≠ none := by
  obtain ⟨dx, hb⟩ := h.bk.ins
  obtain ⟨kv, h1, _⟩ := h.od
  obtain ⟨akv, h2, _⟩ := h.ad
  obtain ⟨cv, h3, _⟩ := h.cl
  obtain ⟨xs, hd⟩ := h.bk.dic A.d List.mem_cons_self
  intro x hx q
  simp only [List.mem_cons, List.not_mem_nil, or_false] at hx
  rcases hx with rfl | rfl | rfl | rfl | rfl | rfl | rfl
  · rw [h.t] at q; cases q
  · rw [hb] at q; cases q
  · rw [h1.2.choose_spec.1] at q; cases q
  · rw [h2] at q; cases q
  · rw [h.ud] at q; cases q
  · rw [h3] at q; cases q
  · rw [hd] at q; cases q
theorem SA.oV {A : SA} : ∀ x ∈ A.O, x ∈ A.V := fun x hx => List.mem_append_left _ hx
theorem SA.dO {A : SA} : ∀ x ∈ A.d :: A.ds, x ∈ A.O := fun x hx => by simp only [SA.O, List.mem_cons] at hx ⊢; simp [hx]
theorem SA.odO {A : SA} : ∀ x ∈ [A.od], x ∈ A.O := fun x hx => by rw [List.mem_singleton.mp hx]; simp [SA.O]
/-- books and outputs changed, the rest as it was -/
theorem StAt.books {A : SA} {S : StM} {B B' : BkT} {ds' : List Addr} {kv' : List (List Key × V)} {p : Rf} {o : Option Tr} {H1 : Hp} {ys : List (List Key × Addr × Value)} (h : StAt P w K H A S B) (e1 : H1 = upd H A.od (dX P w A.od ys)) (hD : DS P w K H1 A.od kv')
    (bk1 : BkAt P w K H1 A.b A.d A.ds B) (hk : ∀ a u, a ∉ A.d :: A.ds → H1 a = some u → H' a = some u) (hds : ∀ x ∈ ds', x ∈ A.ds ∨ H1 x = none) (bk : BkAt P w K H' A.b A.d ds' B') (bm : BM B' (putOut S p o).outs) (lb : B'.length + S.chg.length ≤ S.n) (lo : (putOut S p o).outs.length + S.chg.length ≤ S.n)
    (hP : Paired (OutR P w K A.V H) kv' (putOut S p o).outs) (ond : ((putOut S p o).outs.map (·.1)).Nodup) : Fr K A.O H H' ∧ (∀ x ∈ ds', x ∈ A.ds ∨ H x = none) ∧ StAt P w K H' { A with ds := ds' } (putOut S p o) B' := by
  subst e1
  obtain ⟨kv0, hD0, _⟩ := h.od
  have ne := SA.ne h.nd
  have f1 : Fr K [A.od] H (upd H A.od (dX P w A.od ys)) := Fr.dict hD0.2.choose_spec.1 (List.mem_singleton.mpr rfl)
  have f2 := Fr.books bk1 hk
  have fO := (f1.mono SA.odO).trans (f2.mono SA.dO)
  have hds2 : ∀ x ∈ ds', x ∈ A.ds ∨ H x = none := fun x hx => (hds x hx).imp id fun z => by
    by_cases e : x = A.od
    · rw [e, upd_same] at z; cases z
    · rwa [upd_ne e] at z
  have g : ∀ x ∈ ({ A with ds := ds' } : SA).O, x ∈ A.O ∨ H x = none := fun x hx => by
    simp only [SA.O, List.mem_cons] at hx ⊢
    rcases hx with hx | hx | hx | hx | hx | hx | hx | hx
    · simp [hx]
    · simp [hx]
    · simp [hx]
    · simp [hx]
    · simp [hx]
    · simp [hx]
    · simp [hx]
    · exact (hds2 x hx).imp (fun z => by simp [z]) id
  refine ⟨fO, hds2, ?_⟩
  have gV : ∀ x ∈ ({ A with ds := ds' } : SA).V, x ∈ A.V ∨ H x = none := fun x hx => (List.mem_append.mp hx).elim (fun q => (g x q).imp (SA.oV x) id) fun q => .inl (List.mem_append_right _ q)
  have q1 := (h.q.fr f1 (fun x q => SA.oV x (SA.odO x q)) (fun x hx => by rw [List.mem_singleton.mp hx]; exact ⟨ne.od.1, ne.od.2.1, ne.od.2.2.1, ne.od.2.2.2⟩) (fun x hx => .inl hx) : StQ P w K _ A A.V S)
  have g1 : ∀ x ∈ ({ A with ds := ds' } : SA).V, x ∈ A.V ∨ upd H A.od (dX P w A.od ys) x = none := fun x hx => (gV x hx).imp id fun z => by
    by_cases e : x = A.od
    · rw [e, hD0.2.choose_spec.1] at z; cases z
    · rwa [upd_ne e]
  have q2 := (q1.fr f2 (fun x q => SA.oV x (SA.dO x q)) ne.dd g1 : StQ P w K H' A ({ A with ds := ds' } : SA).V S)
  have q3 : StQ P w K H' { A with ds := ds' } ({ A with ds := ds' } : SA).V (putOut S p o) := by
    have := q2.put (p := p) (o := o)
    exact ⟨this.t, this.ad, this.and_, this.sk, this.ud, this.und, this.cl⟩
  have nd2 : (A.d :: ds').Nodup := by
    obtain ⟨_, _, _, _, _, n, _⟩ := bk
    exact n
  have chn : (putOut S p o).chg = S.chg ∧ (putOut S p o).n = S.n := by cases o <;> exact ⟨rfl, rfl⟩
  refine StAt.of q3 (SA.nodup h.nd nd2 hds2 h.live) bk bm (by rw [chn.1, chn.2]; exact lb) (by rw [chn.1, chn.2]; exact lo) ⟨kv', f2.ds ne.odd hD, Paired.mapP hP fun _ _ ⟨e, q⟩ => ⟨e, q.fr (fO.mono SA.oV) gV⟩⟩ ond (fun x hx => ⟨fun q => (by
    cases z : H x with
    | none => exact (h.zl x hx).1 z
    | some o =>
      rw [fO.keep x o (h.zl x hx).2 z] at q
      cases q), fun q => (g x q).elim (h.zl x hx).2 (h.zl x hx).1⟩)
/-- a state on its first day -/
def stZ (G : List (Int × Int)) (res : Int) : StM := ⟨0, res, 0, 0, 0, G.mapIdx fun i g => ((0, (i : Int)), ⟨[Sum.inr (Rd.S [107, 101, 121]), Sum.inl g.1], [((Rd.S [], 0), g.2)], []⟩), [], [], [], [], 0, G.length⟩
theorem StAt.liveO {A : SA} {S : StM} {B : BkT} (h : StAt P w K H A S B) : ∀ x ∈ A.O, H x ≠ none := fun x hx => by
  by_cases m : x ∈ A.ds
  · obtain ⟨xs, e⟩ := h.bk.dic x (List.mem_cons_of_mem _ m)
    rw [e]; exact fun z => by cases z
  · refine h.live x ?_
    simp only [SA.O, List.mem_cons] at hx
    simp only [List.mem_cons, List.not_mem_nil, or_false]
    rcases hx with h | h | h | h | h | h | h | h
    · simp [h]
    · simp [h]
    · simp [h]
    · simp [h]
    · simp [h]
    · simp [h]
    · simp [h]
    · exact absurd h m
theorem OuAt.new {H0 : Hp} {A : SA} {S : StM} {B : BkT} {o odx z c dd : Addr} {kk : List Key} {N : List (Ast × Int)} {dt : List Int} (h : StAt P w K H0 A S B) (ho : H0 o = none) (hc : H0 c = none) (hd : ∀ d, BdD K H' c d → H0 d = none) (hO : H' o = some (.ins (He.ga K "Output") odx [(("address" : Str), .ref z), (("bundle" : Str), .ref c), (("datum" : Str), .ref dd)])) (hz : SqT K H' z (kk.map kV)) (bd : BdS P w K H' c N) (hw : SqT K H' dd (dt.map V.int)) : OuAt P w K A.V H' (.ref o) ⟨kk, N, dt⟩ := by
  obtain ⟨dx, r, d, xs, h1, h2, h3, h4, h5⟩ := id bd
  have lv : ∀ x ∈ A.V, H0 x ≠ none := fun x hx => (List.mem_append.mp hx).elim (h.liveO x) (fun q => (h.zl x q).1)
  exact ⟨o, odx, z, c, dd, rfl, fun q => lv _ q ho, hO, hz, ⟨bd, dx, d, r, h1, fun q => lv _ q hc, fun q => lv _ q (hd _ ⟨dx, r, h1⟩)⟩, hw⟩
theorem nrm1 {q : Int} (h : 0 < q) : Nrm [((Rd.S [], 0), q)] := ⟨List.pairwise_singleton _ _, by simp, fun e he => by rw [List.mem_singleton.mp he]; show q ≠ 0; omega⟩
theorem mapIdx_take {α β : Type} {f : Nat → α → β} {l : List α} {i : Nat} {x : α} (h : l[i]? = some x) : (l.mapIdx f).take (i + 1) = (l.mapIdx f).take i ++ [f i x] := by
  rw [List.take_add_one, List.getElem?_mapIdx, h]
  rfl
theorem mapIdx_keys {G : List (Int × Int)} {res : Int} : (stZ G res).outs.map (·.1) = (List.range G.length).map fun (i : Nat) => ((0 : Int), (i : Int)) := by
  apply List.ext_getElem?
  intro i
  show ((G.mapIdx fun i g => (((0 : Int), (i : Int)), (⟨[Sum.inr (Rd.S [107, 101, 121]), Sum.inl g.1], [((Rd.S [], 0), g.2)], []⟩ : Tr))).map (·.1))[i]? = _
  rw [List.getElem?_map, List.getElem?_map, List.getElem?_mapIdx]
  by_cases h : i < G.length
  · rw [List.getElem?_range h, List.getElem?_eq_getElem h]; rfl
  · rw [List.getElem?_eq_none (by omega), List.getElem?_eq_none (by rw [List.length_range]; omega)]; rfl
theorem mapIdx_nd {G : List (Int × Int)} {res : Int} : ((stZ G res).outs.map (·.1)).Nodup := by
  rw [mapIdx_keys]
  refine List.pairwise_map.mpr ((List.nodup_range).imp fun {a b} n e => n ?_)
  have := (Prod.mk.inj e).2
  omega
theorem StAt.upto {A : SA} {S : StM} {B : BkT} {m : Nat} (h : StAt P w K H A S B) (hm : S.n ≤ m) : StAt P w K H A { S with n := m } B :=
  ⟨h.nd, h.t, h.bk, h.bm, Nat.le_trans h.lb hm, Nat.le_trans h.lo hm, h.od, h.ond, h.ad, h.and_, h.sk, h.ud, h.und, h.cl, h.zl⟩
/-- more to keep clear of -/
theorem StAt.addZ {A : SA} {S : StM} {B : BkT} {z : List Addr} (h : StAt P w K H A S B) (n : ∀ x ∈ z, H x = none) (s : Same H H') (l : ∀ x ∈ z, H' x ≠ none) : StAt P w K H' { A with z := A.z ++ z } S B := by
  have g : ∀ x ∈ ({ A with z := A.z ++ z } : SA).V, x ∈ A.V ∨ H x = none := fun x hx => by
    have hx2 : x ∈ A.O ++ (A.z ++ z) := hx
    rcases List.mem_append.mp hx2 with q | q
    · exact .inl (List.mem_append_left _ q)
    · rcases List.mem_append.mp q with q | q
      · exact .inl (List.mem_append_right _ q)
      · exact .inr (n x q)
  have h' := h.keep s
  have fs : Fr K A.V H H' := .of s
  exact { nd := h'.nd, t := h'.t, bk := h'.bk, bm := h'.bm, lb := h'.lb, lo := h'.lo, ond := h'.ond, ad := h'.ad, and_ := h'.and_, sk := h'.sk, ud := h'.ud, und := h'.und
          od := by
            obtain ⟨kv, h1, h2⟩ := h.od
            exact ⟨kv, Es.DS.keep s h1, Paired.mapP h2 fun _ _ ⟨e, q⟩ => ⟨e, q.fr fs g⟩⟩
          cl := by
            obtain ⟨xs, h1, h2⟩ := h.cl
            exact ⟨xs, s _ _ h1, Paired.mapP h2 fun _ _ q => q.fr fs g⟩
          zl := fun x hx => (List.mem_append.mp hx).elim (fun q => h'.zl x q) fun q => ⟨l x q, fun r => h.liveO x r (n x q)⟩ }
end
end Fa

set_option Elab.async false
set_option linter.all false
set_option maxRecDepth 100000
set_option maxHeartbeats 4000000
/-! The laws' own state: a dict of dicts and lists, with a state's value. -/
namespace Fa
open PySem PySem.Spec PyProof.Rows L2 Bd Es Dj Ef Re
structure MA where
  m : Addr
  o : Addr
  ac : Addr
  sk : Addr
  pt : Addr
  ck : Addr
  us : Addr
abbrev kO : Key := .inr (Rd.S [111, 117, 116, 112, 117, 116, 115])
abbrev kA : Key := .inr (Rd.S [97, 99, 99, 111, 117, 110, 116, 115])
abbrev kS : Key := .inr (Rd.S [115, 116, 97, 107, 101, 115])
abbrev kP : Key := .inr (Rd.S [112, 111, 116, 115])
abbrev kC : Key := .inr (Rd.S [99, 108, 111, 99, 107])
abbrev kU : Key := .inr (Rd.S [117, 115, 101, 100])
abbrev mdKv (D : MA) : List (Key × V) := [(kO, .ref D.o), (kA, .ref D.ac), (kS, .ref D.sk), (kP, .ref D.pt), (kC, .ref D.ck), (kU, .ref D.us)]
theorem mdV (D : MA) : valV (mdKv D) kO = some (.ref D.o) ∧ valV (mdKv D) kA = some (.ref D.ac) ∧ valV (mdKv D) kS = some (.ref D.sk) ∧ valV (mdKv D) kP = some (.ref D.pt) ∧ valV (mdKv D) kC = some (.ref D.ck) ∧ valV (mdKv D) kU = some (.ref D.us) := by
  have n : kO ≠ kA ∧ kO ≠ kS ∧ kO ≠ kP ∧ kO ≠ kC ∧ kO ≠ kU ∧ kA ≠ kS ∧ kA ≠ kP ∧ kA ≠ kC ∧ kA ≠ kU ∧ kS ≠ kP ∧ kS ≠ kC ∧ kS ≠ kU ∧ kP ≠ kC ∧ kP ≠ kU ∧ kC ≠ kU := by decide +kernel
  obtain ⟨a1, a2, a3, a4, a5, b2, b3, b4, b5, c3, c4, c5, d4, d5, e5⟩ := n
  refine ⟨valV_pos rfl, ?_, ?_, ?_, ?_, ?_⟩
  · rw [valV_neg a1]; exact valV_pos rfl
  · rw [valV_neg a2, valV_neg b2]; exact valV_pos rfl
  · rw [valV_neg a3, valV_neg b3, valV_neg c3]; exact valV_pos rfl
  · rw [valV_neg a4, valV_neg b4, valV_neg c4, valV_neg d4]; exact valV_pos rfl
  · rw [valV_neg a5, valV_neg b5, valV_neg c5, valV_neg d5, valV_neg e5]; exact valV_pos rfl
abbrev MoR (K : PySem.W.Frag) (H : Hp) (x : List Key × V) (e : Rf × Tr) : Prop := x.1 = eR e.1 ∧ Dp K H x.2 (encTr e.2)
/-- the law's own state at D has the value S -/
structure MdS (P : Program) (w : World) (K : PySem.W.Frag) (H : Hp) (D : MA) (S : StM) : Prop where
  m : H D.m = some (.dK (mdKv D))
  outs : ∃ kv, DS P w K H D.o kv ∧ Paired (MoR K H) kv S.outs
  ond : (S.outs.map (·.1)).Nodup
  accs : ∃ kv, H D.ac = some (.dK kv) ∧ Paired (AccR K H) kv S.accs
  and_ : (S.accs.map (·.1)).Nodup
  stk : ∃ xs, SqT K H D.sk xs ∧ DpAll K H xs (S.stk.map encP2)
  pots : H D.pt = some (.lst [.int S.fees, .int S.res, .int S.tre])
  clk : SqT K H D.ck [.int S.slot, .int S.epo]
  used : H D.us = some (.lst (S.used.map V.int))
  und : S.used.Nodup
section
variable {P : Program} {w : World} {K : PySem.W.Frag} {H H' : Hp} {D : MA} {S : StM} {R : V → Prop}
theorem MdS.g {k : Key} {v : V} (h : MdS P w K H D S) (e : valV (mdKv D) k = some v) (q : R v) : ∃ a v, V.ref D.m = .ref a ∧ DGet H a (kV k) (some v) ∧ R v :=
  ⟨D.m, v, rfl, by have := DGet.k (k := k) h.m; rwa [e] at this, q⟩
theorem MdS.gO (h : MdS P w K H D S) (q : R (.ref D.o)) : ∃ a v, V.ref D.m = .ref a ∧ DGet H a (.str (Rd.S [111, 117, 116, 112, 117, 116, 115])) (some v) ∧ R v := h.g (k := kO) (mdV D).1 q
theorem MdS.gA (h : MdS P w K H D S) (q : R (.ref D.ac)) : ∃ a v, V.ref D.m = .ref a ∧ DGet H a (.str (Rd.S [97, 99, 99, 111, 117, 110, 116, 115])) (some v) ∧ R v := h.g (k := kA) (mdV D).2.1 q
theorem MdS.gS (h : MdS P w K H D S) (q : R (.ref D.sk)) : ∃ a v, V.ref D.m = .ref a ∧ DGet H a (.str (Rd.S [115, 116, 97, 107, 101, 115])) (some v) ∧ R v := h.g (k := kS) (mdV D).2.2.1 q
theorem MdS.gP (h : MdS P w K H D S) (q : R (.ref D.pt)) : ∃ a v, V.ref D.m = .ref a ∧ DGet H a (.str (Rd.S [112, 111, 116, 115])) (some v) ∧ R v := h.g (k := kP) (mdV D).2.2.2.1 q
theorem MdS.gC (h : MdS P w K H D S) (q : R (.ref D.ck)) : ∃ a v, V.ref D.m = .ref a ∧ DGet H a (.str (Rd.S [99, 108, 111, 99, 107])) (some v) ∧ R v := h.g (k := kC) (mdV D).2.2.2.2.1 q
theorem MdS.gU (h : MdS P w K H D S) (q : R (.ref D.us)) : ∃ a v, V.ref D.m = .ref a ∧ DGet H a (.str (Rd.S [117, 115, 101, 100])) (some v) ∧ R v := h.g (k := kU) (mdV D).2.2.2.2.2 q
/-- what of D may change -/
def MA.O (D : MA) : List Addr := [D.m, D.o, D.ac, D.pt, D.us]
theorem MdS.fr {U : List Addr} (h : MdS P w K H D S) (f : Fr K U H H') (n : ∀ x ∈ D.O, x ∉ U) : MdS P w K H' D S := by
  have m : ∀ {x : Addr}, x ∈ D.O → x ∉ U := fun q => n _ q
  exact { h with
    m := f.keep _ _ (m (by simp [MA.O])) h.m
    outs := by
      obtain ⟨kv, h1, h2⟩ := h.outs
      exact ⟨kv, f.ds (m (by simp [MA.O])) h1, Paired.mapP h2 fun _ _ ⟨e, q⟩ => ⟨e, f.dp (encTr_nl _) q⟩⟩
    accs := by
      obtain ⟨kv, h1, h2⟩ := h.accs
      exact ⟨kv, f.keep _ _ (m (by simp [MA.O])) h1, Paired.mapP h2 fun _ _ ⟨e, y, e2, q⟩ => ⟨e, y, e2, f.tup _ _ q⟩⟩
    stk := by
      obtain ⟨xs, h1, h2⟩ := h.stk
      exact ⟨xs, f.tup _ _ h1, f.dpAll (nlMap encP2_nl) h2⟩
    pots := f.keep _ _ (m (by simp [MA.O])) h.pots
    clk := f.tup _ _ h.clk
    used := f.keep _ _ (m (by simp [MA.O])) h.used }
theorem MdS.keep (h : MdS P w K H D S) (s : Same H H') : MdS P w K H' D S := h.fr (U := []) (.of s) (by simp)
theorem MdS.live (h : MdS P w K H D S) : ∀ x ∈ D.O, H x ≠ none := fun x hx q => by
  obtain ⟨kv, h1, _⟩ := h.outs
  obtain ⟨av, h2, _⟩ := h.accs
  simp only [MA.O, List.mem_cons, List.not_mem_nil, or_false] at hx
  rcases hx with rfl | rfl | rfl | rfl | rfl
  · rw [h.m] at q; cases q
  · rw [h1.2.choose_spec.1] at q; cases q
  · rw [h2] at q; cases q
  · rw [h.pots] at q; cases q
  · rw [h.used] at q; cases q
theorem mo_look {kv : List (List Key × V)} {M : MdT} {p : Rf} (h : Paired (MoR K H) kv M) : (∃ t v, lookM M p = some t ∧ valV kv (eR p) = some v ∧ Dp K H v (encTr t)) ∨ (lookM M p = none ∧ valV kv (eR p) = none) := by
  induction h with
  | nil => exact .inr ⟨rfl, rfl⟩
  | @cons x e l1 l2 h t ih =>
    by_cases c : e.1 = p
    · exact .inl ⟨e.2, x.2, by simp only [lookM, if_pos c], valV_pos (h.1.trans (by rw [c])), h.2⟩
    · have c2 : ¬ x.1 = eR p := fun z => c (eR_inj (h.1.symm.trans z))
      simp only [lookM, if_neg c]
      rw [valV_neg c2]
      exact ih
theorem mo_keys {kv : List (List Key × V)} {M : MdT} (h : Paired (MoR K H) kv M) : kv.map (·.1) = (M.map (·.1)).map eR := by
  induction h with
  | nil => rfl
  | @cons x e l1 l2 h t ih => rw [List.map_cons, List.map_cons, List.map_cons, ih, h.1]
theorem keysR {ps : List Addr} {ks : List (List Key × V)} {R : List Rf} (h : KeysAt K H ps ks) (e : ks.map (·.1) = R.map eR) : DpAll K H (ps.map V.ref) (R.map encP2) := by
  unfold KeysAt at h
  induction h generalizing R with
  | nil =>
    cases R with
    | nil => exact .nil
    | cons r R => simp at e
  | @cons a b l1 l2 h t ih =>
    cases R with
    | nil => simp at e
    | cons r R =>
      rw [List.map_cons, List.map_cons, List.cons.injEq] at e
      rw [e.1] at h
      exact .cons (.tup (ds := [.int r.1, .int r.2]) h (.cons (.int _) (.cons (.int _) .nil))) (ih e.2)
/-- two values of a state that look the same -/
structure SEq (M S : StM) : Prop where
  fees : M.fees = S.fees
  res : M.res = S.res
  tre : M.tre = S.tre
  slot : M.slot = S.slot
  epo : M.epo = S.epo
  stk : M.stk = S.stk
  outs : M.outs.Perm S.outs
  accs : M.accs.Perm S.accs
  used : M.used.Perm S.used
theorem SEq.refl (S : StM) : SEq S S := ⟨rfl, rfl, rfl, rfl, rfl, rfl, .refl _, .refl _, .refl _⟩
theorem lookM_perm {M N : MdT} (h : M.Perm N) (hn : (M.map (·.1)).Nodup) (p : Rf) : lookM M p = lookM N p := by
  have hN : (N.map (·.1)).Nodup := (h.map _).nodup_iff.mp hn
  cases q : lookM N p with
  | some t => exact lookM_mem (x := (p, t)) hn (h.symm.subset (lookM_in q))
  | none =>
    cases r : lookM M p with
    | none => rfl
    | some t => rw [lookM_mem (x := (p, t)) hN (h.subset (lookM_in r))] at q; cases q
theorem lookA_mem {x : Int × (Int × Int)} : ∀ {M : List (Int × (Int × Int))}, (M.map (·.1)).Nodup → x ∈ M → lookA M x.1 = some x.2
  | [], _, h => by simp at h
  | y :: M, hn, h => by
    rw [List.map_cons, List.nodup_cons] at hn
    rcases List.mem_cons.mp h with rfl | q
    · simp only [lookA, if_true]
    · have c : y.1 ≠ x.1 := fun z => hn.1 (z ▸ List.mem_map_of_mem q)
      simp only [lookA, if_neg c]
      exact lookA_mem hn.2 q
theorem lookA_in {M : List (Int × (Int × Int))} {e : Int} {t : Int × Int} (h : lookA M e = some t) : (e, t) ∈ M := by
  induction M with
  | nil => cases h
  | cons y M ih =>
    simp only [lookA] at h
    split at h
    · rename_i c
      cases h
      rw [← c]; exact List.mem_cons_self
    · exact List.mem_cons_of_mem _ (ih h)
theorem lookA_perm {M N : List (Int × (Int × Int))} (h : M.Perm N) (hn : (M.map (·.1)).Nodup) (p : Int) : lookA M p = lookA N p := by
  have hN : (N.map (·.1)).Nodup := (h.map _).nodup_iff.mp hn
  cases q : lookA N p with
  | some t => exact lookA_mem (x := (p, t)) hn (h.symm.subset (lookA_in q))
  | none =>
    cases r : lookA M p with
    | none => rfl
    | some t => rw [lookA_mem (x := (p, t)) hN (h.subset (lookA_in r))] at q; cases q
theorem PicS.congr {M : StM} {d : PyData} (h : PicS M d) (e : SEq M S) (n1 : (M.outs.map (·.1)).Nodup) (n2 : (M.accs.map (·.1)).Nodup) : PicS S d := by
  obtain ⟨R, ks, us, h1, h2, h3, h4, h5, h6, rfl⟩ := h
  refine ⟨R, ks, us, h1, h2.trans (e.outs.map _), h3, h4.trans (e.accs.map _), h5, h6.trans e.used, ?_⟩
  rw [e.fees, e.res, e.tre, e.slot, e.epo, e.stk]
  have a1 : (fun r => PyData.tuple [encP2 r, encOu (lookM M.outs r)]) = fun r => PyData.tuple [encP2 r, encOu (lookM S.outs r)] := by
    funext r
    rw [lookM_perm e.outs n1]
  have a2 : (fun k => encAc k (lookA M.accs k)) = fun k => encAc k (lookA S.accs k) := by
    funext k
    rw [lookA_perm e.accs n2]
  rw [a1, a2]
/-! the picture as a whole -/
theorem encR_sh {e : Ast × Int} (h : PyData.strOk e.1.1 = true) : Sh 2 (encR e) := Sh.tuple fun d hd => by
  simp only [List.mem_cons, List.not_mem_nil, or_false] at hd
  rcases hd with rfl | rfl
  · refine Sh.tuple fun d hd => ?_
    simp only [List.mem_cons, List.not_mem_nil, or_false] at hd
    rcases hd with rfl | rfl
    · exact .str _ h
    · exact .int _ _
  · exact .int _ _
theorem encTr_sh {t : Tr} (h1 : OkR t.rw) (h2 : AdOk t.ad) : Sh 4 (encTr t) := Sh.tuple fun d hd => by
  simp only [List.mem_cons, List.not_mem_nil, or_false] at hd
  rcases hd with rfl | rfl | rfl
  · refine (Sh.tuple (n := 1) fun d hd => ?_).mono (by decide)
    obtain ⟨k, hk, rfl⟩ := List.mem_map.mp hd
    cases k with
    | inl i => exact .int _ _
    | inr s => exact .str _ (h2.2 s hk)
  · refine Sh.tuple fun d hd => ?_
    obtain ⟨e, he, rfl⟩ := List.mem_map.mp hd
    exact encR_sh (h1 e he)
  · refine (Sh.tuple (n := 1) fun d hd => ?_).mono (by decide)
    obtain ⟨k, hk, rfl⟩ := List.mem_map.mp hd
    exact .int _ _
theorem kDat_nd : ∀ {a : List Key}, ndAll (a.map kDat) = true
  | [] => rfl
  | .inl _ :: a => by simp only [List.map_cons, ndAll, kDat, nd, Bool.true_and]; exact kDat_nd
  | .inr _ :: a => by simp only [List.map_cons, ndAll, kDat, nd, Bool.true_and]; exact kDat_nd
theorem encTr_nd (t : Tr) : nd (encTr t) = true := by
  have h1 : ndAll (t.rw.map encR) = true := ndMap encR_nd
  have h2 : ndAll (t.dt.map PyData.int) = true := ndMap fun _ => rfl
  simp only [encTr, nd, ndAll, kDat_nd, h1, h2, Bool.and_self]
/-- the texts of the outputs are good ones -/
def OkM (M : MdT) : Prop := ∀ e ∈ M, OkR e.2.rw ∧ AdOk e.2.ad
theorem encOu_sh {M : MdT} (h : OkM M) (r : Rf) : Sh 4 (encOu (lookM M r)) := by
  cases q : lookM M r with
  | none => exact .none _
  | some t => exact encTr_sh (h _ (lookM_in q)).1 (h _ (lookM_in q)).2
theorem encOu_nd (o : Option Tr) : nd (encOu o) = true := by
  cases o with
  | none => rfl
  | some t => exact encTr_nd t
theorem ndT {ds : List PyData} (h : ∀ d ∈ ds, nd d = true) : nd (.tuple ds) = true := by simp only [nd]; exact ndAll_mem.mpr h
theorem encP2_sh1 (p : Rf) (n : Nat) : Sh (n + 1) (encP2 p) := Sh.tuple fun d hd => by
  rcases List.mem_cons.mp hd with rfl | hd
  · exact .int _ _
  · rw [List.mem_singleton.mp hd]; exact .int _ _
theorem PicS.sh {d : PyData} (h : PicS S d) (ok : OkM S.outs) : SeqAt.shaped d = true ∧ nd d = true := by
  obtain ⟨R, ks, us, _, _, _, _, _, _, rfl⟩ := h
  constructor
  · refine (Sh.tuple (n := 6) fun d hd => ?_).shaped (by decide)
    simp only [List.mem_cons, List.not_mem_nil, or_false] at hd
    rcases hd with rfl | rfl | rfl | rfl | rfl | rfl | rfl | rfl | rfl
    · refine Sh.tuple fun d hd => ?_
      obtain ⟨r, _, rfl⟩ := List.mem_map.mp hd
      refine Sh.tuple fun d hd => ?_
      simp only [List.mem_cons, List.not_mem_nil, or_false] at hd
      rcases hd with rfl | rfl
      · exact encP2_sh1 _ _
      · exact encOu_sh ok r
    · refine Sh.tuple fun d hd => ?_
      obtain ⟨r, _, rfl⟩ := List.mem_map.mp hd
      refine Sh.tuple fun d hd => ?_
      simp only [List.mem_cons, List.not_mem_nil, or_false] at hd
      rcases hd with rfl | rfl | rfl <;> exact .int _ _
    · refine Sh.tuple fun d hd => ?_
      obtain ⟨r, _, rfl⟩ := List.mem_map.mp hd
      exact encP2_sh1 _ _
    · exact .int _ _
    · exact .int _ _
    · exact .int _ _
    · exact .int _ _
    · exact .int _ _
    · refine Sh.tuple fun d hd => ?_
      obtain ⟨r, _, rfl⟩ := List.mem_map.mp hd
      exact .int _ _
  · refine ndT fun d hd => ?_
    simp only [List.mem_cons, List.not_mem_nil, or_false] at hd
    rcases hd with rfl | rfl | rfl | rfl | rfl | rfl | rfl | rfl | rfl
    · refine ndT fun d hd => ?_
      obtain ⟨r, _, rfl⟩ := List.mem_map.mp hd
      refine ndT fun d hd => ?_
      simp only [List.mem_cons, List.not_mem_nil, or_false] at hd
      rcases hd with rfl | rfl
      · rfl
      · exact encOu_nd _
    · refine ndT fun d hd => ?_
      obtain ⟨r, _, rfl⟩ := List.mem_map.mp hd
      rfl
    · refine ndT fun d hd => ?_
      obtain ⟨r, _, rfl⟩ := List.mem_map.mp hd
      rfl
    · rfl
    · rfl
    · rfl
    · rfl
    · rfl
    · refine ndT fun d hd => ?_
      obtain ⟨r, _, rfl⟩ := List.mem_map.mp hd
      rfl
theorem StAt.list {A : SA} {B : BkT} {p : Addr} {l l' : List V} (h : StAt P w K H A S B) (hp : H p = some (.lst l)) (n : p ∉ A.O) : StAt P w K (upd H p (.lst l')) A S B :=
  h.fr (Fr.list hp (List.mem_singleton.mpr rfl)) (fun x hx q => n (List.mem_singleton.mp q ▸ hx)) (fun c dx fs _ C e q => by rw [List.mem_singleton.mp q, hp] at e; cases e)
    (fun x hx => .inr fun xs e => by rw [List.mem_singleton.mp hx, hp] at e; cases e) (fun a xs e q => by rw [List.mem_singleton.mp q, hp] at e; cases e)
    (fun x hx q => by
      by_cases e : x = p
      · rw [e, upd_same] at q; cases q
      · rw [upd_ne e] at q; exact (h.zl x hx).1 q)
theorem MdS.list {p : Addr} {l : List V} {o : HO} (h : MdS P w K H D S) (hp : H p = some (.lst l)) (n : p ∉ D.O) : MdS P w K (upd H p o) D S :=
  h.fr (Fr.list hp (List.mem_singleton.mpr rfl)) (fun x hx q => n (List.mem_singleton.mp q ▸ hx))
theorem stZ_ok {G : List (Int × Int)} {res : Int} : OkM (stZ G res).outs := fun e he => by
  obtain ⟨i, hi, rfl⟩ := List.mem_mapIdx.mp he
  exact ⟨fun x hx => by rw [List.mem_singleton.mp hx]; exact strOk_S (by simp), adI (strOk_S (by decide))⟩
theorem stZ_look {G : List (Int × Int)} {res : Int} {i : Nat} {g : Int × Int} (h : G[i]? = some g) : lookM (stZ G res).outs (0, (i : Int)) = some ⟨[Sum.inr (Rd.S [107, 101, 121]), Sum.inl g.1], [((Rd.S [], 0), g.2)], []⟩ := by
  refine lookM_mem (x := (((0 : Int), (i : Int)), _)) mapIdx_nd (List.mem_iff_getElem?.mpr ⟨i, ?_⟩)
  show (G.mapIdx _)[i]? = _
  rw [List.getElem?_mapIdx, h]
  rfl
theorem keys_srt (n : Nat) : SrtO.Srtd ltII ((List.range n).map fun (i : Nat) => ((0 : Int), (i : Int))) := by
  refine List.pairwise_map.mpr (List.pairwise_lt_range.imp fun {a b} h => ?_)
  exact ltII_no.mpr fun z => by
    rcases z with z | z
    · simp at z
    · have := z.2
      simp only at this
      omega
def sumG (G : List (Int × Int)) : Int := (G.map (·.2)).sum
theorem sumG_take {G : List (Int × Int)} {i : Nat} {g : Int × Int} (h : G[i]? = some g) : sumG (G.take (i + 1)) = sumG (G.take i) + g.2 := by
  unfold sumG
  rw [List.take_add_one, h]
  simp
theorem stZ_tot {G : List (Int × Int)} {res : Int} (p : Ast) : tot (sumR (stZ G res).outs ((stZ G res).outs.map (·.1))) p = tot [((Rd.S [], 0), sumG G)] p := by
  rw [sumR_tot, List.map_map]
  have e1 : (stZ G res).outs.map ((fun e => tot (((lookM (stZ G res).outs e).map (·.rw)).getD []) p) ∘ (·.1)) = (stZ G res).outs.map fun x => tot x.2.rw p :=
    List.map_congr_left fun x hx => by simp only [Function.comp, lookM_mem mapIdx_nd hx, Option.map_some, Option.getD_some]
  rw [e1]
  have e2 : ((stZ G res).outs.map fun x => tot x.2.rw p) = G.map fun g => tot [((Rd.S [], 0), g.2)] p := by
    apply List.ext_getElem?
    intro i
    show ((G.mapIdx _).map _)[i]? = _
    rw [List.getElem?_map, List.getElem?_map, List.getElem?_mapIdx]
    cases G[i]? <;> rfl
  rw [e2]
  unfold sumG
  clear e1 e2
  induction G with
  | nil => simp [tot]
  | cons g G ih =>
    simp only [List.map_cons, List.sum_cons, tot] at ih ⊢
    rw [ih]
    split <;> omega
theorem tot_add {q p : Ast} {x y : Int} : tot [(q, x)] p + tot [(q, y)] p = tot [(q, x + y)] p := by
  by_cases h : q = p <;> simp [tot, h]
theorem tot_zero {q p : Ast} : tot [(q, (0 : Int))] p = 0 := by
  by_cases h : q = p <;> simp [tot, h]
end
end Fa

set_option Elab.async false
set_option linter.all false
set_option maxRecDepth 100000
set_option maxHeartbeats 4000000
/-! Changes of a state, made and taken back. -/
namespace Fa
open PySem PySem.Spec PyProof.Rows L2 Bd Es Dj Ef Re
/-- what a change puts in the place of what is there -/
inductive Act
  | out (p : Rf) (o : Option Tr)
  | acc (k : Int) (o : Option (Int × Int))
  | pot (n : Nat) (v : Int)
  | clk (s e : Int)
  | stk (rows : List (Int × Int))
  | use (n : Int) (b : Bool)
def setA (l : List (Int × (Int × Int))) (k : Int) : Option (Int × Int) → List (Int × (Int × Int))
  | none => l.filter fun e => decide (e.1 ≠ k)
  | some q => if (l.any fun e => decide (e.1 = k)) = true then l.map (fun e => if e.1 = k then (e.1, q) else e) else l ++ [(k, q)]
def potV (S : StM) : Nat → Int
  | 0 => S.fees
  | 1 => S.res
  | _ => S.tre
def putPot (S : StM) (v : Int) : Nat → StM
  | 0 => { S with fees := v }
  | 1 => { S with res := v }
  | _ => { S with tre := v }
def putA (S : StM) : Act → StM
  | .out p o => putOut S p o
  | .acc k o => { S with accs := setA S.accs k o }
  | .pot n v => putPot S v n
  | .clk s e => { S with slot := s, epo := e }
  | .stk rows => { S with stk := rows }
  | .use n true => { S with used := S.used ++ [n] }
  | .use n false => { S with used := S.used.filter fun x => decide (x ≠ n) }
/-- what was there -/
def befA (S : StM) : Act → Chg
  | .out p _ => .out p (lookM S.outs p)
  | .acc k _ => .acc k (lookA S.accs k)
  | .pot n _ => .pot n (potV S n)
  | .clk _ _ => .clk S.slot S.epo
  | .stk _ => .stk S.stk
  | .use n _ => .usd n
def logA (S : StM) (c : Chg) : StM := { S with chg := S.chg ++ [c] }
/-- a change: noted, and made -/
def doA (S : StM) (a : Act) : StM := putA (logA S (befA S a)) a
/-- what takes a change back -/
def undo : Chg → Act
  | .out p o => .out p o
  | .acc k o => .acc k o
  | .pot n v => .pot n v
  | .clk s e => .clk s e
  | .stk rows => .stk rows
  | .usd n => .use n false
def kindA : Act → Str
  | .out _ _ => "output"
  | .acc _ _ => "account"
  | .pot _ _ => "pot"
  | .clk _ _ => "clock"
  | .stk _ => "stakes"
  | .use _ _ => "used"
/-- the item and what is put there -/
def ActAt (P : Program) (w : World) (K : PySem.W.Frag) (O : List Addr) (H : Hp) (it v : V) : Act → Prop
  | .out p o => (∃ r, it = .ref r ∧ SqT K H r [.int p.1, .int p.2]) ∧ match o with | none => v = .non | some t => OuAt P w K O H v t
  | .acc k o => it = .int k ∧ match o with | none => v = .non | some q => P2At K H v q
  | .pot n x => n < 3 ∧ it = .str (potName n) ∧ v = .int x
  | .clk s e => it = .non ∧ P2At K H v (s, e)
  | .stk rows => it = .non ∧ ∃ q xs, v = .ref q ∧ SqT K H q xs ∧ DpAll K H xs (rows.map encP2)
  | .use n b => it = .int n ∧ v = .bl b
/-- what a change needs -/
def OkA (B : BkT) (S : StM) : Act → Prop
  | .out p none => p ∈ S.outs.map (·.1) ∧ B.length + S.chg.length + 1 ≤ S.n ∧ S.outs.length + S.chg.length + 1 ≤ S.n
  | .out p (some t) => p ∉ S.outs.map (·.1) ∧ t.rw.length ≤ 3 ∧ B.length + S.chg.length + 1 ≤ S.n ∧ S.outs.length + S.chg.length + 1 ≤ S.n
  | .use n true => n ∉ S.used
  | .use n false => n ∈ S.used
  | _ => True
section
variable {P : Program} {w : World} {K : PySem.W.Frag} {H H' : Hp} {O O' : List Addr}
theorem setA_some {l : List (Int × (Int × Int))} {k : Int} {q : Int × Int} : setA l k (some q) = if (l.any fun e => decide (e.1 = k)) = true then l.map (fun e => if e.1 = k then (e.1, q) else e) else l ++ [(k, q)] := rfl
theorem setA_keys {l : List (Int × (Int × Int))} {k : Int} {o : Option (Int × Int)} (h : (l.map (·.1)).Nodup) : ((setA l k o).map (·.1)).Nodup := by
  cases o with
  | none => exact List.Nodup.sublist ((List.filter_sublist (l := l)).map _) h
  | some q =>
    rw [setA_some]
    split
    · rw [List.map_map, show ((·.1) ∘ fun e : Int × (Int × Int) => if e.1 = k then (e.1, q) else e) = (·.1) from funext fun e => by
        show (if e.1 = k then (e.1, q) else e).1 = e.1
        split <;> rfl]
      exact h
    · rename_i c
      rw [List.map_append, List.nodup_append]
      refine ⟨h, by simp, fun a ha b hb => ?_⟩
      rw [List.map_singleton, List.mem_singleton] at hb
      subst hb
      intro e
      obtain ⟨x, hx, ex⟩ := List.mem_map.mp ha
      exact c (List.any_eq_true.mpr ⟨x, hx, by simp [ex, e]⟩)
theorem drop_accs {kv : List (Key × V)} {M : List (Int × (Int × Int))} {k : Int} (h : Paired (AccR K H) kv M) : Paired (AccR K H) (L2.dropK kv (.inl k)) (setA M k none) := by
  unfold setA
  induction h with
  | nil => exact Paired.nil
  | @cons x y ks L h t ih =>
    by_cases c : y.1 = k
    · rw [show L2.dropK (x :: ks) (.inl k) = L2.dropK ks (.inl k) from List.filter_cons_of_neg (by simp [h.1, c]), List.filter_cons_of_neg (by simp [c])]
      exact ih
    · rw [show L2.dropK (x :: ks) (.inl k) = x :: L2.dropK ks (.inl k) from List.filter_cons_of_pos (by rw [h.1]; simpa using c), List.filter_cons_of_pos (by simpa using c)]
      exact Paired.cons h ih
theorem any_accs {kv : List (Key × V)} {M : List (Int × (Int × Int))} {k : Int} (h : Paired (AccR K H) kv M) : (kv.any fun e => decide (e.1 = (.inl k : Key))) = M.any fun e => decide (e.1 = k) := by
  induction h with
  | nil => rfl
  | @cons x y ks L h t ih =>
    rw [List.any_cons, List.any_cons, ih, h.1]
    congr 1
    simp
theorem put_accs {kv : List (Key × V)} {M : List (Int × (Int × Int))} {k : Int} {v : V} {q : Int × Int} (h : Paired (AccR K H) kv M) (hv : P2At K H v q) : Paired (AccR K H) (putK kv (.inl k) v) (setA M k (some q)) := by
  rw [setA_some]
  unfold putK
  rw [any_accs h]
  split
  · rename_i c
    clear c
    induction h with
    | nil => exact Paired.nil
    | @cons x y ks L h t ih =>
      refine Paired.cons ?_ ih
      by_cases c : y.1 = k
      · show AccR K H (if x.1 = .inl k then (x.1, v) else x) (if y.1 = k then (y.1, q) else y)
        rw [if_pos (by rw [h.1, c]), if_pos c]
        exact ⟨h.1, hv⟩
      · show AccR K H (if x.1 = .inl k then (x.1, v) else x) (if y.1 = k then (y.1, q) else y)
        rw [if_neg (by rw [h.1]; simpa using c), if_neg c]
        exact h
  · exact Paired.snoc h ⟨rfl, hv⟩
theorem StAt.frp {A : SA} {S : StM} {B : BkT} {p : Addr} {o : HO} (h : StAt P w K H A S B) (hp : p ∈ [A.t, A.ad, A.ud, A.cl]) : Fr K [p] H (upd H p o) := by
  have m : p ∈ [p] := List.mem_singleton.mpr rfl
  simp only [List.mem_cons, List.not_mem_nil, or_false] at hp
  rcases hp with rfl | rfl | rfl | rfl
  · exact Fr.ins h.t m
  · obtain ⟨kv, h1, _⟩ := h.ad
    exact Fr.dk h1 m
  · exact Fr.dk h.ud m
  · obtain ⟨xs, h1, _⟩ := h.cl
    exact Fr.list h1 m
/-- one of the parts that are neither books nor outputs has changed -/
theorem StAt.qup {A : SA} {S S' : StM} {B : BkT} {sk' p : Addr} {o : HO} (h : StAt P w K H A S B) (hp : p ∈ [A.t, A.ad, A.ud, A.cl]) (q : StQ P w K (upd H p o) { A with sk := sk' } A.V S') (ho : S'.outs = S.outs) (lb : B.length + S'.chg.length ≤ S'.n) (lo : S'.outs.length + S'.chg.length ≤ S'.n) :
    Fr K A.O H (upd H p o) ∧ StAt P w K (upd H p o) { A with sk := sk' } S' B := by
  have f := h.frp (o := o) hp
  have ne := SA.ne h.nd
  have pO : ∀ x ∈ [p], x ∈ A.O := fun x hx => by
    rw [List.mem_singleton.mp hx]
    simp only [List.mem_cons, List.not_mem_nil, or_false] at hp
    rcases hp with rfl | rfl | rfl | rfl <;> simp [SA.O]
  have pi := h.inO p (pO p (List.mem_singleton.mpr rfl))
  have nb : A.b ∉ [p] := fun z => by
    have z := List.mem_singleton.mp z
    simp only [List.mem_cons, List.not_mem_nil, or_false] at hp
    rcases hp with rfl | rfl | rfl | rfl
    · exact ne.t.2.2.2 z.symm
    · exact ne.c.2.2.2.2.1 z.symm
    · exact ne.c.2.2.2.2.2.1 z.symm
    · exact ne.c.2.2.1 z.symm
  have nod : A.od ∉ [p] := fun z => by
    have z := List.mem_singleton.mp z
    simp only [List.mem_cons, List.not_mem_nil, or_false] at hp
    rcases hp with rfl | rfl | rfl | rfl
    · exact ne.od.1 z
    · exact ne.od.2.1 z
    · exact ne.od.2.2.1 z
    · exact ne.od.2.2.2 z
  have nd : ∀ x ∈ A.d :: A.ds, x ∉ [p] := fun x hx z => by
    have z := List.mem_singleton.mp z
    have := ne.dd x hx
    simp only [List.mem_cons, List.not_mem_nil, or_false] at hp
    rcases hp with rfl | rfl | rfl | rfl
    · exact this.1 z
    · exact this.2.1 z
    · exact this.2.2.1 z
    · exact this.2.2.2 z
  have fV : Fr K A.V H (upd H p o) := f.mono fun x hx => SA.oV x (pO x hx)
  refine ⟨f.mono pO, StAt.of q h.nd (h.bk.fr2 f nb nd (fun c dx d r q z => ?_) fun a xs e z => ?_) (by rw [ho]; exact h.bm) lb lo ?_ (by rw [ho]; exact h.ond) fun x hx => ⟨fun z => ?_, (h.zl x hx).2⟩⟩
  · rw [List.mem_singleton.mp z] at q
    exact pi.2 _ _ (.inl rfl) _ q
  · rw [List.mem_singleton.mp z] at e
    exact pi.1 _ e
  · obtain ⟨kv, h1, h2⟩ := h.od
    rw [ho]
    exact ⟨kv, f.ds nod h1, Paired.mapP h2 fun _ _ ⟨e, q⟩ => ⟨e, q.fr fV fun x hx => .inl hx⟩⟩
  · have hx2 : x ≠ p := fun e => (h.zl x hx).2 (e ▸ pO p (List.mem_singleton.mpr rfl))
    rw [upd_ne hx2] at z
    exact (h.zl x hx).1 z
/-- what of these parts stays -/
theorem StAt.mv {A : SA} {S : StM} {B : BkT} {p : Addr} {o : HO} (h : StAt P w K H A S B) (hp : p ∈ [A.t, A.ad, A.ud, A.cl]) :
    (∀ {kv M}, Paired (AccR K H) kv M → Paired (AccR K (upd H p o)) kv M) ∧ (∀ {v q}, P2At K H v q → P2At K (upd H p o) v q) ∧ (∀ {sk} {rows : List (Int × Int)}, (∃ xs, SqT K H sk xs ∧ DpAll K H xs (rows.map encP2)) → ∃ xs, SqT K (upd H p o) sk xs ∧ DpAll K (upd H p o) xs (rows.map encP2)) ∧ (∀ {v c}, ChAt P w K A.V H v c → ChAt P w K A.V (upd H p o) v c) := by
  have f := h.frp (o := o) hp
  have fV : Fr K A.V H (upd H p o) := f.mono fun x hx => SA.oV x (by
    rw [List.mem_singleton.mp hx]
    simp only [List.mem_cons, List.not_mem_nil, or_false] at hp
    rcases hp with rfl | rfl | rfl | rfl <;> simp [SA.O])
  refine ⟨fun q => Paired.mapP q fun _ _ ⟨e, y, e2, q⟩ => ⟨e, y, e2, f.tup _ _ q⟩, fun ⟨y, e, q⟩ => ⟨y, e, f.tup _ _ q⟩, fun ⟨xs, a, b⟩ => ⟨xs, f.tup _ _ a, f.dpAll (nlMap encP2_nl) b⟩, fun q => q.fr fV fun x hx => .inl hx⟩
theorem StAt.upT {A : SA} {S S' : StM} {B : BkT} {sk' : Addr} (h : StAt P w K H A S B) (e : S'.outs = S.outs ∧ S'.accs = S.accs ∧ S'.used = S.used ∧ S'.chg = S.chg ∧ S'.n = S.n) (hs : ∃ xs, SqT K H sk' xs ∧ DpAll K H xs (S'.stk.map encP2)) :
    Fr K A.O H (upd H A.t (stO K { A with sk := sk' } S')) ∧ StAt P w K (upd H A.t (stO K { A with sk := sk' } S')) { A with sk := sk' } S' B := by
  have ne := SA.ne h.nd
  have hp : A.t ∈ [A.t, A.ad, A.ud, A.cl] := by simp
  obtain ⟨m1, m2, m3, m4⟩ := h.mv (o := stO K { A with sk := sk' } S') hp
  obtain ⟨e1, e2, e3, e4, e5⟩ := e
  obtain ⟨kv, a1, a2⟩ := h.ad
  obtain ⟨xs, c1, c2⟩ := h.cl
  refine h.qup hp ⟨upd_same, ⟨kv, (upd_ne ne.t.1.symm).trans a1, by rw [e2]; exact m1 a2⟩, by rw [e2]; exact h.and_, m3 hs, ?_, by rw [e3]; exact h.und, ⟨xs, (upd_ne ne.t.2.2.1.symm).trans c1, by rw [e4]; exact Paired.mapP c2 fun _ _ q => m4 q⟩⟩ e1 (by rw [e4, e5]; exact h.lb) (by rw [e1, e4, e5]; exact h.lo)
  rw [e3]
  exact (upd_ne ne.t.2.1.symm).trans h.ud
theorem StAt.upL {A : SA} {S S' : StM} {B : BkT} {ys : List V} {ys' : List Chg} (h : StAt P w K H A S B) (hy : Paired (ChAt P w K A.V H) ys ys') (e1 : S' = { S with chg := ys' }) (lb : B.length + ys'.length ≤ S.n) (lo : S.outs.length + ys'.length ≤ S.n) :
    Fr K A.O H (upd H A.cl (.lst ys)) ∧ StAt P w K (upd H A.cl (.lst ys)) A S' B := by
  subst e1
  have ne := SA.ne h.nd
  have hp : A.cl ∈ [A.t, A.ad, A.ud, A.cl] := by simp
  obtain ⟨m1, m2, m3, m4⟩ := h.mv (o := .lst ys) hp
  obtain ⟨kv, a1, a2⟩ := h.ad
  exact h.qup (sk' := A.sk) hp ⟨(upd_ne ne.t.2.2.1).trans h.t, ⟨kv, (upd_ne ne.c.1.symm).trans a1, m1 a2⟩, h.and_, m3 h.sk, (upd_ne ne.c.2.1.symm).trans h.ud, h.und, ⟨ys, upd_same, Paired.mapP hy fun _ _ q => m4 q⟩⟩ rfl lb lo
theorem StAt.upA {A : SA} {S : StM} {B : BkT} {kv' : List (Key × V)} {M : List (Int × (Int × Int))} (h : StAt P w K H A S B) (hk : Paired (AccR K H) kv' M) (nd : (M.map (·.1)).Nodup) :
    Fr K A.O H (upd H A.ad (.dK kv')) ∧ StAt P w K (upd H A.ad (.dK kv')) A { S with accs := M } B := by
  have ne := SA.ne h.nd
  have hp : A.ad ∈ [A.t, A.ad, A.ud, A.cl] := by simp
  obtain ⟨m1, m2, m3, m4⟩ := h.mv (o := .dK kv') hp
  obtain ⟨xs, c1, c2⟩ := h.cl
  exact h.qup (sk' := A.sk) hp ⟨(upd_ne ne.t.1).trans h.t, ⟨kv', upd_same, m1 hk⟩, nd, m3 h.sk, (upd_ne ne.c.2.2.2.1.symm).trans h.ud, h.und, ⟨xs, (upd_ne ne.c.1).trans c1, Paired.mapP c2 fun _ _ q => m4 q⟩⟩ rfl h.lb h.lo
theorem StAt.upU {A : SA} {S : StM} {B : BkT} {U : List Int} (h : StAt P w K H A S B) (nd : U.Nodup) :
    Fr K A.O H (upd H A.ud (.dK (U.map fun n => (.inl n, .bl true)))) ∧ StAt P w K (upd H A.ud (.dK (U.map fun n => (.inl n, .bl true)))) A { S with used := U } B := by
  have ne := SA.ne h.nd
  have hp : A.ud ∈ [A.t, A.ad, A.ud, A.cl] := by simp
  obtain ⟨m1, m2, m3, m4⟩ := h.mv (o := .dK (U.map fun n => (.inl n, .bl true))) hp
  obtain ⟨kv, a1, a2⟩ := h.ad
  obtain ⟨xs, c1, c2⟩ := h.cl
  exact h.qup (sk' := A.sk) hp ⟨(upd_ne ne.t.2.1).trans h.t, ⟨kv, (upd_ne ne.c.2.2.2.1).trans a1, m1 a2⟩, h.and_, m3 h.sk, upd_same, nd, ⟨xs, (upd_ne ne.c.2.1).trans c1, Paired.mapP c2 fun _ _ q => m4 q⟩⟩ rfl h.lb h.lo
theorem used_put {U : List Int} {n : Int} (h : n ∉ U) : putK (U.map fun n => ((.inl n : Key), V.bl true)) (.inl n) (.bl true) = (U ++ [n]).map fun n => ((.inl n : Key), V.bl true) := by
  unfold putK
  rw [if_neg, List.map_append]
  · rfl
  · intro c
    obtain ⟨x, hx, e⟩ := List.any_eq_true.mp c
    obtain ⟨m, hm, rfl⟩ := List.mem_map.mp hx
    have e2 : m = n := by simpa using e
    exact h (e2 ▸ hm)
theorem used_drop {U : List Int} {n : Int} : L2.dropK (U.map fun n => ((.inl n : Key), V.bl true)) (.inl n) = (U.filter fun x => decide (x ≠ n)).map fun n => ((.inl n : Key), V.bl true) := by
  unfold L2.dropK
  rw [List.filter_map]
  congr 1
  refine List.filter_congr fun x _ => ?_
  simp
/-- a change's note tells what takes it back -/
theorem ChAt.act {A : SA} {v : V} {c : Chg} (h : ChAt P w K O H v c) (hc : ∀ n x, c = .pot n x → n < 3) : ∃ z it u, v = .ref z ∧ SqT K H z [.str (kindA (undo c)), it, u] ∧ ActAt P w K O H it u (undo c) := by
  cases c with
  | out r b =>
    obtain ⟨z, q, u, h1, h2, h3, h4⟩ := h
    exact ⟨z, _, u, h1, h2, ⟨q, rfl, h3⟩, h4⟩
  | acc k b =>
    obtain ⟨z, u, h1, h2, h4⟩ := h
    exact ⟨z, _, u, h1, h2, rfl, h4⟩
  | pot n x =>
    obtain ⟨z, h1, h2⟩ := h
    exact ⟨z, _, _, h1, h2, hc n x rfl, rfl, rfl⟩
  | clk s e =>
    obtain ⟨z, u, h1, h2, h3⟩ := h
    exact ⟨z, _, u, h1, h2, rfl, h3⟩
  | stk rows =>
    obtain ⟨z, q, xs, h1, h2, h3, h4⟩ := h
    exact ⟨z, _, _, h1, h2, rfl, q, xs, rfl, h3, h4⟩
  | usd n =>
    obtain ⟨z, h1, h2⟩ := h
    exact ⟨z, _, _, h1, h2, rfl, rfl⟩
end
end Fa
namespace Fa
open PySem PySem.Spec PyProof.Rows L2 Bd Es Dj Ef Re
/-- the parts that may stand elsewhere behind a change -/
def UpA (H : Hp) (A A' : SA) : Prop := ∃ ds sk, A' = { A with ds := ds, sk := sk } ∧ ∀ x ∈ ds, x ∈ A.ds ∨ H x = none
def putName : Act → Str
  | .out _ _ => "_put_output"
  | .acc _ _ => "_put_account"
  | .pot _ _ => "_put_pot"
  | .clk _ _ => "_put_clock"
  | .stk _ => "_put_stakes"
  | .use _ _ => "_put_used"
end Fa
namespace Fa
open PySem PySem.Spec PyProof.Rows L2 Bd Es Dj Ef Re
theorem lookA_no {k : Int} : ∀ {l : List (Int × (Int × Int))}, lookA l k = none → setA l k none = l
  | [], _ => rfl
  | x :: l, h => by
    by_cases c : x.1 = k
    · simp only [lookA, if_pos c] at h; cases h
    · simp only [lookA, if_neg c] at h
      show (x :: l).filter (fun e => decide (e.1 ≠ k)) = x :: l
      rw [List.filter_cons_of_pos (by simpa using c)]
      exact congrArg (x :: ·) (lookA_no h)
end Fa
namespace Fa
open PySem PySem.Spec PyProof.Rows L2 Bd Es Dj Ef Re
section
variable {P : Program} {w : World} {K : PySem.W.Frag} {H H1 H' : Hp} {O O' : List Addr}
theorem ActAt.fr {it v : V} {a : Act} (h : ActAt P w K O H it v a) (f : Fr K O H H') : ActAt P w K O H' it v a := by
  have g : ∀ x ∈ O, x ∈ O ∨ H x = none := fun x q => .inl q
  cases a with
  | out p o =>
    obtain ⟨⟨r, e, hr⟩, h2⟩ := h
    refine ⟨⟨r, e, f.tup _ _ hr⟩, ?_⟩
    cases o with
    | none => exact h2
    | some t => exact OuAt.fr h2 f g
  | acc k o =>
    refine ⟨h.1, ?_⟩
    cases o with
    | none => exact h.2
    | some q =>
      obtain ⟨z, e, hz⟩ := h.2
      exact ⟨z, e, f.tup _ _ hz⟩
  | pot n x => exact h
  | clk s e =>
    obtain ⟨e1, z, e2, hz⟩ := h
    exact ⟨e1, z, e2, f.tup _ _ hz⟩
  | stk rows =>
    obtain ⟨e, q, xs, e2, h1, h2⟩ := h
    exact ⟨e, q, xs, e2, f.tup _ _ h1, f.dpAll (nlMap encP2_nl) h2⟩
  | use n b => exact h
theorem kind_bef {S : StM} {a : Act} : kindA (undo (befA S a)) = kindA a := by cases a <;> rfl
theorem ActAt.ch {z : Addr} {it v : V} {c : Chg} (hz : SqT K H z [.str (kindA (undo c)), it, v]) (h : ActAt P w K O H it v (undo c)) : ChAt P w K O H (.ref z) c := by
  cases c with
  | out r b =>
    obtain ⟨⟨q, rfl, hq⟩, h2⟩ := h
    exact ⟨z, q, v, rfl, hz, hq, h2⟩
  | acc k b =>
    obtain ⟨rfl, h2⟩ := h
    exact ⟨z, v, rfl, hz, h2⟩
  | pot n x =>
    obtain ⟨_, rfl, rfl⟩ := h
    exact ⟨z, rfl, hz⟩
  | clk s e =>
    obtain ⟨rfl, h2⟩ := h
    exact ⟨z, v, rfl, hz, h2⟩
  | stk rows =>
    obtain ⟨rfl, q, xs, rfl, h1, h2⟩ := h
    exact ⟨z, q, xs, rfl, hz, h1, h2⟩
  | usd n =>
    obtain ⟨rfl, rfl⟩ := h
    exact ⟨z, rfl, hz⟩
theorem UpA.back {A A' : SA} (h : UpA H1 A A') (f : Fr K O H H1) (l : ∀ x ∈ O, H1 x ≠ none) : UpA H A A' := by
  obtain ⟨ds, sk, e, hd⟩ := h
  refine ⟨ds, sk, e, fun x hx => (hd x hx).imp id fun z => ?_⟩
  cases e2 : H x with
  | none => rfl
  | some o =>
    by_cases c : x ∈ O
    · exact absurd z (l x c)
    · rw [f.keep x o c e2] at z; cases z
end
end Fa

set_option Elab.async false
set_option linter.all false
set_option maxRecDepth 100000
set_option maxHeartbeats 4000000
/-! What a class of errors must say, as a test. -/
namespace Bd
open PySem PySem.Spec PyProof.Rows L2
def oxB (K : PySem.W.Frag) (C : Addr) : Bool := match K.lookup C with
  | some ⟨.type "type", _, .cls cd, sl⟩ => (match cd.mro, sl.toList with
    | .ref C' :: bm, [_, _, _, _, some (.builtin n), _] => C' == C && n == "ValueError.__new__" && !cd.hasDel && cd.hasDict && PySem.HandSPX.refsVE bm
    | _, _ => false)
  | _ => false
def xcB (K : PySem.W.Frag) (C fI : Addr) : Bool := oxB K C && (decide (PySem.W.findIn K (.ref C) "__setattr__" = some (some (.builtin "object.__setattr__"))) && (decide (PySem.W.subIn K (.ref C) (.type "BaseException") = some true) && (decide (PySem.W.typeIn K (.ref C) = some (.type "type")) &&
  (PySem.W.keepIn K (.ref C) && (decide (PySem.W.findIn K (.ref C) "__init__" = some (some (.ref fI))) && (decide (PySem.W.typeIn K (.ref fI) = some (.type "function")) && (decide (PySem.W.findIn K (.ref C) "__getattribute__" = some (some (.builtin "BaseException.__getattribute__"))) &&
  (decide (PySem.W.findIn K (.ref C) "__getattr__" = some none) && (PySem.W.hasDictIn K C && (decide (PySem.W.findIn K (.ref C) "__class__" = some (some (.builtin "object.__class__"))) && (decide (PySem.W.mroIn K C (.type "object") = some true) && decide (PySem.W.findIn K (.ref C) "what" = some none))))))))))))
end Bd

set_option Elab.async false
set_option linter.all false
set_option maxRecDepth 100000
set_option maxHeartbeats 4000000
/-! Errors of own classes as plain values: made, asked for their class, their field read. -/
namespace Bd
open PySem PySem.Spec PyProof.Rows L2
/-- the class says what an error class over ValueError must say, with fI as the __init__ that it has from its base -/
structure XC (K : PySem.W.Frag) (C fI : Addr) : Prop where
  o : OexC K C
  iC : PySem.W.findIn K (.ref C) "__init__" = some (some (.ref fI))
  tI : PySem.W.typeIn K (.ref fI) = some (.type "function")
  x : ExcC K C
  nw : PySem.W.findIn K (.ref C) "what" = some none
theorem oxB_ok {K : PySem.W.Frag} {C : Addr} (q : oxB K C = true) : ∃ nm q N bs bm sn sub ab col dd k0 k1 k2 k3 k5, K.lookup C = some (excClassObj nm q C N bs bm true sn sub ab col dd k0 k1 k2 k3 k5 "ValueError.__new__") ∧ PySem.HandSPX.refsVE bm = true := by
  unfold oxB at q
  split at q
  · rename_i dd cd sl ho
    split at q
    · rename_i C' bm k0 k1 k2 k3 n k5 hm hs
      simp only [Bool.and_eq_true, beq_iff_eq, Bool.not_eq_true'] at q
      obtain ⟨⟨⟨⟨rfl, rfl⟩, hdel⟩, hhd⟩, hve⟩ := q
      obtain ⟨nm, bs, mro, ns, qn, hd, sn, sub, ab, col, del⟩ := cd
      dsimp only at hm hdel hhd
      subst hm hdel hhd
      have hsl : sl = #[k0, k1, k2, k3, some (.builtin "ValueError.__new__"), k5] := by
        obtain ⟨l⟩ := sl
        simp only at hs
        rw [hs]
      subst hsl
      exact ⟨nm, qn, ns, bs, bm, sn, sub, ab, col, dd, k0, k1, k2, k3, k5, ho, hve⟩
    · cases q
  · cases q
theorem sp_class {K : PySem.W.Frag} : PySem.W.specialIn K (.builtin "object.__class__") "__get__" = some (some (.builtin "getset_descriptor.__get__")) := by kernel_rfl
theorem tk_class {K : PySem.W.Frag} : PySem.W.takesIn K (.builtin "object.__class__") = some true := by kernel_rfl
theorem xcB_ok {K : PySem.W.Frag} {C fI : Addr} (h : xcB K C fI = true) : XC K C fI := by
  unfold xcB at h
  simp only [Bool.and_eq_true, decide_eq_true_eq] at h
  obtain ⟨h1, h2, h3, h4, h5, h6, h7, h8, h9, h10, h11, h12, h13⟩ := h
  exact ⟨⟨oxB_ok h1, h2, h3, h4, h5⟩, h6, h7, ⟨h8, h9, h3, h10, h11, sp_class, tk_class, h12⟩, h13⟩
/-- an error of class C stands at a, with the field what -/
def ErrAt (H : Hp) (a C : Addr) (x : V) : Prop := ∃ d : Addr, H a = some (exo a C (some d)) ∧ H d = some (exd d [("what", x)])
section
variable {X : Cx} {CX : CXT} {k : Nat} {C fI : Addr} {fd : FuncData} {ps : List Str} {sp : Sp} {dvs : List V} {ds : List Value} {E : XK} {x : Str} {p pos : Pos} {e : Expr} {es : List Expr} {ta : TA}
def tMkE (C : Addr) (sp : Sp) (dvs : List V) (E : XK) (ta : TA) : TE := fun σ H Q => ta σ H fun vs H1 => vs.length ≤ 1000 ∧ ∀ a, H1 a = none → sp (.ref a :: (vs ++ dvs)) (upd H1 a (exo a C none)) (fun v H2 => v = .non ∧ Q (.ref a) H2) E
theorem run_mkE {pins : List (Addr × Obj)} {σ : L2.St} {H1 : Hp} {s1 : Shared} {Q : VK} {us : List Value} {vs : List V} (T : XC X.K C fI) (F1 : FnOk X.prog X.w X.K X.mg X.base CX k fI fd ps sp) (hr : Room (k + 1) X.A) (hb : Binds X.K fd ps ds) (hd : Vals dvs ds) (hx : Passes CX X E)
    (I1 : Inv X pins σ H1 s1) (r1 : Vals vs us) (hz : vs.length ≤ 1000)
    (q1 : ∀ a, H1 a = none → sp (.ref a :: (vs ++ dvs)) (upd H1 a (exo a C none)) (fun v H2 => v = .non ∧ Q (.ref a) H2) E) : wpAny (model X.prog X.w) X.A (call (.ref C) us) (EP X pins σ Q) X.xe s1 := by
  obtain ⟨nm, q, N, bs, bm, sn, sub, ab, col, dd, k0, k1, k2, k3, k5, hC, hbm⟩ := T.o.cls
  obtain ⟨hp, g, dr, tk, os⟩ := s1
  have hsz : hp.objs.size ≤ hp.objs.size + 1 := Nat.le_succ _
  have hn : H1 (hp.objs.size + 1) = none := I1.hok.fresh hsz
  have hq := q1 (hp.objs.size + 1) hn
  have kk : ∀ b o, hp.get? b = some o → ((hp.push (PySem.W.kdv_tup us)).push (PySem.HandSPX.excO C hp.objs.size)).get? b = some o := fun b o e => Heap.get?_push_of_some _ (Heap.get?_push_of_some _ e)
  have hget : ((hp.push (PySem.W.kdv_tup us)).push (PySem.HandSPX.excO C hp.objs.size)).get? (hp.objs.size + 1) = some (PySem.HandSPX.excO C hp.objs.size) := by heap_get
  have I2 : Inv X pins σ (upd H1 (hp.objs.size + 1) (exo (hp.objs.size + 1) C none)) ⟨(hp.push (PySem.W.kdv_tup us)).push (PySem.HandSPX.excO C hp.objs.size), g, dr, tk, os⟩ :=
    I1.laid (t' := tk) (a := hp.objs.size + 1) (o := exo (hp.objs.size + 1) C none) (h' := (hp.push (PySem.W.kdv_tup us)).push (PySem.HandSPX.excO C hp.objs.size)) kk hsz (exo_ok hget)
  have r2 : Vals (V.ref (hp.objs.size + 1) :: (vs ++ dvs)) (Value.ref (hp.objs.size + 1) :: (us ++ ds)) := .cons rfl (r1.append hd)
  have hl : (Value.ref (hp.objs.size + 1) :: us ++ ds).length = ps.length := by
    have e := r2.length
    rw [F1.len _ _ _ _ hq] at e
    exact e.symm
  have hus : us.length ≤ sizeLine := by
    rw [← Paired.length r1, sizeLine_eq]
    omega
  refine wpAny_call (PySem.HandSPX.call_own F.excBase_ValueError (fun Y => PySem.HandSPX.refsVE_contains Y bm hbm) (I1.kIn _ _ hC) (PySem.W.looks_findIn I1.kIn T.iC) (fun self => PySem.W.bind_fn I1.kIn self T.tI) hus
    (codeAny_mono (F1.run _ X.stack _ _ ⟨Value.ref (hp.objs.size + 1) :: us, []⟩ (Value.ref (hp.objs.size + 1) :: (us ++ ds)) _ _ E (hr.make C us []) (I2.env0.make C us []) (hb _ (Value.ref (hp.objs.size + 1) :: us) I2.kIn hl) r2 hq) fun r s' hq' => ?_))
  cases r with
  | error er => exact hx pins σ _ _ er s' I2 hq'
  | ok fl =>
    cases fl with
    | ret u =>
      obtain ⟨v, H', I3, rv, ev, q3⟩ := I2.after hq'
      subst ev
      exact ⟨rv, ⟨V.ref (hp.objs.size + 1), H', I3, rfl, q3⟩⟩
    | next => exact False.elim hq'
    | brk => exact False.elim hq'
    | cont => exact False.elim hq'
theorem pe_mkE (T : XC X.K C fI) (F1 : FnOk X.prog X.w X.K X.mg X.base CX k fI fd ps sp) (hr : Room (k + 1) X.A) (hg : Gl X x) (hm : X.mg x = some (.ref C)) (hb : Binds X.K fd ps ds) (hd : Vals dvs ds) (hx : Passes CX X E) (ha : PA X (e :: es) ta)
    (hdb : (x == ("__debug__" : Str)) = false := by decide) (he : starEach (e :: es) X.env = (false, eval e X.env) :: starEach es X.env := by rfl) (hpl : (backTo pos (starEach es X.env)).any (·.1) = false := by rfl) :
    PE X (.Call (.Name x p) (e :: es) [] pos) (tMkE C sp dvs E ta) := by
  refine ⟨fun pins s σ H Q I h => ?_⟩
  refine wpAny_Call_Name_kw (ld_glob I hg hm ?_ hdb)
  refine PySem.W.callWith_K (h₀ := X.base) I.ok.mod.kin T.o.kC (thn (ha.run pos pins s σ H _ I h) fun us s1 ⟨vs, H1, I1, r1, hz, q1⟩ => ⟨I1.kIn, ?_⟩) he hpl
  exact run_mkE T F1 hr hb hd hx I1 r1 hz q1
theorem pe_mkE0 (T : XC X.K C fI) (F1 : FnOk X.prog X.w X.K X.mg X.base CX k fI fd ps sp) (hr : Room (k + 1) X.A) (hg : Gl X x) (hm : X.mg x = some (.ref C)) (hb : Binds X.K fd ps ds) (hd : Vals dvs ds) (hx : Passes CX X E)
    (hdb : (x == ("__debug__" : Str)) = false := by decide) : PE X (.Call (.Name x p) [] [] pos) (tMkE C sp dvs E tNil) := by
  refine ⟨fun pins s σ H Q I h => ?_⟩
  refine wpAny_Call_Name_kw (ld_glob I hg hm ?_ hdb)
  obtain ⟨hz, q1⟩ := h
  exact PySem.W.callWith_K0 I.kIn T.o.kC (run_mkE (us := []) T F1 hr hb hd hx I .nil hz q1)
end
section
variable {X : Cx} {pins : List (Addr × Obj)} {σ : L2.St} {H : Hp} {s : Shared}
theorem err_at {a C d : Addr} {fs : List (Str × V)} (I : Inv X pins σ H s) (e : H a = some (exo a C (some d))) (ed : H d = some (exd d fs)) :
    ∃ (oe od : Obj) (mA : Str → Option Value), PySem.W.InstAt s.heap a oe C (some od) ∧ (∀ name, PySem.W.lookIn name od = some (mA name)) ∧ ∀ f, RelO (fs.lookup f) (mA f) := by
  obtain ⟨t1, he⟩ := exo_at I.hok e
  obtain ⟨mA, hns, hr⟩ := exd_at I.hok ed
  obtain ⟨od, ho, hl⟩ := lookIn_ns hns
  exact ⟨_, od, mA, ⟨he, rfl, rfl, ho⟩, hl, hr⟩
theorem kitE {K : PySem.W.Frag} {x D : Addr} {ox od : Obj} (T : ExcC K D) : PySem.W.KitX K (.ref x) (.ref D) (fun h => PySem.W.InstAt h x ox D (some od)) where
  ty := fun _ _ _ I => I.type
  it := fun _ _ X _ => by
    obtain ⟨cdD, hcD, _⟩ := PySem.W.any_some T.hd
    unfold PySem.W.clsIn at hcD
    split at hcD
    · rename_i c' d' cd' sl' ho
      intro A' Q' E' s' k q
      unfold isType loadHead
      exact wpAny_bind (wpAny_loadPart (k _ _ (X _ _ ho)) (wpAny_pure q))
    · cases hcD
  ne := fun h tp dd its n sl X htp => by
    obtain ⟨cdD, hcD, _⟩ := PySem.W.any_some T.hd
    refine Bool.eq_false_iff.mpr fun q => ?_
    have e : D = tp := Value.ref.inj (beq_iff_eq.mp q)
    subst e
    unfold PySem.W.clsIn at hcD
    split at hcD
    · rename_i c' d' cd' sl' ho
      have z := (X _ _ ho).symm.trans htp
      cases z
    · cases hcD
  ca := fun X I k => PySem.W.kx_classE X I T.hg T.hk T.hs (PySem.W.findObj_dataE (by obtain ⟨cd, hc, _⟩ := PySem.W.any_some T.hd; rw [hc]; rfl) T.ha T.hn T.ht) T.hm k
/-- isinstance(e, c), e such an error -/
def rIsE (K : PySem.W.Frag) : List V → Hp → VK → Prop := fun xs H Q => ∃ (a C : Addr) (c w : V) (u : Value) (b : Bool), xs = [.ref a, c] ∧ ClsV c u ∧ ErrAt H a C w ∧ ExcC K C ∧ PySem.W.kitOne K (.ref C) u = some b ∧ Q (.bl b) H
theorem call_isE : CallR X (.builtin "isinstance") (rIsE X.K) := by
  intro pins s σ H xs us Q I r h
  obtain ⟨a, C, c, w, u, b, rfl, k, ⟨d, ea, ed⟩, T, e, q⟩ := h
  obtain ⟨u1, u2, rfl, r1, r2⟩ := vals2 r
  have e2 := k.eq r2
  subst e2
  cases (show u1 = Value.ref a from r1)
  obtain ⟨oe, od, mA, J, _, _⟩ := err_at I ea ed
  exact PySem.W.kia_one (kitE (ox := oe) (od := od) T) I.kIn J e (fun z => nomatch z) fun tk => ⟨.bl b, H, I.tok tk, rfl, q⟩
/-- e.what -/
def tErrF (K : PySem.W.Frag) (te : TE) : TE := fun σ H Q => te σ H fun x H1 => ∃ (a C : Addr) (v : V), x = .ref a ∧ ErrAt H1 a C v ∧ ExcC K C ∧ PySem.W.findIn K (.ref C) "what" = some none ∧ Q v H1
theorem pe_errF {e : Expr} {te : TE} {pos : Pos} (he : PE X e te) (hb : attributeBase e "what" X.env (eval e X.env) = eval e X.env := by rfl) : PE X (.Attribute e "what" pos) (tErrF X.K te) := by
  refine ⟨fun pins s σ H Q I h => ?_⟩
  refine attr_of hb (thn (he.run pins s σ H _ I h) fun u s1 hh => ?_)
  obtain ⟨x, H1, I1, rx, a, C, v, ex, ⟨d, ea, ed⟩, T, hno, q⟩ := hh
  subst ex
  obtain rfl : u = Value.ref a := rx
  obtain ⟨oe, od, mA, J, hl, hr⟩ := err_at I1 ea ed
  obtain ⟨u, hu, ru⟩ := RelO.some_of (v := v) (o := mA "what") (hr "what")
  exact HandSPX.exc_get I1.kIn J T.hg T.hk T.hs (PySem.W.findObj_own T.hd hno rfl (by rw [hl, hu])) (handed_of ru) ⟨v, H1, I1.tok _, ru, q⟩
end
end Bd

set_option Elab.async false
set_option linter.all false
set_option maxRecDepth 100000
set_option maxHeartbeats 4000000
/-! isinstance of a caught error that has a dict (the suite of an except clause). -/
namespace Bd
open PySem PySem.Spec PyProof.Rows L2
/-- isinstance(e, c), e the error that the suite holds: its class D, its dict d -/
def rIsS (K : PySem.W.Frag) (D a d : Addr) : List V → Hp → VK → Prop := fun xs H Q => ∃ (c : V) (u : Value) (fs : List (Str × V)) (b : Bool), xs = [.ref a, c] ∧ ClsV c u ∧ H d = some (.xd fs) ∧ PySem.W.kitOne K (.ref D) u = some b ∧ Q (.bl b) H
theorem call_isS {X : Cx} {a D d : Addr} {oe : Obj} {pn : List (Addr × Obj)} (C : ExcC X.K D) (hz : Zc (.ref D) (some d) oe) (hf : ∃ vs, oe.data = .fields vs) : CallR (X.suite a ((a, oe) :: pn)) (.builtin "isinstance") (rIsS X.K D a d) := by
  intro pins s σ H xs us Q I r h
  obtain ⟨c, u, fs, b, rfl, k, ed, e, q⟩ := h
  obtain ⟨u1, u2, rfl, r1, r2⟩ := vals2 r
  have e2 := k.eq r2
  subst e2
  cases (show u1 = Value.ref a from r1)
  obtain ⟨hget, _⟩ := I.pin (a, oe) (List.mem_append.mpr (.inl List.mem_cons_self))
  have hx : ObjOk X.prog X.w H s.heap d (.xd fs) := I.hok d _ ed
  obtain ⟨mA, hns, hr⟩ := hx
  obtain ⟨od, ho, hl⟩ := lookIn_ns hns
  obtain ⟨vs, hv⟩ := hf
  have J : PySem.W.InstAt s.heap a oe D (some od) := ⟨hget, hz.1, by unfold PySem.W.notCls; rw [hv] <;> rfl, by rw [hz.2]; exact ho⟩
  exact PySem.W.kia_one (kitE (ox := oe) (od := od) C) I.kIn J e (fun z => nomatch z) fun tk => ⟨.bl b, H, I.tok tk, rfl, q⟩
end Bd

set_option Elab.async false
set_option linter.all false
set_option maxRecDepth 100000
set_option maxHeartbeats 4000000
/-! what the head tells of error classes: ahead of all else, for the head's run goes first in a merged file -/
namespace Fa
open PySem PySem.Spec PyProof.Rows L2 Bd
/-- the families of errors -/
def famN : List (Str × List Str) := [("ShapeError", ["BadNumber", "TooMany", "NoSpends", "Repeated", "BadName", "BadText", "BadOutput", "BadMint", "BadFee", "BadInterval", "BadData", "BadDraw"]), ("StateError", ["Present", "Absent", "NoPot", "NoMark"]), ("RuleError", ["Reused", "OutsideInterval", "UnknownOutput", "NotSigned", "NotJoined", "TooMuch", "AlreadyJoined", "RewardLeft", "BadLock", "MissingData", "NeedlessData", "TooCostly", "FeeTooLow", "NeedlessPledge", "BadPledge", "PledgeTooSmall", "Unbalanced", "WrongClaim"]), ("ChainError", ["BadBlockNumber", "KnownBlock", "BarredBlock", "UnknownParent", "TooManyTransactions", "TooDeep", "BadBlock", "BadSlot"]), ("PoolError", ["AlreadyPending", "PoolFull"]), ("RecordError", ["BadNotation", "BadRecord", "BadLine"]), ("WalletError", ["NotEnough", "NoPledge", "ScriptsRefuse"]), ("ScriptError", ["BadToken", "BadSyntax", "OverLimit", "BadUse", "DeepTerm", "NoKind", "BadFacts", "BadCode"])]
def kin (n m : Str) : Bool := decide (m = "KeptError") || (decide (n = m) || (famN.any fun e => decide (e.1 = m) && decide (n ∈ e.2)))
def efBN (N : List Str) (K : PySem.W.Frag) : Bool := N.all fun n => xcB K (He.ga K n) (He.fAd K ("KeptError", some "__init__")) && N.all fun m => decide (PySem.W.kitOne K (.ref (He.ga K n)) (.ref (He.ga K m)) = some (kin n m)) && decide (PySem.W.exmOne K (.ref (He.ga K n)) (.ref (He.ga K m)) = some (kin n m))
end Fa

set_option Elab.async false
set_option linter.all false
set_option maxRecDepth 100000
set_option maxHeartbeats 4000000
/-! Errors that methods raise, and the suites that catch them. -/
namespace Bd
open PySem PySem.Spec PyProof.Rows L2
section
variable {X : Cx} {CX : CXT} {k : Nat} {f C : Addr} {fd : FuncData} {ps : List Str} {sp : Sp} {E : L2.St → XK} {m : Str} {pos apos : Pos} {e o : Expr} {es : List Expr} {ta : TE} {t : TA}
/-- o.m(e, ..) where what is raised is wished for at the caller's slots -/
def tMethS (C : Addr) (m : Str) (sp : Sp) (E : L2.St → XK) (ta : TE) (t : TA) : TE := fun σ H Q => ta σ H fun x H1 => ∃ a dx fs, x = .ref a ∧ H1 a = some (.ins C dx fs) ∧ fs.lookup m = none ∧ t σ H1 fun vs H2 => sp (x :: vs) H2 Q (E σ)
theorem pe_methS {pl : Sem Bool} (he : PE X o ta) (c : Cls X.K C) (hm : Meth X.K C m f) (F : FnOk X.prog X.w X.K X.mg X.base CX k f fd ps sp) (hr : Room k X.A) (hb : Binds X.K fd ps []) (hx : ∀ σ, PassesAt CX X σ (E σ)) (ha : PA X (e :: es) t)
    (hst : starEach (e :: es) X.env = (false, eval e X.env) :: starEach es X.env := by rfl) (hpl : (backTo pos (starEach es X.env)).any (·.1) = false := by rfl)
    (ht : eval (.Call (.Attribute o m apos) (e :: es) [] pos) X.env = (do
      let ov ← eval o X.env
      standAt apos.atName
      let (f, first) ← holding [ov] (getMethod ov m pl)
      callWith pos f first (backTo pos (starEach (e :: es) X.env)) (backToKw pos (keywordEach [] X.env))) := by rfl) :
    PE X (.Call (.Attribute o m apos) (e :: es) [] pos) (tMethS C m sp E ta t) := by
  refine ⟨fun pins s σ H Q I h => ?_⟩
  refine PySem.W.methodCall_KW (pl := pl) (thn (he.run pins s σ H _ I h) fun u s1 ⟨x, H1, I1, rx, a, dx, fs, ex, ea, l, q⟩ => ?_) ht
  subst ex
  obtain rfl : u = Value.ref a := rx
  refine getmeth_ok I1 ea c hm l ?_
  refine PySem.W.callWith_K (first := [.ref a]) (h₀ := X.base) I.ok.mod.kin hm.kp (thn (ha.run pos pins s1 σ H1 _ I1 q) fun us s2 ⟨vs, H2, I2, r, q2⟩ => ⟨I2.kIn, ?_⟩) hst hpl
  exact run_fnS (us := .ref a :: us) (vs := .ref a :: vs) F hr hb (hx σ) I2 (.cons rfl r) q2
end
/-- isinstance(e, c), e the caught error whose class and dict the reading tells -/
def rIsG (K : PySem.W.Frag) (a : Addr) (cls : Value) (d : Option Addr) : List V → Hp → VK → Prop := fun xs H Q => ∃ D dd, cls = .ref D ∧ d = some dd ∧ ExcC K D ∧ rIsS K D a dd xs H Q
theorem call_isG {X : Cx} {a : Addr} {cls : Value} {d : Option Addr} {oe : Obj} {pn : List (Addr × Obj)} (hz : Zc cls d oe) (hf : ∃ vs, oe.data = .fields vs) : CallR (X.suite a ((a, oe) :: pn)) (.builtin "isinstance") (rIsG X.K a cls d) := by
  intro pins s σ H xs us Q I r h
  obtain ⟨D, dd, rfl, rfl, C, h⟩ := h
  exact call_isS C hz hf pins s σ H xs us Q I r h
/-- e.f, e the caught error whose class and dict the reading tells -/
def tXg (K : PySem.W.Frag) (a : Addr) (cls : Value) (d : Option Addr) (f : Str) (te : TE) : TE := fun σ H Q => te σ H fun x H1 => x = .ref a ∧ ∃ (C dd : Addr) (fs : List (Str × V)) (v : V), cls = .ref C ∧ d = some dd ∧ XfC K C ∧ PySem.W.findIn K (.ref C) f = some none ∧ H1 dd = some (.xd fs) ∧ fs.lookup f = some v ∧ Q v H1
theorem pe_xg {X : Cx} {a : Addr} {oe : Obj} {cls : Value} {d : Option Addr} {pn : List (Addr × Obj)} {e : Expr} {te : TE} {pos : Pos} {n : Str}
    (hz : Zc cls d oe) (hf : ∃ vs, oe.data = .fields vs) (he : PE (X.suite a ((a, oe) :: pn)) e te) (hb : attributeBase e n X.env (eval e X.env) = eval e X.env := by rfl) :
    PE (X.suite a ((a, oe) :: pn)) (.Attribute e n pos) (tXg X.K a cls d n te) := by
  refine ⟨fun pins s σ H Q I h => ?_⟩
  refine attr_of hb (thn (he.run pins s σ H _ I h) fun u s1 hh => ?_)
  obtain ⟨x, H1, I1, rx, ex, C, dd, fs, v, ec, ed, T, hno, ea, l, q⟩ := hh
  subst ex
  obtain rfl : u = Value.ref a := rx
  subst ec
  subst ed
  obtain ⟨ha, _⟩ := I1.pin (a, oe) (List.mem_append_left _ List.mem_cons_self)
  obtain ⟨vs, hd⟩ := hf
  have hx : ObjOk X.prog X.w H1 s1.heap dd (.xd fs) := I1.hok dd _ ea
  obtain ⟨mA, hns, hr⟩ := hx
  obtain ⟨od, ho, hl⟩ := lookIn_ns hns
  obtain ⟨u, hu, ru⟩ := RelO.some_of (v := v) (o := mA n) (by rw [← l]; exact hr n)
  have J : PySem.W.InstAt s1.heap a oe C (some od) := ⟨ha, hz.1, by unfold PySem.W.notCls; rw [hd] <;> rfl, by rw [hz.2]; exact ho⟩
  exact HandSPX.exc_get I1.kIn J T.ga T.gg T.exC (PySem.W.findObj_own T.hdC hno rfl (by rw [hl, hu])) (handed_of ru) ⟨v, H1, I1.tok _, ru, q⟩
theorem ExcC.xf {K : PySem.W.Frag} {C : Addr} (h : ExcC K C) : XfC K C := ⟨h.hg, h.hk, h.hs, h.hd⟩
/-- a class's error at its way out: E (.ref C) (some d) .. with what = v -/
def tMkX (C : Addr) (sp : Sp) (ta : TA) : L2.St → Hp → XK → Prop := tMkO C sp [] ta
end Bd

namespace Fa
open PySem PySem.Spec PyProof.Rows L2 Bd Es Dj Ef Re
structure StErr (N : List Str) (K : PySem.W.Frag) (mg : Str → Option Value) : Prop where
  m : ∀ n ∈ N, mg n = some (.ref (He.ga K n))
  b : efBN N K = true
section
variable {N : List Str} {K : PySem.W.Frag} {mg : Str → Option Value} {H H' : Hp}
theorem StErr.x (W : StErr N K mg) (n : Str) (h : n ∈ N) : XC K (He.ga K n) (He.fAd K ("KeptError", some "__init__")) := by
  have q := List.all_eq_true.mp W.b n h
  rw [Bool.and_eq_true] at q
  exact xcB_ok q.1
theorem StErr.kit (W : StErr N K mg) (n m : Str) (h : n ∈ N) (h2 : m ∈ N) : PySem.W.kitOne K (.ref (He.ga K n)) (.ref (He.ga K m)) = some (kin n m) ∧ PySem.W.exmOne K (.ref (He.ga K n)) (.ref (He.ga K m)) = some (kin n m) := by
  have q := List.all_eq_true.mp W.b n h
  rw [Bool.and_eq_true] at q
  have r := List.all_eq_true.mp q.2 m h2
  simp only [Bool.and_eq_true, decide_eq_true_eq] at r
  exact r
/-- the way out by an error of the class n that names x -/
def ErrW (K : PySem.W.Frag) (n : Str) (x : V) (H : Hp) (E : XK) : Prop := ∀ d H', Same H H' → H d = none → H' d = some (.xd [("what", x)]) → E (.ref (He.ga K n)) (some d) H'
theorem del_back {a dx : Addr} {C : Addr} {x : V} (ha : H a = none) (hne : dx ≠ a) : upd (del (upd (upd (upd H a (exo a C none)) dx (exd dx [("what", x)])) a (exo a C (some dx))) a) dx (.xd [("what", x)]) = upd H dx (.xd [("what", x)]) := by
  funext b
  by_cases c : b = dx
  · subst c
    rw [upd_same, upd_same]
  · rw [upd_ne c, upd_ne c]
    by_cases c2 : b = a
    · subst c2
      rw [ha]
      unfold del
      simp
    · unfold del
      simp only [if_neg c2]
      rw [upd_ne c2, upd_ne c, upd_ne c2]
end
end Fa
namespace Fa
open PySem PySem.Spec PyProof.Rows L2 Bd Es Dj Ef Re
section
variable {P : Program} {w : World} {K : PySem.W.Frag} {H H' : Hp} {O : List Addr} {B : BkT} {S : StM} {p : Rf} {t : Tr} {c : Chg}
theorem log_len : (logA S c).chg.length = S.chg.length + 1 := by show (S.chg ++ [c]).length = _; rw [List.length_append]; rfl
theorem okOut (h : p ∉ S.outs.map (·.1)) (h3 : t.rw.length ≤ 3) (hn : B.length + S.chg.length + 2 ≤ S.n ∧ S.outs.length + S.chg.length + 2 ≤ S.n) : OkA B (logA S c) (.out p (some t)) := by
  refine ⟨h, h3, ?_, ?_⟩
  · rw [log_len]; exact hn.1
  · rw [log_len]; exact hn.2
theorem okRem (h : p ∈ S.outs.map (·.1)) (hn : B.length + S.chg.length + 2 ≤ S.n ∧ S.outs.length + S.chg.length + 2 ≤ S.n) : OkA B (logA S c) (.out p none) := by
  refine ⟨h, ?_, ?_⟩
  · rw [log_len]; exact hn.1
  · rw [log_len]; exact hn.2
theorem befOut {r : Addr} (h : p ∉ S.outs.map (·.1)) (hr : SqT K H r [.int p.1, .int p.2]) {o : Option Tr} : ActAt P w K O H (.ref r) .non (undo (befA S (.out p o))) := by
  show ActAt P w K O H (.ref r) .non (.out p (lookM S.outs p))
  rw [lookM_no h]
  exact ⟨⟨r, rfl, hr⟩, rfl⟩
theorem befRem {r : Addr} {v : V} (h : lookM S.outs p = some t) (hr : SqT K H r [.int p.1, .int p.2]) (hv : OuAt P w K O H v t) {o : Option Tr} : ActAt P w K O H (.ref r) v (undo (befA S (.out p o))) := by
  show ActAt P w K O H (.ref r) v (.out p (lookM S.outs p))
  rw [h]
  exact ⟨⟨r, rfl, hr⟩, hv⟩
end
end Fa
namespace Re
open PySem PySem.Spec PyProof.Rows L2
theorem dnotinS {σ : L2.St} {H : Hp} {Q : VK} {ty td : TE} (k : ty σ H fun y H1 => td σ H1 fun x H2 => ∃ a o, x = .ref a ∧ DGet H2 a y o ∧ Q (.bl (!o.isSome)) H2) : tDNotIn ty td σ H Q := k
end Re
namespace Fa
open PySem PySem.Spec PyProof.Rows L2 Bd Es Dj Ef Re
def potKv (S : StM) : List (Key × V) := [(.inr "fees", .int S.fees), (.inr "reserve", .int S.res), (.inr "treasury", .int S.tre)]
theorem pot_id {S : StM} : mergeK [] (potKv S) = potKv S := merge_id (by show ([.inr "fees", .inr "reserve", .inr "treasury"] : List Key).Nodup; decide +kernel)
theorem pot_val {S : StM} {n : Nat} (h : n < 3) : valV (potKv S) (.inr (potName n)) = some (.int (potV S n)) := by
  obtain rfl | rfl | rfl : n = 0 ∨ n = 1 ∨ n = 2 := by omega
  · exact valV_pos rfl
  · exact (valV_neg (by show ¬ (.inr "fees" : Key) = .inr "reserve"; decide +kernel)).trans (valV_pos rfl)
  · exact (valV_neg (by show ¬ (.inr "fees" : Key) = .inr "treasury"; decide +kernel)).trans ((valV_neg (by show ¬ (.inr "reserve" : Key) = .inr "treasury"; decide +kernel)).trans (valV_pos rfl))
theorem pot_none {S : StM} : valV (potKv S) (.inr "purse") = none :=
  (valV_neg (by show ¬ (.inr "fees" : Key) = .inr "purse"; decide +kernel)).trans ((valV_neg (by show ¬ (.inr "reserve" : Key) = .inr "purse"; decide +kernel)).trans (valV_neg (by show ¬ (.inr "treasury" : Key) = .inr "purse"; decide +kernel)))
end Fa

set_option Elab.async false
set_option linter.all false
set_option maxRecDepth 100000
set_option maxHeartbeats 4000000
/-! A state and the law's own one beside it. -/
namespace Fa
open PySem PySem.Spec PyProof.Rows L2 Bd Es Dj Ef Re
section
variable {P : Program} {w : World} {K : PySem.W.Frag} {H H' : Hp} {A A' : SA} {S S' M M' : StM} {B B' : BkT} {D D' : MA} {U : List Addr}
theorem MdS.inO (h : MdS P w K H D M) : ∀ x ∈ D.O, (∀ xs, H x ≠ some (.tup xs)) ∧ (∀ C dx fs, H x ≠ some (.ins C dx fs)) := by
  obtain ⟨kv, h1, _⟩ := h.outs
  obtain ⟨av, h2, _⟩ := h.accs
  have g : ∀ {x : Addr} {o : HO}, H x = some o → (∀ xs, o ≠ .tup xs) → (∀ C dx fs, o ≠ .ins C dx fs) → (∀ xs, H x ≠ some (.tup xs)) ∧ (∀ C dx fs, H x ≠ some (.ins C dx fs)) := fun {x o} e n1 n2 =>
    ⟨fun xs q => n1 xs (Option.some.inj (e.symm.trans q)), fun C dx fs q => n2 C dx fs (Option.some.inj (e.symm.trans q))⟩
  intro x hx
  simp only [MA.O, List.mem_cons, List.not_mem_nil, or_false] at hx
  rcases hx with rfl | rfl | rfl | rfl | rfl
  · exact g h.m (fun _ z => by cases z) fun _ _ _ z => by cases z
  · exact g h1.2.choose_spec.1 (fun _ z => by cases z) fun _ _ _ z => by cases z
  · exact g h2 (fun _ z => by cases z) fun _ _ _ z => by cases z
  · exact g h.pots (fun _ z => by cases z) fun _ _ _ z => by cases z
  · exact g h.used (fun _ z => by cases z) fun _ _ _ z => by cases z
/-- the law's own state changes: the state stays -/
theorem StAt.mdl (h : StAt P w K H A S B) (hM : MdS P w K H D M) (z : ∀ x ∈ D.O, x ∈ A.z) (f : Fr K U H H') (hU : ∀ x ∈ U, x ∈ D.O) (l : ∀ x ∈ U, H' x ≠ none) : StAt P w K H' A S B :=
  h.fr f (fun x hx q => (h.zl x (z x (hU x q))).2 hx) (fun c dx fs _ C e q => (hM.inO c (hU c q)).2 _ _ _ e) (fun x q => .inl (List.mem_append_right _ (z x (hU x q)))) (fun a xs e q => (hM.inO a (hU a q)).1 _ e) fun x hx => by
    by_cases c : x ∈ U
    · exact l x c
    · cases e : H x with
      | none => exact absurd e (h.zl x hx).1
      | some o => rw [f.keep x o c e]; exact fun q => by cases q
/-- the state changes: the law's own one stays -/
theorem MdS.sta (hM : MdS P w K H D M) (h : StAt P w K H A S B) (z : ∀ x ∈ D.O, x ∈ A.z) (f : Fr K A.O H H') : MdS P w K H' D M := hM.fr f fun x hx q => (h.zl x (z x hx)).2 q
/-- what one may do to a state -/
def GoA (S : StM) : Act → Prop
  | .out p none => p ∈ S.outs.map (·.1)
  | .out p (some t) => p ∉ S.outs.map (·.1) ∧ t.rw.length ≤ 3
  | .pot n _ => n < 3
  | .use n b => b = true ∧ n ∉ S.used
  | .stk R => R.length ≤ 7
  | _ => True
/-- the references that the laws use -/
def RfOk (p : Rf) : Prop := (0 ≤ p.1 ∧ p.1 < 5 ∧ 0 ≤ p.2 ∧ p.2 < 20) ∨ (p.1 = 50 ∧ 0 ≤ p.2 ∧ p.2 < 110)
/-- good outputs, for comparing and for taking back -/
def OkM3 (M : MdT) : Prop := ∀ e ∈ M, OkTr e.2
theorem OkM3.okM {M : MdT} (h : OkM3 M) : OkM M := fun e he => ⟨(h e he).1, (h e he).2.2.2.1⟩
/-- both, and they look the same -/
structure Lw (P : Program) (w : World) (K : PySem.W.Frag) (H : Hp) (A : SA) (S : StM) (B : BkT) (D : MA) (M : StM) : Prop where
  st : StAt P w K H A S B
  md : MdS P w K H D M
  eq : SEq M S
  z : ∀ x ∈ D.O, x ∈ A.z
  nd : D.O.Nodup
  ok : OkM3 M.outs
theorem Lw.keep (h : Lw P w K H A S B D M) (s : Same H H') : Lw P w K H' A S B D M := ⟨h.st.keep s, h.md.keep s, h.eq, h.z, h.nd, h.ok⟩
theorem UpA.z (u : UpA H A A') : A'.z = A.z ∧ A'.t = A.t := by
  obtain ⟨ds, sk, rfl, _⟩ := u
  exact ⟨rfl, rfl⟩
/-- what a step of the law leaves -/
structure Stp (P : Program) (w : World) (K : PySem.W.Frag) (H H' : Hp) (A A' : SA) (S S' : StM) (B' : BkT) (D D' : MA) (M' : StM) (z : Int) : Prop where
  lw : Lw P w K H' A' S' B' D' M'
  up : UpA H A A'
  t : A'.t = A.t ∧ D'.m = D.m
  f : Fr K (A.O ++ D.O) H H'
  zs : (z = 0 ∧ S' = S) ∨ (z = 1 ∧ ∃ a, S' = doA S a ∧ GoA S a)
  ks : ∀ p ∈ S'.outs.map (·.1), p ∈ S.outs.map (·.1) ∨ RfOk p
  o : D'.O = D.O
theorem MA.ne (hd : D.O.Nodup) : (D.pt ≠ D.m ∧ D.pt ≠ D.o ∧ D.pt ≠ D.ac ∧ D.pt ≠ D.us) ∧ (D.us ≠ D.m ∧ D.us ≠ D.o ∧ D.us ≠ D.ac) ∧ (D.ac ≠ D.m ∧ D.ac ≠ D.o) ∧ D.o ≠ D.m := by
  simp only [MA.O, List.nodup_cons, List.mem_cons, not_or, List.not_mem_nil, not_false_iff, and_true] at hd
  obtain ⟨⟨a1, a2, a3, a4⟩, ⟨b1, b2, b3⟩, ⟨c1, c2⟩, d1, _⟩ := hd
  exact ⟨⟨Ne.symm a3, Ne.symm b2, Ne.symm c1, d1⟩, ⟨Ne.symm a4, Ne.symm b3, Ne.symm c2⟩, ⟨Ne.symm a2, Ne.symm b1⟩, Ne.symm a1⟩
/-- the law's own pots -/
theorem MdS.upP (hM : MdS P w K H D M) (hd : D.O.Nodup) (e : M'.outs = M.outs ∧ M'.accs = M.accs ∧ M'.stk = M.stk ∧ M'.used = M.used ∧ M'.slot = M.slot ∧ M'.epo = M.epo) :
    Fr K [D.pt] H (upd H D.pt (.lst [.int M'.fees, .int M'.res, .int M'.tre])) ∧ MdS P w K (upd H D.pt (.lst [.int M'.fees, .int M'.res, .int M'.tre])) D M' := by
  have f : Fr K [D.pt] H (upd H D.pt (.lst [.int M'.fees, .int M'.res, .int M'.tre])) := Fr.list hM.pots (List.mem_singleton.mpr rfl)
  obtain ⟨⟨n1, n2, n3, n4⟩, _⟩ := MA.ne hd
  have nn : ∀ {x : Addr}, D.pt ≠ x → x ∉ [D.pt] := fun h q => h (List.mem_singleton.mp q).symm
  obtain ⟨kv, h1, h2⟩ := hM.outs
  obtain ⟨av, h3, h4⟩ := hM.accs
  obtain ⟨xs, h5, h6⟩ := hM.stk
  obtain ⟨e1, e2, e3, e4, e5, e6⟩ := e
  exact ⟨f, {
    m := f.keep _ _ (nn n1) hM.m
    outs := by rw [e1]; exact ⟨kv, f.ds (nn n2) h1, Paired.mapP h2 fun _ _ ⟨e, q⟩ => ⟨e, f.dp (encTr_nl _) q⟩⟩
    ond := by rw [e1]; exact hM.ond
    accs := by rw [e2]; exact ⟨av, f.keep _ _ (nn n3) h3, Paired.mapP h4 fun _ _ ⟨e, y, e2, q⟩ => ⟨e, y, e2, f.tup _ _ q⟩⟩
    and_ := by rw [e2]; exact hM.and_
    stk := by rw [e3]; exact ⟨xs, f.tup _ _ h5, f.dpAll (nlMap encP2_nl) h6⟩
    pots := upd_same
    clk := by rw [e5, e6]; exact f.tup _ _ hM.clk
    used := by rw [e4]; exact f.keep _ _ (nn n4) hM.used
    und := by rw [e4]; exact hM.und }⟩
/-- .. its used numbers -/
theorem MdS.upU {V0 : List Int} (hM : MdS P w K H D M) (hd : D.O.Nodup) (nd : V0.Nodup) :
    Fr K [D.us] H (upd H D.us (.lst (V0.map V.int))) ∧ MdS P w K (upd H D.us (.lst (V0.map V.int))) D { M with used := V0 } := by
  have f : Fr K [D.us] H (upd H D.us (.lst (V0.map V.int))) := Fr.list hM.used (List.mem_singleton.mpr rfl)
  obtain ⟨⟨_, _, _, n4⟩, ⟨n1, n2, n3⟩, _⟩ := MA.ne hd
  have nn : ∀ {x : Addr}, D.us ≠ x → x ∉ [D.us] := fun h q => h (List.mem_singleton.mp q).symm
  obtain ⟨kv, h1, h2⟩ := hM.outs
  obtain ⟨av, h3, h4⟩ := hM.accs
  obtain ⟨xs, h5, h6⟩ := hM.stk
  exact ⟨f, {
    m := f.keep _ _ (nn n1) hM.m
    outs := ⟨kv, f.ds (nn n2) h1, Paired.mapP h2 fun _ _ ⟨e, q⟩ => ⟨e, f.dp (encTr_nl _) q⟩⟩
    ond := hM.ond
    accs := ⟨av, f.keep _ _ (nn n3) h3, Paired.mapP h4 fun _ _ ⟨e, y, e2, q⟩ => ⟨e, y, e2, f.tup _ _ q⟩⟩
    and_ := hM.and_
    stk := ⟨xs, f.tup _ _ h5, f.dpAll (nlMap encP2_nl) h6⟩
    pots := f.keep _ _ (nn n4.symm) hM.pots
    clk := f.tup _ _ hM.clk
    used := upd_same
    und := nd }⟩
end
end Fa

namespace Bd
open PySem PySem.Spec PyProof.Rows L2
theorem op_in_seqK {X : Cx} {K : PySem.W.Frag} (h : X.K = K) : OpR X (compareOp .In) (rIn K false) := h ▸ op_in_seq
theorem tryMeth {σ : L2.St} {H : Hp} {D : Ends} {C : Addr} {m : Str} {sp : Sp} {E : L2.St → XK} {ta : TE} {t : TA} (k : ta σ H fun x H1 => ∃ a dx fs, x = .ref a ∧ H1 a = some (.ins C dx fs) ∧ fs.lookup m = none ∧ t σ H1 fun vs H2 => sp (x :: vs) H2 (fun _ H' => D.nx σ H') (E σ)) : tDrop (tMethS C m sp E ta t) D σ H := k
end Bd
namespace Fa
open PySem PySem.Spec PyProof.Rows L2 Bd Es Dj Ef Re
def potN : Nat → Str
  | 3 => "purse"
  | n => potName n
theorem potN_at {j : Nat} (h : j < 4) : atI [V.str (Rd.S [102, 101, 101, 115]), V.str (Rd.S [114, 101, 115, 101, 114, 118, 101]), V.str (Rd.S [116, 114, 101, 97, 115, 117, 114, 121]), V.str (Rd.S [112, 117, 114, 115, 101])] (j : Int) = some (.str (potN j)) := by
  obtain rfl | rfl | rfl | rfl : j = 0 ∨ j = 1 ∨ j = 2 ∨ j = 3 := by omega
  all_goals rfl
theorem potN_is {j : Nat} (h : j < 4) : (j < 3 ∧ potN j = potName j) ∨ (j = 3 ∧ potN j = "purse") := by
  obtain rfl | rfl | rfl | rfl : j = 0 ∨ j = 1 ∨ j = 2 ∨ j = 3 := by omega
  · exact .inl ⟨by omega, rfl⟩
  · exact .inl ⟨by omega, rfl⟩
  · exact .inl ⟨by omega, rfl⟩
  · exact .inr ⟨rfl, rfl⟩
theorem potN_purse {j : Nat} (h : j < 4) : (potN j = (Rd.S [112, 117, 114, 115, 101])) ↔ j = 3 := by
  obtain rfl | rfl | rfl | rfl : j = 0 ∨ j = 1 ∨ j = 2 ∨ j = 3 := by omega
  all_goals decide
end Fa

namespace Fa
open PySem PySem.Spec PyProof.Rows L2 Bd Es Dj Ef Re
/-- a drawn number, by its place -/
theorem ixG {K : PySem.W.Frag} {H : Hp} {Q : VK} {b : Addr} {ns : List Int} {i : Int} {m : Nat} (hb : H b = some (.lst (ns.map V.int))) (e : i = (m : Int)) (h : m < ns.length) (k : Q (.int (ns.getD m 0)) H) : rIxL K (.ref b) (.int i) H Q := by
  subst e
  exact Rd.ixL (SqL.of hb) (Rd.atI_ints (by omega) (by omega)) (by rw [Int.toNat_natCast]; exact k)
theorem B3.at {ns : List Int} (h : B3 ns) {m : Nat} (hm : m < ns.length) : 0 ≤ ns.getD m 0 ∧ ns.getD m 0 < 1000 := by
  rw [List.getD_eq_getElem?_getD, List.getElem?_eq_getElem hm]
  exact h _ (List.getElem_mem hm)
end Fa

namespace Fa
open PySem PySem.Spec PyProof.Rows L2 Bd Es Dj Ef Re
theorem pot_ix {j : Nat} {a b c : V} (h : j < 3) : ixN [a, b, c].length (j : Int) = some j := by
  obtain rfl | rfl | rfl : j = 0 ∨ j = 1 ∨ j = 2 := by omega
  all_goals rfl
theorem pot_set {M : StM} {x : Int} {j : Nat} (h : j < 3) : [V.int M.fees, .int M.res, .int M.tre].set j (.int x) = [.int (putPot M x j).fees, .int (putPot M x j).res, .int (putPot M x j).tre] := by
  obtain rfl | rfl | rfl : j = 0 ∨ j = 1 ∨ j = 2 := by omega
  all_goals rfl
theorem pot_same {M : StM} {x : Int} {j : Nat} : (putPot M x j).outs = M.outs ∧ (putPot M x j).accs = M.accs ∧ (putPot M x j).stk = M.stk ∧ (putPot M x j).used = M.used ∧ (putPot M x j).slot = M.slot ∧ (putPot M x j).epo = M.epo := by
  match j with
  | 0 => exact ⟨rfl, rfl, rfl, rfl, rfl, rfl⟩
  | 1 => exact ⟨rfl, rfl, rfl, rfl, rfl, rfl⟩
  | n + 2 => exact ⟨rfl, rfl, rfl, rfl, rfl, rfl⟩
theorem SEq.pot {M S : StM} {x : Int} {j : Nat} (e : SEq M S) : SEq (putPot M x j) (doA S (.pot j x)) := by
  match j with
  | 0 => exact ⟨rfl, e.res, e.tre, e.slot, e.epo, e.stk, e.outs, e.accs, e.used⟩
  | 1 => exact ⟨e.fees, rfl, e.tre, e.slot, e.epo, e.stk, e.outs, e.accs, e.used⟩
  | n + 2 => exact ⟨e.fees, e.res, rfl, e.slot, e.epo, e.stk, e.outs, e.accs, e.used⟩
section
variable {P : Program} {w : World} {K : PySem.W.Frag} {H H1 H2 H3 : Hp} {A A2 : SA} {S S2 M M2 : StM} {B B2 : BkT} {D : MA} {U : List Addr}
/-- a step that changed nothing -/
theorem Stp.no (h : Lw P w K H A S B D M) (s : Same H H1) : Stp P w K H H1 A A S S B D D M 0 :=
  ⟨h.keep s, ⟨A.ds, A.sk, rfl, fun x hx => .inl hx⟩, ⟨rfl, rfl⟩, .of s, .inl ⟨rfl, rfl⟩, fun _ h => .inl h, rfl⟩
/-- a step that changed the state, then the law's own one -/
theorem Stp.yes {a : Fa.Act} (h : Lw P w K H1 A S B D M) (s : Same H H1) (f2 : Fr K A.O H1 H2) (u2 : UpA H1 A A2) (st2 : StAt P w K H2 A2 (doA S a) B2) (g : Fr K U H2 H3) (hU : ∀ x ∈ U, x ∈ D.O) (l : ∀ x ∈ U, H3 x ≠ none) (m3 : MdS P w K H3 D M2) (e : SEq M2 (doA S a)) (ok : OkM3 M2.outs) (ks : ∀ p ∈ (doA S a).outs.map (·.1), p ∈ S.outs.map (·.1) ∨ RfOk p) (ga : GoA S a) : Stp P w K H H3 A A2 S (doA S a) B2 D D M2 1 := by
  have z2 : ∀ x ∈ D.O, x ∈ A2.z := fun x hx => by rw [u2.z.1]; exact h.z x hx
  have hM2 := h.md.sta h.st h.z f2
  refine ⟨⟨st2.mdl hM2 z2 g hU l, m3, e, z2, h.nd, ok⟩, ?_, ⟨u2.z.2, rfl⟩, (Fr.of s).trans ((f2.mono fun x hx => List.mem_append_left _ hx).trans (g.mono fun x hx => List.mem_append_right _ (hU x hx))), .inr ⟨rfl, a, rfl, ga⟩, ks, rfl⟩
  exact u2.back (K := K) (O := A.O) (.of s) h.st.liveO
end
end Fa

namespace Fa
open PySem PySem.Spec PyProof.Rows L2 Bd Es Dj Ef Re
theorem SEq.use {M S : StM} {n : Int} (e : SEq M S) : SEq { M with used := M.used ++ [n] } (doA S (.use n true)) :=
  ⟨e.fees, e.res, e.tre, e.slot, e.epo, e.stk, e.outs, e.accs, e.used.append_right [n]⟩
theorem nd_snoc {l : List Int} {n : Int} (h : l.Nodup) (hn : n ∉ l) : (l ++ [n]).Nodup := by
  rw [List.nodup_append]
  exact ⟨h, by simp, fun a ha b hb => by rw [List.mem_singleton.mp hb]; exact fun e => hn (e ▸ ha)⟩
end Fa

namespace Fa
open PySem PySem.Spec PyProof.Rows L2 Bd Es Dj Ef Re
theorem inInt {n : Int} : ∀ {l : List Int}, inV (.int n) (l.map V.int) = decide (n ∈ l)
  | [] => rfl
  | x :: l => by
    show ((x == n) || inV (.int n) (l.map V.int)) = _
    rw [inInt]
    by_cases c : n = x
    · simp [c]
    · simp [c, Ne.symm c]
theorem flInt : ∀ {l : List Int}, (l.map V.int).all flatV = true
  | [] => rfl
  | x :: l => by
    show (true && (l.map V.int).all flatV) = true
    rw [flInt]; rfl
/-- a number in a list of numbers -/
theorem inI {K : PySem.W.Frag} {H : Hp} {Q : VK} {p : Addr} {n : Int} {l : List Int} (h : H p = some (.lst (l.map V.int))) (k : Q (.bl (decide (n ∈ l))) H) : rIn K false (.int n) (.ref p) H Q :=
  ⟨p, _, rfl, .inl (SqL.of h), rfl, flInt, by rw [if_neg (by decide), inInt]; exact k⟩
end Fa
namespace Fa
theorem pot_keys {S : StM} {j : Nat} {v : Int} : ∀ p ∈ (doA S (.pot j v)).outs.map (·.1), p ∈ S.outs.map (·.1) ∨ RfOk p := by
  match j with
  | 0 => exact fun _ h => .inl h
  | 1 => exact fun _ h => .inl h
  | n + 2 => exact fun _ h => .inl h
end Fa

set_option Elab.async false
set_option linter.all false
set_option maxRecDepth 100000
set_option maxHeartbeats 4000000
/-! The law's own state changes: its outputs, accounts, clock, stakes. -/
namespace Es
open PySem PySem.Spec PyProof.Rows L2
section
variable {X : Cx} {P : Program} {w : World} {K : PySem.W.Frag} {i o e value : Expr} {pos pos' apos cpos : Pos} {ty td tv : TE}
theorem pc_dinXK (hP : X.prog = P) (hw : X.w = w) (hK : X.K = K) (hu : X.A.units + 1 < cLine) (hi : PE X i ty) (ho : PE X o td) : PC X .In i o (tDInX P w K ty td) := by
  subst hP; subst hw; subst hK; exact pc_dinX hu hi ho
theorem pc_dnotinXK (hP : X.prog = P) (hw : X.w = w) (hK : X.K = K) (hu : X.A.units + 1 < cLine) (hi : PE X i ty) (ho : PE X o td) : PC X .NotIn i o (tDNotInX P w K ty td) := by
  subst hP; subst hw; subst hK; exact pc_dnotinX hu hi ho
theorem pe_dgetXK (hP : X.prog = P) (hw : X.w = w) (hK : X.K = K) (hu : X.A.units + 1 < cLine) (ho : PE X o td) (hi : PE X i ty) (hs : NoSl i) : PE X (.Subscript o i pos) (tDGetX P w K td ty) := by
  subst hP; subst hw; subst hK; exact pe_dgetX hu ho hi hs
theorem ps_dputXK (hP : X.prog = P) (hw : X.w = w) (hK : X.K = K) (hu : X.A.units + 1 < cLine) (ho : PE X o td) (hi : PE X i ty) (hv : PE X value tv) (hs : swapsWith value (some (.Subscript o i pos')) pos.line X.env = pure false) :
    PS X (.Assign [.Subscript o i pos'] value pos) (sDPutX P w K td ty tv) := by
  subst hP; subst hw; subst hK; exact ps_dputX hu ho hi hv hs
theorem pe_dpopXK (hP : X.prog = P) (hw : X.w = w) (hK : X.K = K) (hu : X.A.units + 1 < cLine) (ho : PE X o td) (he : PE X e ty) (m : M1 X o "pop" apos e cpos) : PE X (.Call (.Attribute o "pop" apos) [e] [] cpos) (tDPopX P w K td ty) := by
  subst hP; subst hw; subst hK; exact pe_dpopX hu ho he m
end
end Es
namespace Bd
open PySem PySem.Spec PyProof.Rows L2
theorem meS {σ : L2.St} {H : Hp} {Q : VK} {C : Addr} {m : Str} {sp : Sp} {E : L2.St → XK} {ta : TE} {t : TA} (k : ta σ H fun x H1 => ∃ a dx fs, x = .ref a ∧ H1 a = some (.ins C dx fs) ∧ fs.lookup m = none ∧ t σ H1 fun vs H2 => sp (x :: vs) H2 Q (E σ)) : tMethS C m sp E ta t σ H Q := k
end Bd
namespace Fa
open PySem PySem.Spec PyProof.Rows L2 Bd Es Dj Ef Re
section
variable {P : Program} {w : World} {K : PySem.W.Frag} {H H' : Hp} {D : MA} {M M' S : StM}
theorem MdS.upO {kv' : List (List Key × V)} {L : MdT} {ys : List (List Key × Addr × Value)} (hM : MdS P w K H D M) (hd : D.O.Nodup) (hD : DS P w K (upd H D.o (dX P w D.o ys)) D.o kv') (hP : Paired (MoR K H) kv' L) (nd : (L.map (·.1)).Nodup) :
    Fr K [D.o] H (upd H D.o (dX P w D.o ys)) ∧ MdS P w K (upd H D.o (dX P w D.o ys)) D { M with outs := L } := by
  obtain ⟨kv, h1, h2⟩ := hM.outs
  have f : Fr K [D.o] H (upd H D.o (dX P w D.o ys)) := Fr.dict h1.2.choose_spec.1 (List.mem_singleton.mpr rfl)
  obtain ⟨⟨_, n1, _, _⟩, ⟨_, n2, _⟩, ⟨_, n3⟩, n4⟩ := MA.ne hd
  have nn : ∀ {x : Addr}, x ≠ D.o → x ∉ [D.o] := fun h q => h (List.mem_singleton.mp q)
  obtain ⟨av, h3, h4⟩ := hM.accs
  obtain ⟨xs, h5, h6⟩ := hM.stk
  exact ⟨f, {
    m := f.keep _ _ (nn n4.symm) hM.m
    outs := ⟨kv', hD, Paired.mapP hP fun _ _ ⟨e, q⟩ => ⟨e, f.dp (encTr_nl _) q⟩⟩
    ond := nd
    accs := ⟨av, f.keep _ _ (nn n3) h3, Paired.mapP h4 fun _ _ ⟨e, y, e2, q⟩ => ⟨e, y, e2, f.tup _ _ q⟩⟩
    and_ := hM.and_
    stk := ⟨xs, f.tup _ _ h5, f.dpAll (nlMap encP2_nl) h6⟩
    pots := f.keep _ _ (nn n1) hM.pots
    clk := f.tup _ _ hM.clk
    used := f.keep _ _ (nn n2) hM.used
    und := hM.und }⟩
theorem MdS.upA {kv' : List (Key × V)} {L : List (Int × (Int × Int))} (hM : MdS P w K H D M) (hd : D.O.Nodup) (hP : Paired (AccR K H) kv' L) (nd : (L.map (·.1)).Nodup) :
    Fr K [D.ac] H (upd H D.ac (.dK kv')) ∧ MdS P w K (upd H D.ac (.dK kv')) D { M with accs := L } := by
  obtain ⟨av, h3, h4⟩ := hM.accs
  have f : Fr K [D.ac] H (upd H D.ac (.dK kv')) := Fr.dk h3 (List.mem_singleton.mpr rfl)
  obtain ⟨⟨_, _, n1, _⟩, ⟨_, _, n2⟩, ⟨n3, n4⟩, _⟩ := MA.ne hd
  have nn : ∀ {x : Addr}, x ≠ D.ac → x ∉ [D.ac] := fun h q => h (List.mem_singleton.mp q)
  obtain ⟨kv, h1, h2⟩ := hM.outs
  obtain ⟨xs, h5, h6⟩ := hM.stk
  exact ⟨f, {
    m := f.keep _ _ (nn n3.symm) hM.m
    outs := ⟨kv, f.ds (nn n4.symm) h1, Paired.mapP h2 fun _ _ ⟨e, q⟩ => ⟨e, f.dp (encTr_nl _) q⟩⟩
    ond := hM.ond
    accs := ⟨kv', upd_same, Paired.mapP hP fun _ _ ⟨e, y, e2, q⟩ => ⟨e, y, e2, f.tup _ _ q⟩⟩
    and_ := nd
    stk := ⟨xs, f.tup _ _ h5, f.dpAll (nlMap encP2_nl) h6⟩
    pots := f.keep _ _ (nn n1) hM.pots
    clk := f.tup _ _ hM.clk
    used := f.keep _ _ (nn n2) hM.used
    und := hM.und }⟩
/-- the law's own dict itself -/
theorem MdS.upM {D' : MA} (hM : MdS P w K H D M) (hd : D.O.Nodup) (e : D'.m = D.m ∧ D'.o = D.o ∧ D'.ac = D.ac ∧ D'.pt = D.pt ∧ D'.us = D.us) (e2 : M'.outs = M.outs ∧ M'.accs = M.accs ∧ M'.used = M.used ∧ M'.fees = M.fees ∧ M'.res = M.res ∧ M'.tre = M.tre)
    (hs : ∃ xs, SqT K H D'.sk xs ∧ DpAll K H xs (M'.stk.map encP2)) (hc : SqT K H D'.ck [.int M'.slot, .int M'.epo]) :
    Fr K [D.m] H (upd H D.m (.dK (mdKv D'))) ∧ MdS P w K (upd H D.m (.dK (mdKv D'))) D' M' := by
  have f : Fr K [D.m] H (upd H D.m (.dK (mdKv D'))) := Fr.dk hM.m (List.mem_singleton.mpr rfl)
  obtain ⟨⟨n1, _, _, _⟩, ⟨n2, _, _⟩, ⟨n3, _⟩, n4⟩ := MA.ne hd
  have nn : ∀ {x : Addr}, x ≠ D.m → x ∉ [D.m] := fun h q => h (List.mem_singleton.mp q)
  obtain ⟨kv, h1, h2⟩ := hM.outs
  obtain ⟨av, h3, h4⟩ := hM.accs
  obtain ⟨xs, h5, h6⟩ := hs
  obtain ⟨a1, a2, a3, a4, a5⟩ := e
  obtain ⟨b1, b2, b3, b4, b5, b6⟩ := e2
  exact ⟨f, {
    m := by rw [a1]; exact upd_same
    outs := by rw [a2, b1]; exact ⟨kv, f.ds (nn n4) h1, Paired.mapP h2 fun _ _ ⟨e, q⟩ => ⟨e, f.dp (encTr_nl _) q⟩⟩
    ond := by rw [b1]; exact hM.ond
    accs := by rw [a3, b2]; exact ⟨av, f.keep _ _ (nn n3) h3, Paired.mapP h4 fun _ _ ⟨e, y, e2, q⟩ => ⟨e, y, e2, f.tup _ _ q⟩⟩
    and_ := by rw [b2]; exact hM.and_
    stk := ⟨xs, f.tup _ _ h5, f.dpAll (nlMap encP2_nl) h6⟩
    pots := by rw [a4, b4, b5, b6]; exact f.keep _ _ (nn n1) hM.pots
    clk := f.tup _ _ hc
    used := by rw [a5, b3]; exact f.keep _ _ (nn n2) hM.used
    und := by rw [b3]; exact hM.und }⟩
theorem putM_clk {D : MA} {z : Addr} : putK (mdKv D) kC (.ref z) = mdKv { D with ck := z } := by
  show putK [(kO, V.ref D.o), (kA, .ref D.ac), (kS, .ref D.sk), (kP, .ref D.pt), (kC, .ref D.ck), (kU, .ref D.us)] kC (.ref z) = _
  have n : kO ≠ kC ∧ kA ≠ kC ∧ kS ≠ kC ∧ kP ≠ kC ∧ kU ≠ kC := by decide +kernel
  obtain ⟨a1, a2, a3, a4, a5⟩ := n
  unfold putK
  rw [if_pos (by simp)]
  simp only [List.map_cons, List.map_nil, if_neg a1, if_neg a2, if_neg a3, if_neg a4, if_neg a5, if_pos]
theorem putM_stk {D : MA} {z : Addr} : putK (mdKv D) kS (.ref z) = mdKv { D with sk := z } := by
  show putK [(kO, V.ref D.o), (kA, .ref D.ac), (kS, .ref D.sk), (kP, .ref D.pt), (kC, .ref D.ck), (kU, .ref D.us)] kS (.ref z) = _
  have n : kO ≠ kS ∧ kA ≠ kS ∧ kP ≠ kS ∧ kC ≠ kS ∧ kU ≠ kS := by decide +kernel
  obtain ⟨a1, a2, a3, a4, a5⟩ := n
  unfold putK
  rw [if_pos (by simp)]
  simp only [List.map_cons, List.map_nil, if_neg a1, if_neg a2, if_neg a3, if_neg a4, if_neg a5, if_pos]
theorem SEq.out {p : Rf} {t : Tr} (e : SEq M S) : SEq { M with outs := M.outs ++ [(p, t)] } (doA S (.out p (some t))) :=
  ⟨e.fees, e.res, e.tre, e.slot, e.epo, e.stk, e.outs.append_right [(p, t)], e.accs, e.used⟩
theorem SEq.rem {p : Rf} (e : SEq M S) : SEq { M with outs := M.outs.filter fun x => decide (x.1 ≠ p) } (doA S (.out p none)) :=
  ⟨e.fees, e.res, e.tre, e.slot, e.epo, e.stk, e.outs.filter _, e.accs, e.used⟩
theorem SEq.clk {s t : Int} (e : SEq M S) : SEq { M with slot := s, epo := t } (doA S (.clk s t)) :=
  ⟨e.fees, e.res, e.tre, rfl, rfl, e.stk, e.outs, e.accs, e.used⟩
theorem SEq.stk_ {R : List (Int × Int)} (e : SEq M S) : SEq { M with stk := R } (doA S (.stk R)) :=
  ⟨e.fees, e.res, e.tre, e.slot, e.epo, rfl, e.outs, e.accs, e.used⟩
theorem setA_perm {l m : List (Int × (Int × Int))} {k : Int} {o : Option (Int × Int)} (h : l.Perm m) (hl : (l.map (·.1)).Nodup) : (setA l k o).Perm (setA m k o) := by
  cases o with
  | none => exact h.filter _
  | some q =>
    rw [setA_some, setA_some]
    have e : (l.any fun e => decide (e.1 = k)) = m.any fun e => decide (e.1 = k) := by
      cases c : l.any fun e => decide (e.1 = k) with
      | true =>
        obtain ⟨x, hx, hx2⟩ := List.any_eq_true.mp c
        exact (List.any_eq_true.mpr ⟨x, h.subset hx, hx2⟩).symm
      | false =>
        cases d : m.any fun e => decide (e.1 = k) with
        | false => rfl
        | true =>
          obtain ⟨x, hx, hx2⟩ := List.any_eq_true.mp d
          rw [List.any_eq_true.mpr ⟨x, h.symm.subset hx, hx2⟩] at c
          cases c
    rw [e]
    split
    · exact h.map _
    · exact h.append_right _
theorem SEq.acc {k : Int} {o : Option (Int × Int)} (e : SEq M S) (hm : (M.accs.map (·.1)).Nodup) : SEq { M with accs := setA M.accs k o } (doA S (.acc k o)) :=
  ⟨e.fees, e.res, e.tre, e.slot, e.epo, e.stk, e.outs, setA_perm e.accs hm, e.used⟩
/-- a reference in the law's own outputs -/
theorem MdS.look {r : Addr} {p : Rf} (hM : MdS P w K H D M) (hr : SqT K H r [.int p.1, .int p.2]) : ∃ o, GX P w K H D.o (.ref r) o ∧ ((p ∈ M.outs.map (·.1) ∧ ∃ t v, lookM M.outs p = some t ∧ o = some v ∧ Dp K H v (encTr t)) ∨ (p ∉ M.outs.map (·.1) ∧ o = none)) := by
  obtain ⟨kv, hD, hP⟩ := hM.outs
  refine ⟨_, ⟨kv, eR p, r, hD, rfl, hr, rfl⟩, ?_⟩
  rcases mo_look (p := p) hP with ⟨t, v, h1, h2, h3⟩ | ⟨h1, h2⟩
  · exact .inl ⟨List.mem_map_of_mem (f := (·.1)) (lookM_in h1), t, v, h1, h2, h3⟩
  · refine .inr ⟨fun q => ?_, h2⟩
    obtain ⟨t, ht⟩ := lookM_yes q
    rw [h1] at ht; cases ht
theorem drop_mo {kv : List (List Key × V)} {L : MdT} {p : Rf} (h : Paired (MoR K H) kv L) : Paired (MoR K H) (dropK kv (eR p)) (L.filter fun e => decide (e.1 ≠ p)) := by
  induction h with
  | nil => exact Paired.nil
  | @cons x y ks L h t ih =>
    by_cases c : y.1 = p
    · rw [show dropK (x :: ks) (eR p) = dropK ks (eR p) from List.filter_cons_of_neg (by simp [h.1, c]), List.filter_cons_of_neg (by simp [c])]
      exact ih
    · have c2 : ¬ x.1 = eR p := fun z => c (eR_inj (h.1.symm.trans z))
      rw [show dropK (x :: ks) (eR p) = x :: dropK ks (eR p) from List.filter_cons_of_pos (by simpa using c2), List.filter_cons_of_pos (by simpa using c)]
      exact Paired.cons h ih
end
end Fa
namespace Fa
open PySem PySem.Spec PyProof.Rows L2 Bd Es Dj Ef Re
theorem nrm_app {R : List (Ast × Int)} {n : Str} {i z : Int} (h : Nrm R) (hl : ∀ e ∈ R, (e.1.1.cps.toList < n.cps.toList ∧ e.1.1 ≠ n) ∨ False) (hz : 0 < z) : Nrm (R ++ [((n, i), z)]) := by
  have hh : ∀ e ∈ R, e.1.1.cps.toList < n.cps.toList ∧ e.1.1 ≠ n := fun e he => (hl e he).elim id False.elim
  refine ⟨List.pairwise_append.mpr ⟨h.srt, List.pairwise_singleton _ _, fun a ha b hb => ?_⟩, ?_, fun e he => ?_⟩
  · rw [List.mem_singleton.mp hb]
    obtain ⟨h1, h2⟩ := hh a ha
    unfold ltSI
    rw [if_neg (fun q => h2 (show n = a.1.1 from q).symm)]
    exact decide_eq_false (fun q => (List.lt_asymm h1 q))
  · rw [List.map_append, List.nodup_append]
    refine ⟨h.nd, by simp, fun a ha b hb => ?_⟩
    rw [List.map_singleton, List.mem_singleton] at hb
    obtain ⟨x, hx, rfl⟩ := List.mem_map.mp ha
    intro q
    exact (hh x hx).2 (by rw [q, hb])
  · rcases List.mem_append.mp he with q | q
    · exact h.nz e q
    · rw [List.mem_singleton.mp q]
      show z ≠ 0
      omega
end Fa
namespace Dj
open PySem PySem.Spec PyProof.Rows L2
/-- a list of data against the empty list -/
theorem neNilL {K : PySem.W.Frag} {H : Hp} {Q : VK} {x : V} {y : Addr} {ds : List PyData} (hx : Dp K H x (.list ds)) (hy : SqL K H y []) (sh : SeqAt.shaped (.list ds) = true) (k : Q (.bl (!ds.isEmpty)) H) : rNeD K x (.ref y) H Q := by
  refine ⟨.list ds, .list [], hx, .lst hy .nil, sh, rfl, ?_⟩
  cases ds with
  | nil => exact k
  | cons d ds => exact k
end Dj
namespace Fa
open PySem PySem.Spec PyProof.Rows L2 Bd Es Dj Ef Re
/-- an item of a list of pairs of numbers -/
theorem p2Ix {K : PySem.W.Frag} {H : Hp} {Q : VK} {q : Addr} {xs : List V} {R : List (Int × Int)} {i : Int} (hq : SqL K H q xs) (hx : DpAll K H xs (R.map encP2)) (h0 : 0 ≤ i) (h1 : i < xs.length) (k : ∀ z p, p ∈ R → SqT K H z [.int p.1, .int p.2] → Q (.ref z) H) : rIxL K (.ref q) (.int i) H Q := by
  obtain ⟨j, rfl⟩ := Int.eq_ofNat_of_zero_le h0
  have hj : j < xs.length := by omega
  have e := List.getElem?_eq_getElem hj
  obtain ⟨d, hd, hp⟩ := dpAll_at hx e
  obtain ⟨p, hp2, rfl⟩ := map_at hd
  obtain ⟨z, u, v, e2, hz, hu, hv⟩ := dp_pair hp
  cases dp_int hu; cases dp_int hv
  exact Rd.ixL hq (atI_nat (e.trans (by rw [e2]))) (k z p (List.mem_of_getElem? hp2) hz)
end Fa
namespace Fa
open PySem PySem.Spec PyProof.Rows L2 Bd Es Dj Ef Re
section
variable {N : List Str} {K : PySem.W.Frag} {mg : Str → Option Value} {H : Hp} {Q : VK}
/-- isinstance(e, a class of the family) in the suite -/
theorem isiE (We : StErr N K mg) {n m : Str} {a d : Addr} {x : V} (hn : n ∈ N) (hm : m ∈ N) (b : Bool) (hb : kin n m = b) (hd : H d = some (.xd [("what", x)])) (k : Q (.bl b) H) : rIsG K a (.ref (He.ga K n)) (some d) [.ref a, .ref (He.ga K m)] H Q :=
  ⟨_, d, rfl, rfl, (We.x n hn).x, .ref (He.ga K m), .ref (He.ga K m), _, b, rfl, .own _, hd, by rw [← hb]; exact (We.kit n m hn hm).1, k⟩
/-- e.what in the suite -/
theorem xgE (We : StErr N K mg) {n : Str} {a d : Addr} {x : V} {σ : L2.St} {i : Nat} (hn : n ∈ N) (hs : σ[i]? = some (some (.ref a))) (hd : H d = some (.xd [("what", x)])) (k : Q x H) : tXg K a (.ref (He.ga K n)) (some d) "what" (tVar i) σ H Q :=
  Rd.var hs ⟨rfl, He.ga K n, d, _, x, rfl, rfl, Bd.ExcC.xf (We.x n hn).x, (We.x n hn).nw, hd, rfl, k⟩
theorem ints_of {l : List Int} : ∀ {xs : List V}, DpAll K H xs (l.map PyData.int) → xs = l.map V.int := by
  intro xs h
  induction l generalizing xs with
  | nil => cases h; rfl
  | cons n l ih =>
    cases h with
    | cons a b => cases dp_int a; rw [ih b]; rfl
end
end Fa
namespace Re
open PySem PySem.Spec PyProof.Rows L2 Es
theorem dnotX {P : Program} {w : World} {K : PySem.W.Frag} {σ : L2.St} {H : Hp} {Q : VK} {ty td : TE} (k : ty σ H fun y H1 => td σ H1 fun x H2 => ∃ a o, x = .ref a ∧ GX P w K H2 a y o ∧ Q (.bl (!o.isSome)) H2) : tDNotInX P w K ty td σ H Q := k
end Re
namespace Fa
open PySem PySem.Spec PyProof.Rows L2 Bd Es Dj Ef Re
section
variable {P : Program} {w : World} {K : PySem.W.Frag} {H H1 H2 H3 : Hp} {A A2 : SA} {S S2 M M2 : StM} {B B2 : BkT} {D D2 : MA} {U : List Addr}
theorem UpA.sub (u : UpA H A A2) : ∀ x ∈ A2.O, x ∈ A.O ∨ H x = none := fun x hx => by
  obtain ⟨ds, sk, rfl, h⟩ := u
  simp only [SA.O, List.mem_cons] at hx ⊢
  rcases hx with hx | hx | hx | hx | hx | hx | hx | hx
  · simp [hx]
  · simp [hx]
  · simp [hx]
  · simp [hx]
  · simp [hx]
  · simp [hx]
  · simp [hx]
  · exact (h x hx).imp (fun z => by simp [z]) id
/-- a list that is nobody's changes -/
theorem Lw.list {p : Addr} {l l' : List V} (h : Lw P w K H A S B D M) (hp : H p = some (.lst l)) (n : p ∉ A.O) (n2 : p ∉ D.O) : Lw P w K (upd H p (.lst l')) A S B D M :=
  ⟨h.st.list hp n, h.md.list hp n2, h.eq, h.z, h.nd, h.ok⟩
/-- a step that changed the state, then the law's own one, whose parts may stand elsewhere -/
theorem Stp.yes2 {a : Fa.Act} (h : Lw P w K H1 A S B D M) (s : Same H H1) (u2 : UpA H1 A A2) (l3 : Lw P w K H3 A2 (doA S a) B2 D2 M2) (t : D2.O = D.O) (f : Fr K (A.O ++ D.O) H1 H3) (ks : ∀ p ∈ (doA S a).outs.map (·.1), p ∈ S.outs.map (·.1) ∨ RfOk p) (ga : GoA S a) : Stp P w K H H3 A A2 S (doA S a) B2 D D2 M2 1 :=
  ⟨l3, u2.back (K := K) (O := A.O) (.of s) h.st.liveO, ⟨u2.z.2, (List.cons.inj t).1⟩, (Fr.of s).trans f, .inr ⟨rfl, a, rfl, ga⟩, ks, t⟩
theorem mO_eq {D D' : MA} (e : D'.m = D.m ∧ D'.o = D.o ∧ D'.ac = D.ac ∧ D'.pt = D.pt ∧ D'.us = D.us) : D'.O = D.O := by
  obtain ⟨a, b, c, d, e⟩ := e
  simp only [MA.O, a, b, c, d, e]
end
/-- the keys of the stakes that the law draws -/
def stK : List Int := [2, 9, 10, 33, 100, 1000, 1000000000]
theorem stk_srt {R : List (Int × Int)} {n : Nat} (h : R.map (·.1) = stK.take n) : SrtO.Srtd ltII R := by
  have h1 : (stK.take n).Pairwise (· < ·) := List.Pairwise.sublist (List.take_sublist _ _) (by decide)
  rw [← h] at h1
  exact (List.pairwise_map.mp h1).imp fun {a b} q => ltII_no.mpr fun z => by
    rcases z with z | z <;> omega
end Fa
namespace Dj
open PySem PySem.Spec PyProof.Rows L2
theorem dpAll_rev {K : PySem.W.Frag} {H : Hp} {xs : List V} {ds : List PyData} (h : DpAll K H xs ds) : DpAll K H xs.reverse ds.reverse := by
  induction ds generalizing xs with
  | nil => cases h; exact .nil
  | cons d ds ih =>
    cases h with
    | cons a b =>
      rw [List.reverse_cons, List.reverse_cons]
      exact dpAll_app (ih b) (.cons a .nil)
end Dj

set_option Elab.async false
set_option linter.all false
set_option maxRecDepth 100000
set_option maxHeartbeats 4000000
/-! Walks over a locked dict whose turns read it; what the laws of states share besides. -/
namespace Es
open PySem PySem.Spec PyProof.Rows L2 Bd Dj
section
variable {X : Cx} {pins : List (Addr × Obj)} {σ : L2.St} {H : Hp} {s : Shared} {a b : Addr} {y v : V} {u : Value} {A : Around} {E : Value → Shared → Prop}
theorem dr_get {Q : Value → Shared → Prop} (hu : A.units + 1 < cLine) (I : Inv X pins σ H s) (g : GR X.prog X.w X.K H a y (some v)) (ry : RelV y u) (h : ∀ w' s', Inv X pins σ H s' → RelV v w' → Q w' s') :
    wpAny (model X.prog X.w) A (getItem (.ref a) u) Q E s := by
  obtain ⟨kvs, k, b, d, rfl, eb, l⟩ := g
  cases (show u = Value.ref b from ry)
  obtain ⟨_, xs, rel, dd⟩ := dr_at I d
  have q := rel.val k
  rw [← l] at q
  obtain ⟨w', hw, rw'⟩ := RelO.some_of q
  obtain ⟨p, hp, hp2⟩ := Option.map_eq_some_iff.mp hw
  exact wpAny_getItem_heap (tupleKind_room_in1 hu) (keyC I eb) dd hp (by rw [hp2]; exact h w' _ (I.tok _) rw')
end
/-- d[y], the dict locked or not -/
def tDGetR (P : Program) (w : World) (K : PySem.W.Frag) (td ty : TE) : TE := fun σ H Q => td σ H fun x H1 => ty σ H1 fun y H2 => ∃ a v, x = .ref a ∧ GR P w K H2 a y (some v) ∧ Q v H2
theorem pe_dgetR {X : Cx} {P : Program} {w : World} {K : PySem.W.Frag} {o i : Expr} {pos : Pos} {td ty : TE} (hP : X.prog = P) (hw : X.w = w) (hK : X.K = K) (hu : X.A.units + 1 < cLine) (ho : PE X o td) (hi : PE X i ty) (hs : NoSl i) : PE X (.Subscript o i pos) (tDGetR P w K td ty) := by
  subst hP; subst hw; subst hK
  refine ⟨fun pins s σ H Q I h => ?_⟩
  refine subD_of PySem.F.slot_dict_getitem.lookup hs (thn (ho.run pins s σ H _ I h) fun u s1 ⟨x, H1, I1, rx, q1⟩ => thn (hi.run pins s1 σ H1 _ I1 q1) fun iv s2 ⟨y, H2, I2, ry, a, v, ex, g, q2⟩ => ?_)
  subst ex
  obtain rfl : u = Value.ref a := rx
  have t := dr_typeIs I2 g.choose_spec.choose_spec.choose_spec.1
  exact ⟨t.1, dr_get hu I2 g ry fun w' s3 I3 rw' => ⟨v, H2, I3, rw', q2⟩⟩
end Es
namespace Re
open PySem PySem.Spec PyProof.Rows L2 Bd Es Dj Ef
section
variable {P : Program} {w : World} {K : PySem.W.Frag} {σ : L2.St} {H : Hp} {Q : VK} {td ty : TE} {n b c : L2.St → Hp → Prop} {r : VK}
theorem dgetR (k : td σ H fun x H1 => ty σ H1 fun y H2 => ∃ a v, x = .ref a ∧ GR P w K H2 a y (some v) ∧ Q v H2) : tDGetR P w K td ty σ H Q := k
/-- for x in d, d locked -/
theorem forKeysX {d : Addr} {g0 : Obj} {ks : List (List Key × Addr × Value)} {g : TG} {tb : TS} (Pv : Nat → L2.St → Hp → Prop) (h : H d = some (.frz g0 (dX P w d ks))) (h0 : Pv 0 σ H) (hl : ∀ i σ H', i ≤ ks.length → Pv i σ H' → H' d = some (.frz g0 (dX P w d ks)))
    (hs : ∀ (i : Nat) (e : List Key × Addr × Value) (σ' : L2.St) (H' : Hp), ks[i]? = some e → Pv i σ' H' → g (.ref e.2.1) σ' H' fun σ2 H2 => tb ⟨Pv (i + 1), r, n, Pv (i + 1)⟩ σ2 H2) (hd : ∀ σ' H', Pv ks.length σ' H' → n σ' H') :
    Rd.ForJ g tb ⟨n, r, b, c⟩ σ (ItX P w d g0 ks) H := by
  refine ⟨fun i m σ' H' => m = ks.length - i ∧ i ≤ ks.length ∧ Pv i σ' H', ⟨ks.length, by simp, Nat.zero_le _, h0⟩, ?_⟩
  rintro i m σ' H' ⟨rfl, hi, p⟩
  have q := hl i σ' H' hi p
  by_cases hlt : i < ks.length
  · refine .inr ⟨⟨q, hlt⟩, Pv (i + 1), fun σ2 H2 p' => ⟨ks.length - (i + 1), by omega, rfl, hlt, p'⟩, ?_⟩
    rintro x H2 ⟨rfl, e, he, rfl⟩
    exact hs i e σ' _ he p
  · have e : i = ks.length := by omega
    subst e
    exact .inl ⟨⟨q, Nat.le_refl _⟩, hd σ' H' p⟩
end
end Re
namespace Fa
open PySem PySem.Spec PyProof.Rows L2 Bd Es Dj Ef Re
section
variable {P : Program} {w : World} {K : PySem.W.Frag} {H H' : Hp} {A : SA} {S M : StM} {B : BkT} {D : MA}
theorem setA_len {l : List (Int × (Int × Int))} {k : Int} {o : Option (Int × Int)} : (setA l k o).length ≤ l.length + 1 := by
  cases o with
  | none => exact Nat.le_trans (List.length_filter_le _ _) (Nat.le_succ _)
  | some q =>
    rw [setA_some]
    split
    · rw [List.length_map]; omega
    · rw [List.length_append]; simp
theorem doA_len (S : StM) (a : Act) : (doA S a).accs.length ≤ S.accs.length + 1 ∧ (doA S a).used.length ≤ S.used.length + 1 ∧ (doA S a).n = S.n ∧ (doA S a).fgt = S.fgt ∧ (doA S a).chg.length = S.chg.length + 1 ∧ (doA S a).outs.length ≤ S.outs.length + 1 := by
  have hl : (logA S (befA S a)).chg.length = S.chg.length + 1 := log_len
  cases a with
  | out p o =>
    cases o with
    | none => exact ⟨Nat.le_succ _, Nat.le_succ _, rfl, rfl, hl, Nat.le_trans (List.length_filter_le _ _) (Nat.le_succ _)⟩
    | some t => exact ⟨Nat.le_succ _, Nat.le_succ _, rfl, rfl, hl, by show (S.outs ++ [(p, t)]).length ≤ _; rw [List.length_append]; simp⟩
  | acc k o => exact ⟨setA_len, Nat.le_succ _, rfl, rfl, hl, Nat.le_succ _⟩
  | pot n v =>
    match n with
    | 0 => exact ⟨Nat.le_succ _, Nat.le_succ _, rfl, rfl, hl, Nat.le_succ _⟩
    | 1 => exact ⟨Nat.le_succ _, Nat.le_succ _, rfl, rfl, hl, Nat.le_succ _⟩
    | n + 2 => exact ⟨Nat.le_succ _, Nat.le_succ _, rfl, rfl, hl, Nat.le_succ _⟩
  | clk s e => exact ⟨Nat.le_succ _, Nat.le_succ _, rfl, rfl, hl, Nat.le_succ _⟩
  | stk rows => exact ⟨Nat.le_succ _, Nat.le_succ _, rfl, rfl, hl, Nat.le_succ _⟩
  | use n b =>
    cases b with
    | true => exact ⟨Nat.le_succ _, by show (S.used ++ [n]).length ≤ _; rw [List.length_append]; simp, rfl, rfl, hl, Nat.le_succ _⟩
    | false => exact ⟨Nat.le_succ _, Nat.le_trans (List.length_filter_le _ _) (Nat.le_succ _), rfl, rfl, hl, Nat.le_succ _⟩
theorem Lw.upto {m : Nat} (h : Lw P w K H A S B D M) (hm : S.n ≤ m) : Lw P w K H A { S with n := m } B D M :=
  ⟨h.st.upto hm, h.md, ⟨h.eq.fees, h.eq.res, h.eq.tre, h.eq.slot, h.eq.epo, h.eq.stk, h.eq.outs, h.eq.accs, h.eq.used⟩, h.z, h.nd, h.ok⟩
theorem lw_pic {d e : PyData} (h : Lw P w K H A S B D M) (h1 : PicS S d) (h2 : PicS M e) : d = e ∧ SeqAt.shaped d = true ∧ nd d = true := by
  have h3 := h2.congr h.eq h.md.ond h.md.and_
  have h4 := h2.sh h.ok.okM
  have e2 := h1.uniq h3
  exact ⟨e2, by rw [e2]; exact h4.1, by rw [e2]; exact h4.2⟩
end
end Fa
namespace Fa
open PySem PySem.Spec PyProof.Rows L2 Bd Es Dj Ef Re
section
variable {P : Program} {w : World} {K : PySem.W.Frag} {H H0 H' : Hp} {A A' : SA} {S S' M M' : StM} {B B' : BkT} {D D' : MA} {z : Int}
theorem StAt.liveV (h : StAt P w K H A S B) : ∀ x ∈ A.V, H x ≠ none := fun x hx => (List.mem_append.mp hx).elim (h.liveO x) fun q => (h.zl x q).1
/-- a step, from a heap that has none of the two states -/
theorem Stp.run (st : Stp P w K H H' A A' S S' B' D D' M' z) (s0 : Same H0 H) (hV : ∀ x ∈ A.V, H0 x = none) (hz : ∀ x ∈ D.O, x ∈ A.z) : Same H0 H' ∧ ∀ x ∈ A'.V, H0 x = none := by
  refine ⟨fun a o e => st.f.keep a o (fun q => ?_) (s0 a o e), fun x hx => ?_⟩
  · have : a ∈ A.V := (List.mem_append.mp q).elim (SA.oV a) fun r => List.mem_append_right _ (hz a r)
    rw [hV a this] at e; cases e
  · rcases List.mem_append.mp hx with q | q
    · rcases st.up.sub x q with r | r
      · exact hV x (SA.oV x r)
      · exact s0.free r
    · exact hV x (List.mem_append_right _ (by rw [← st.up.z.1]; exact q))
theorem Stp.len (st : Stp P w K H H' A A' S S' B' D D' M' z) : S'.accs.length ≤ S.accs.length + 1 ∧ S'.used.length ≤ S.used.length + 1 ∧ S'.n = S.n ∧ S'.fgt = S.fgt ∧ (S'.chg.length : Int) = S.chg.length + z ∧ 0 ≤ z ∧ S'.outs.length ≤ S.outs.length + 1 := by
  rcases st.zs with ⟨rfl, rfl⟩ | ⟨rfl, a, rfl, _⟩
  · exact ⟨Nat.le_succ _, Nat.le_succ _, rfl, rfl, by omega, by omega, Nat.le_succ _⟩
  · have := doA_len S a
    exact ⟨this.1, this.2.1, this.2.2.1, this.2.2.2.1, by omega, by omega, this.2.2.2.2.2⟩
end
end Fa
namespace Fa
open PySem PySem.Spec PyProof.Rows L2 Bd Es Dj Ef Re
section
variable {P : Program} {w : World} {K : PySem.W.Frag} {H H0 H' : Hp} {A A' : SA} {S S' M M' : StM} {B B' : BkT} {D D' : MA} {z : Int}
theorem StAt.noZ (h : StAt P w K H A S B) : StAt P w K H { A with z := [] } S B := by
  have g : ∀ x ∈ ({ A with z := [] } : SA).V, x ∈ A.V ∨ H x = none := fun x hx => .inl (by
    rcases List.mem_append.mp hx with q | q
    · exact List.mem_append_left _ q
    · cases q)
  exact { nd := h.nd, t := h.t, bk := h.bk, bm := h.bm, lb := h.lb, lo := h.lo, ond := h.ond, ad := h.ad, and_ := h.and_, sk := h.sk, ud := h.ud, und := h.und
          od := by
            obtain ⟨kv, h1, h2⟩ := h.od
            exact ⟨kv, h1, Paired.mapP h2 fun _ _ ⟨e, q⟩ => ⟨e, q.fr (Fr.refl (O := A.V)) g⟩⟩
          cl := by
            obtain ⟨xs, h1, h2⟩ := h.cl
            exact ⟨xs, h1, Paired.mapP h2 fun _ _ q => q.fr (Fr.refl (O := A.V)) g⟩
          zl := fun x hx => by cases hx }
theorem stZ_ok3 {G : List (Int × Int)} {res : Int} (hG : ∀ g ∈ G, 0 < g.2) : OkM3 (stZ G res).outs := fun e he => by
  have h := stZ_ok e he
  obtain ⟨i, hi, rfl⟩ := List.mem_mapIdx.mp he
  refine ⟨h.1, by show 1 ≤ 3; decide, by show 0 ≤ 3; decide, h.2, fun x hx => ?_⟩
  rw [List.mem_singleton.mp hx]
  exact hG _ (List.getElem_mem _)
/-- a state on its first day beside the law's own one -/
theorem Lw.start {G : List (Int × Int)} {res : Int} (L : StAt P w K H A (stZ G res) B) (hO : ∀ x ∈ A.O, H0 x = none) (s : Same H H') (hM : MdS P w K H' D (stZ G res)) (hD0 : ∀ x ∈ D.O, H x = none) (hDn : D.O.Nodup) (s0 : Same H0 H) (hG : ∀ g ∈ G, 0 < g.2) :
    ∃ A2 : SA, A.t = A2.t ∧ Lw P w K H' A2 (stZ G res) B D (stZ G res) ∧ ∀ x ∈ A2.V, H0 x = none :=
  ⟨{ A with z := [] ++ D.O }, rfl, ⟨L.noZ.addZ hD0 s (fun x hx => hM.live x hx), hM, .refl _, fun x hx => List.mem_append_right _ hx, hDn, stZ_ok3 hG⟩, fun x hx => (List.mem_append.mp hx).elim (hO x) fun q => s0.free (hD0 x ((List.mem_append.mp q).elim (fun q => by cases q) id))⟩
/-- room for a step -/
theorem Lw.room {m : Nat} (h : Lw P w K H A S B D M) (hm : S.n + 2 ≤ m) : ∃ T : StM, Lw P w K H A T B D M ∧ T.n = m ∧ T.fgt = S.fgt ∧ T.chg = S.chg ∧ T.accs = S.accs ∧ T.used = S.used ∧ T.outs = S.outs ∧ (List.length B + T.chg.length + 2 ≤ T.n ∧ List.length T.outs + T.chg.length + 2 ≤ T.n) :=
  ⟨{ S with n := m }, h.upto (by omega), rfl, rfl, rfl, rfl, rfl, rfl, by have := h.st.lb; show List.length B + S.chg.length + 2 ≤ m; omega, by have := h.st.lo; show List.length S.outs + S.chg.length + 2 ≤ m; omega⟩
end
end Fa
namespace Fa
open PySem PySem.Spec PyProof.Rows L2 Bd Es Dj Ef Re
section
variable {P : Program} {w : World} {K : PySem.W.Frag} {H : Hp} {D : MA} {R : V → Prop}
theorem mdG {k : Key} {v : V} (h : H D.m = some (.dK (mdKv D))) (e : valV (mdKv D) k = some v) (q : R v) : ∃ a v, V.ref D.m = .ref a ∧ DGet H a (kV k) (some v) ∧ R v :=
  ⟨D.m, v, rfl, by have := DGet.k (k := k) h; rwa [e] at this, q⟩
theorem mdGO (h : H D.m = some (.dK (mdKv D))) (q : R (.ref D.o)) : ∃ a v, V.ref D.m = .ref a ∧ DGet H a (.str (Rd.S [111, 117, 116, 112, 117, 116, 115])) (some v) ∧ R v := mdG (k := kO) h (mdV D).1 q
end
theorem kO_ne (D : MA) : True := trivial
end Fa
namespace Fa
open PySem PySem.Spec PyProof.Rows L2 Bd Es Dj Ef Re
section
variable {P : Program} {w : World} {K : PySem.W.Frag} {H H' : Hp} {A : SA} {S M : StM} {B : BkT} {D : MA}
theorem p2_sh (n : Nat) (q : Int × Int) : SeqAt.shaped (encP2 q) = true := (encP2_sh1 q 1).shaped (by decide)
theorem p2s_sh (R : List (Int × Int)) : SeqAt.shaped (.list (R.map encP2)) = true := (Sh.list (n := 1) fun d hd => by
  obtain ⟨r, _, rfl⟩ := List.mem_map.mp hd
  exact encP2_sh1 r 0).shaped (by decide)
theorem p2s_nd (R : List (Int × Int)) : nd (.list (R.map encP2)) = true := by simp only [nd]; exact ndMap fun _ => rfl
theorem ints_sh (R : List Int) : SeqAt.shaped (.list (R.map PyData.int)) = true := (Sh.list (n := 1) fun d hd => by
  obtain ⟨r, _, rfl⟩ := List.mem_map.mp hd
  exact .int _ _).shaped (by decide)
theorem ints_nd (R : List Int) : nd (.list (R.map PyData.int)) = true := by simp only [nd]; exact ndMap fun _ => rfl
/-- an account in the state and in the law's own dict -/
theorem lw_acc {y : Int} {v : V} (h : Lw P w K H A S B D M) (hv : (∃ q, lookA S.accs y = some q ∧ P2At K H v q) ∨ (lookA S.accs y = none ∧ v = .non)) :
    ∃ av d, H D.ac = some (.dK av) ∧ Dp K H v d ∧ Dp K H ((valV av (.inl y)).getD .non) d ∧ nd d = true ∧ SeqAt.shaped d = true := by
  obtain ⟨av, hA, hP⟩ := h.md.accs
  have e := lookA_perm h.eq.accs h.md.and_ y
  rcases hv with ⟨q, h1, z, rfl, hz⟩ | ⟨h1, rfl⟩
  · rcases accs_look (k := y) hP with ⟨t, u, g1, g2, z2, rfl, hz2⟩ | ⟨g1, _⟩
    · rw [g1, h1] at e
      obtain rfl : t = q := Option.some.inj e
      exact ⟨av, encP2 t, hA, .tup hz (.cons (.int _) (.cons (.int _) .nil)), by rw [g2]; exact .tup hz2 (.cons (.int _) (.cons (.int _) .nil)), rfl, p2_sh 0 t⟩
    · rw [g1, h1] at e; cases e
  · rcases accs_look (k := y) hP with ⟨t, u, g1, g2, _⟩ | ⟨_, g2⟩
    · rw [g1, h1] at e; cases e
    · exact ⟨av, .none, hA, .non, by rw [g2]; exact .non, rfl, rfl⟩
theorem dr_same {a : Addr} {kvs : List (List Key × V)} (h : DR P w K H a kvs) (s : Same H H') : DR P w K H' a kvs := by
  obtain ⟨hz, xs, h1, rel⟩ := h
  exact ⟨hz, xs, h1.imp (fun q => s _ _ q) (fun ⟨g, q⟩ => ⟨g, s _ _ q⟩), rel.keeps fun q ys hq => Rd.same_tup s hq⟩
end
end Fa

set_option Elab.async false
set_option linter.all false
set_option maxRecDepth 100000
set_option maxHeartbeats 4000000
/-! What takes a change back: the history of a state. -/
namespace Fa
open PySem PySem.Spec PyProof.Rows L2 Bd Es Dj Ef Re
/-- a change whose undoing can be made -/
def GoC (T : StM) : Chg → Prop
  | .out p none => p ∈ T.outs.map (·.1)
  | .out p (some t) => p ∉ T.outs.map (·.1) ∧ t.rw.length ≤ 3
  | .usd n => n ∈ T.used
  | .pot n _ => n < 3
  | _ => True
theorem SEq.symm {M S : StM} (e : SEq M S) : SEq S M := ⟨e.fees.symm, e.res.symm, e.tre.symm, e.slot.symm, e.epo.symm, e.stk.symm, e.outs.symm, e.accs.symm, e.used.symm⟩
theorem SEq.trans {M S T : StM} (e : SEq M S) (f : SEq S T) : SEq M T := ⟨e.fees.trans f.fees, e.res.trans f.res, e.tre.trans f.tre, e.slot.trans f.slot, e.epo.trans f.epo, e.stk.trans f.stk, e.outs.trans f.outs, e.accs.trans f.accs, e.used.trans f.used⟩
theorem GoC.seq {S T : StM} {c : Chg} (e : SEq T S) (h : GoC S c) : GoC T c := by
  have m : ∀ p, p ∈ T.outs.map (·.1) ↔ p ∈ S.outs.map (·.1) := fun p => (e.outs.map (·.1)).mem_iff
  cases c with
  | out p o =>
    cases o with
    | none => exact (m p).mpr h
    | some t => exact ⟨fun q => h.1 ((m p).mp q), h.2⟩
  | usd n => exact e.used.mem_iff.mpr h
  | pot n v => exact h
  | acc k b => trivial
  | clk s t => trivial
  | stk rows => trivial
theorem SEq.put {S T : StM} {a : Act} (e : SEq T S) (ha : (T.accs.map (·.1)).Nodup) : SEq (putA T a) (putA S a) := by
  cases a with
  | out p o =>
    cases o with
    | none => exact ⟨e.fees, e.res, e.tre, e.slot, e.epo, e.stk, e.outs.filter _, e.accs, e.used⟩
    | some t => exact ⟨e.fees, e.res, e.tre, e.slot, e.epo, e.stk, e.outs.append_right _, e.accs, e.used⟩
  | acc k o => exact ⟨e.fees, e.res, e.tre, e.slot, e.epo, e.stk, e.outs, setA_perm e.accs ha, e.used⟩
  | pot n v =>
    match n with
    | 0 => exact ⟨rfl, e.res, e.tre, e.slot, e.epo, e.stk, e.outs, e.accs, e.used⟩
    | 1 => exact ⟨e.fees, rfl, e.tre, e.slot, e.epo, e.stk, e.outs, e.accs, e.used⟩
    | n + 2 => exact ⟨e.fees, e.res, rfl, e.slot, e.epo, e.stk, e.outs, e.accs, e.used⟩
  | clk s t => exact ⟨e.fees, e.res, e.tre, rfl, rfl, e.stk, e.outs, e.accs, e.used⟩
  | stk rows => exact ⟨e.fees, e.res, e.tre, e.slot, e.epo, rfl, e.outs, e.accs, e.used⟩
  | use n b =>
    cases b with
    | true => exact ⟨e.fees, e.res, e.tre, e.slot, e.epo, e.stk, e.outs, e.accs, e.used.append_right _⟩
    | false => exact ⟨e.fees, e.res, e.tre, e.slot, e.epo, e.stk, e.outs, e.accs, e.used.filter _⟩
/-! lists with keys -/
theorem keyF {α β : Type} [DecidableEq α] {l : List (α × β)} {k : α} (h : k ∉ l.map (·.1)) : l.filter (fun e => decide (e.1 ≠ k)) = l :=
  List.filter_eq_self.mpr fun e he => decide_eq_true fun q => h (q ▸ List.mem_map_of_mem (f := (·.1)) he)
theorem keyB {α β : Type} [DecidableEq α] {k : α} {v : β} : ∀ {l : List (α × β)}, (l.map (·.1)).Nodup → (k, v) ∈ l → (l.filter (fun e => decide (e.1 ≠ k)) ++ [(k, v)]).Perm l
  | [], _, h => by cases h
  | x :: l, hn, h => by
    rw [List.map_cons, List.nodup_cons] at hn
    by_cases c : x.1 = k
    · have hx : x = (k, v) := by
        rcases List.mem_cons.mp h with q | q
        · exact q.symm
        · exact absurd (List.mem_map_of_mem (f := (·.1)) q) (c ▸ hn.1)
      rw [List.filter_cons_of_neg (by simpa using c), keyF (c ▸ hn.1), hx]
      exact List.perm_append_singleton _ _
    · rw [List.filter_cons_of_pos (by simpa using c), List.cons_append]
      rcases List.mem_cons.mp h with q | q
      · exact absurd (by rw [← q]) c
      · exact (keyB hn.2 q).cons _
theorem setF {k : Int} {q : Int × Int} : ∀ {l : List (Int × (Int × Int))}, (l.map fun e => if e.1 = k then (e.1, q) else e).filter (fun e => decide (e.1 ≠ k)) = l.filter fun e => decide (e.1 ≠ k)
  | [] => rfl
  | y :: l => by
    rw [List.map_cons]
    by_cases c : y.1 = k
    · rw [if_pos c, List.filter_cons_of_neg (by simp [c]), List.filter_cons_of_neg (by simp [c])]; exact setF
    · rw [if_neg c, List.filter_cons_of_pos (by simp [c]), List.filter_cons_of_pos (by simp [c]), setF]
theorem setA_back {l : List (Int × (Int × Int))} {k : Int} {o : Option (Int × Int)} (hn : (l.map (·.1)).Nodup) : (setA (setA l k o) k (lookA l k)).Perm l := by
  have fs : (setA l k o).filter (fun e => decide (e.1 ≠ k)) = l.filter fun e => decide (e.1 ≠ k) := by
    cases o with
    | none => show (l.filter _).filter _ = _; rw [List.filter_filter]; congr 1; funext e; simp
    | some q =>
      rw [setA_some]
      split
      · exact setF
      · rw [List.filter_append, show ([(k, q)].filter fun e => decide (e.1 ≠ k)) = [] from by simp, List.append_nil]
  cases h : lookA l k with
  | none =>
    show ((setA l k o).filter fun e => decide (e.1 ≠ k)).Perm l
    rw [fs]
    have : k ∉ l.map (·.1) := fun q => by
      obtain ⟨x, hx, rfl⟩ := List.mem_map.mp q
      rw [lookA_mem hn hx] at h; cases h
    rw [keyF this]
  | some q0 =>
    have hm := lookA_in h
    rw [setA_some]
    split
    · rename_i c
      cases o with
      | none =>
        obtain ⟨x, hx, ex⟩ := List.any_eq_true.mp c
        have := (List.mem_filter.mp hx).2
        simp at ex this
        exact absurd ex this
      | some q =>
        rw [setA_some, if_pos (List.any_eq_true.mpr ⟨_, hm, by simp⟩), List.map_map]
        have : l.map ((fun e : Int × (Int × Int) => if e.1 = k then (e.1, q0) else e) ∘ fun e => if e.1 = k then (e.1, q) else e) = l := by
          conv => rhs; rw [← List.map_id l]
          refine List.map_congr_left fun e he => ?_
          by_cases ce : e.1 = k
          · simp only [Function.comp, if_pos ce]
            have h2 := lookA_mem hn he
            rw [ce, h] at h2
            cases h2
            rfl
          · simp only [Function.comp, if_neg ce]; rfl
        rw [this]
    · rename_i c
      cases o with
      | none =>
        show (l.filter (fun e => decide (e.1 ≠ k)) ++ [(k, q0)]).Perm l
        exact keyB hn hm
      | some q =>
        exfalso
        refine c ?_
        rw [setA_some, if_pos (List.any_eq_true.mpr ⟨_, hm, by simp⟩)]
        exact List.any_eq_true.mpr ⟨_, List.mem_map_of_mem hm, by simp⟩
/-- c takes S1 back to S0 -/
structure Back (S1 : StM) (c : Chg) (S0 : StM) : Prop where
  ok : GoC S1 c
  eq : ∀ T, SEq T S1 → SEq (putA T (undo c)) S0
theorem Back.seq {S1 S0 S2 : StM} {c : Chg} (h : Back S1 c S0) (e : SEq S0 S2) : Back S1 c S2 := ⟨h.ok, fun T q => (h.eq T q).trans e⟩
theorem doA_nd {S : StM} {a : Act} (ha : (S.accs.map (·.1)).Nodup) : ((doA S a).accs.map (·.1)).Nodup := by
  cases a with
  | acc k o => exact setA_keys ha
  | out p o => cases o <;> exact ha
  | pot n v =>
    match n with
    | 0 => exact ha
    | 1 => exact ha
    | n + 2 => exact ha
  | clk s t => exact ha
  | stk rows => exact ha
  | use n b => cases b <;> exact ha
theorem back_do {S : StM} {a : Act} (hn : (S.outs.map (·.1)).Nodup) (ha : (S.accs.map (·.1)).Nodup) (r3 : ∀ e ∈ S.outs, e.2.rw.length ≤ 3) (g : GoA S a) : Back (doA S a) (befA S a) S := by
  have h2 := doA_nd (a := a) ha
  suffices h : GoC (doA S a) (befA S a) ∧ SEq (putA (doA S a) (undo (befA S a))) S from
    ⟨h.1, fun T e => (e.put ((e.accs.map _).nodup_iff.mpr h2)).trans h.2⟩
  cases a with
  | out p o =>
    cases o with
    | none =>
      obtain ⟨t, ht⟩ := lookM_yes g
      have e1 : befA S (.out p none) = .out p (some t) := by show Chg.out p (lookM S.outs p) = _; rw [ht]
      rw [e1]
      refine ⟨⟨fun q => ?_, r3 _ (lookM_in ht)⟩, rfl, rfl, rfl, rfl, rfl, rfl, keyB hn (lookM_in ht), .refl _, .refl _⟩
      obtain ⟨x, hx, ex⟩ := List.mem_map.mp q
      have := (List.mem_filter.mp (show x ∈ S.outs.filter fun e => decide (e.1 ≠ p) from hx)).2
      simp at this
      exact this ex
    | some t =>
      have e1 : befA S (.out p (some t)) = .out p none := by show Chg.out p (lookM S.outs p) = _; rw [lookM_no g.1]
      rw [e1]
      refine ⟨?_, rfl, rfl, rfl, rfl, rfl, rfl, ?_, .refl _, .refl _⟩
      · show p ∈ (S.outs ++ [(p, t)]).map (·.1)
        rw [List.map_append]; simp
      · show ((S.outs ++ [(p, t)]).filter fun e => decide (e.1 ≠ p)).Perm S.outs
        rw [List.filter_append, keyF g.1, show ([(p, t)].filter fun e => decide (e.1 ≠ p)) = [] from by simp, List.append_nil]
  | acc k o => exact ⟨trivial, rfl, rfl, rfl, rfl, rfl, rfl, .refl _, setA_back ha, .refl _⟩
  | pot n v =>
    match n, g with
    | 0, _ => exact ⟨by show 0 < 3; decide, rfl, rfl, rfl, rfl, rfl, rfl, .refl _, .refl _, .refl _⟩
    | 1, _ => exact ⟨by show 1 < 3; decide, rfl, rfl, rfl, rfl, rfl, rfl, .refl _, .refl _, .refl _⟩
    | 2, _ => exact ⟨by show 2 < 3; decide, rfl, rfl, rfl, rfl, rfl, rfl, .refl _, .refl _, .refl _⟩
  | clk s t => exact ⟨trivial, rfl, rfl, rfl, rfl, rfl, rfl, .refl _, .refl _, .refl _⟩
  | stk rows => exact ⟨trivial, rfl, rfl, rfl, rfl, rfl, rfl, .refl _, .refl _, .refl _⟩
  | use n b =>
    obtain ⟨rfl, hu⟩ := g
    refine ⟨?_, rfl, rfl, rfl, rfl, rfl, rfl, .refl _, .refl _, ?_⟩
    · show n ∈ S.used ++ [n]
      simp
    · show ((S.used ++ [n]).filter fun x => decide (x ≠ n)).Perm S.used
      rw [List.filter_append, (List.filter_eq_self.mpr fun x hx => decide_eq_true fun q => hu (by rw [← q]; exact hx) : (S.used.filter fun x => decide (x ≠ n)) = S.used), show ([n].filter fun x => decide (x ≠ n)) = [] from by simp, List.append_nil]
/-- h k is what the state was at the mark k -/
structure Hist (S : StM) (h : Int → StM) : Prop where
  cur : SEq S (h (S.fgt + S.chg.length))
  st : ∀ (j : Nat) c, S.chg[j]? = some c → Back (h (S.fgt + j + 1)) c (h (S.fgt + j))
theorem Hist.push {S : StM} {h : Int → StM} {a : Act} (H : Hist S h) (hn : (S.outs.map (·.1)).Nodup) (ha : (S.accs.map (·.1)).Nodup) (r3 : ∀ e ∈ S.outs, e.2.rw.length ≤ 3) (g : GoA S a) : Hist (doA S a) (fun k => if k ≤ S.fgt + S.chg.length then h k else doA S a) := by
  obtain ⟨_, _, _, f1, f2, _⟩ := doA_len S a
  have f3 : (doA S a).chg = S.chg ++ [befA S a] := by
    cases a with
    | out p o => cases o <;> rfl
    | pot n v =>
      match n with
      | 0 => rfl
      | 1 => rfl
      | n + 2 => rfl
    | use n b => cases b <;> rfl
    | acc k o => rfl
    | clk s t => rfl
    | stk rows => rfl
  refine ⟨?_, fun j c hc => ?_⟩
  · rw [f1, f2, if_neg (by omega)]; exact SEq.refl _
  · rw [f3] at hc
    rw [f1]
    by_cases l : j < S.chg.length
    · rw [List.getElem?_append_left l] at hc
      rw [if_pos (by omega), if_pos (by omega)]
      exact H.st j c hc
    · rw [List.getElem?_append_right (by omega)] at hc
      have ej : j = S.chg.length := by
        have := (List.getElem?_eq_some_iff.mp hc).1
        simp at this
        omega
      subst ej
      simp at hc
      subst hc
      rw [if_neg (by omega), if_pos (by omega)]
      exact (back_do hn ha r3 g).seq H.cur
theorem putA_same {S : StM} {a : Act} : (putA S a).chg = S.chg ∧ (putA S a).fgt = S.fgt ∧ (putA S a).n = S.n := by
  cases a with
  | out p o => cases o <;> exact ⟨rfl, rfl, rfl⟩
  | pot n v =>
    match n with
    | 0 => exact ⟨rfl, rfl, rfl⟩
    | 1 => exact ⟨rfl, rfl, rfl⟩
    | n + 2 => exact ⟨rfl, rfl, rfl⟩
  | use n b => cases b <;> exact ⟨rfl, rfl, rfl⟩
  | acc k o => exact ⟨rfl, rfl, rfl⟩
  | clk s t => exact ⟨rfl, rfl, rfl⟩
  | stk rows => exact ⟨rfl, rfl, rfl⟩
theorem Hist.pop {S : StM} {h : Int → StM} {L : List Chg} {c : Chg} (H : Hist S h) (e : S.chg = L ++ [c]) : GoC S c ∧ Hist (putA { S with chg := L } (undo c)) h := by
  have hl : S.chg.length = L.length + 1 := by rw [e, List.length_append]; rfl
  have b := H.st L.length c (by rw [e, List.getElem?_append_right (Nat.le_refl _)]; simp)
  have cur := H.cur
  rw [show S.fgt + (S.chg.length : Int) = S.fgt + (L.length : Int) + 1 by omega] at cur
  refine ⟨b.ok.seq cur, ?_, fun j c' hc => ?_⟩
  · obtain ⟨e1, e2, _⟩ := putA_same (S := { S with chg := L }) (a := undo c)
    rw [e1, e2]
    exact b.eq _ ⟨cur.fees, cur.res, cur.tre, cur.slot, cur.epo, cur.stk, cur.outs, cur.accs, cur.used⟩
  · obtain ⟨e1, e2, _⟩ := putA_same (S := { S with chg := L }) (a := undo c)
    rw [e1] at hc
    rw [e2]
    have hc : L[j]? = some c' := hc
    have lt := (List.getElem?_eq_some_iff.mp hc).1
    exact H.st j c' (by rw [e, List.getElem?_append_left lt]; exact hc)
/-- a mark behind which the history is the same -/
theorem Hist.upto {S : StM} {h : Int → StM} (H : Hist S h) {n : Nat} : Hist { S with n := n } h := ⟨⟨H.cur.fees, H.cur.res, H.cur.tre, H.cur.slot, H.cur.epo, H.cur.stk, H.cur.outs, H.cur.accs, H.cur.used⟩, H.st⟩
theorem Hist.new {S : StM} (e : S.chg = []) : Hist S (fun _ => S) := ⟨SEq.refl _, fun j c hc => by rw [e] at hc; simp at hc⟩
end Fa
namespace Fa
open PySem PySem.Spec PyProof.Rows L2 Bd Es Dj Ef Re
/-- where a state stands behind some changes: its own parts, or what was free -/
structure Sb (H : Hp) (A A' : SA) : Prop where
  t : A'.t = A.t
  z : A'.z = A.z
  o : ∀ x ∈ A'.O, x ∈ A.O ∨ H x = none
section
variable {P : Program} {w : World} {K : PySem.W.Frag} {H H1 H2 : Hp} {A A1 A2 : SA} {O O' : List Addr}
theorem UpA.sb (u : UpA H A A1) : Sb H A A1 := ⟨u.z.2, u.z.1, u.sub⟩
theorem Sb.refl : Sb H A A := ⟨rfl, rfl, fun x h => .inl h⟩
theorem Sb.fr (u : Sb H A A1) (f : Fr K A.O H H1) (g : Fr K A1.O H1 H2) : Fr K A.O H H2 :=
  Fr.shrink (O' := A.O ++ A1.O) ((f.mono fun x h => List.mem_append_left _ h).trans (g.mono fun x h => List.mem_append_right _ h)) fun x hx => (List.mem_append.mp hx).elim .inl (u.o x)
theorem Sb.trans (u : Sb H A A1) (f : Fr K A.O H H1) (v : Sb H1 A1 A2) : Sb H A A2 :=
  ⟨v.t.trans u.t, v.z.trans u.z, fun x hx => (v.o x hx).elim (u.o x) fun e => by
    by_cases c : x ∈ A.O
    · exact .inl c
    · cases q : H x with
      | none => exact .inr rfl
      | some o => rw [f.keep x o c q] at e; cases e⟩
theorem paired_unsnoc {α β : Type} {R : α → β → Prop} {c : β} : ∀ {xs : List α} {L : List β}, Paired R xs (L ++ [c]) → ∃ ys v, xs = ys ++ [v] ∧ Paired R ys L ∧ R v c
  | _, [], h => by
    cases h with
    | cons a b => cases b; exact ⟨[], _, rfl, .nil, a⟩
  | _, d :: L, h => by
    cases h with
    | cons a b =>
      obtain ⟨ys, v, rfl, h1, h2⟩ := paired_unsnoc b
      exact ⟨_ :: ys, v, rfl, .cons a h1, h2⟩
theorem list_unsnoc {α : Type} {L : List α} (h : 0 < L.length) : ∃ M c, L = M ++ [c] :=
  ⟨L.dropLast, L.getLast (by intro e; rw [e] at h; simp at h), (List.dropLast_concat_getLast _).symm⟩
/-- what a change that is taken back leaves of the lengths -/
theorem putA_len {S : StM} {a : Act} : (putA S a).accs.length ≤ S.accs.length + 1 ∧ (putA S a).used.length ≤ S.used.length + 1 := by
  cases a with
  | out p o => cases o <;> exact ⟨Nat.le_succ _, Nat.le_succ _⟩
  | acc k o => exact ⟨setA_len, Nat.le_succ _⟩
  | pot n v =>
    match n with
    | 0 => exact ⟨Nat.le_succ _, Nat.le_succ _⟩
    | 1 => exact ⟨Nat.le_succ _, Nat.le_succ _⟩
    | n + 2 => exact ⟨Nat.le_succ _, Nat.le_succ _⟩
  | clk s e => exact ⟨Nat.le_succ _, Nat.le_succ _⟩
  | stk r => exact ⟨Nat.le_succ _, Nat.le_succ _⟩
  | use n b =>
    cases b with
    | true => exact ⟨Nat.le_succ _, by show (S.used ++ [n]).length ≤ _; rw [List.length_append]; simp⟩
    | false => exact ⟨Nat.le_succ _, Nat.le_trans (List.length_filter_le _ _) (Nat.le_succ _)⟩
end
end Fa

set_option Elab.async false
set_option linter.all false
set_option maxRecDepth 100000
set_option maxHeartbeats 4000000
/-! dict(d): a copy of a dict whose keys are tuples. -/
namespace PySem
section
variable {prog : Program} {w : World} {K : Type} [DecidableEq K] {knd : HeapKind prog w K} {A : Around} {E : Value → Shared → Prop} {s : Shared}
theorem call_dict_H {o : Addr} {more : List (K × Addr × Value)} {Q : Value → Shared → Prop} (hu : knd.room A.in1.in1) (hoS : (o == sysModules) = false) (ho : s.heap.DictOfH knd o more)
    (hst : ∀ x ∈ more, knd.is (s.heap.push { cls := .type "dict", data := .dict #[] }) x.1 x.2.1) (hty : ∀ x ∈ more, ∃ ob, s.heap.get? x.2.1 = some ob ∧ ob.cls = .type "tuple") (hap : (more.map fun x => knd.hash x.1).Nodup) (hsz : more.length ≤ sizeLine)
    (h : ∀ h', h'.DictOfH knd s.heap.objs.size more → Heap.SameBut s.heap.objs.size (s.heap.push { cls := .type "dict", data := .dict #[] }) h' → Q (.ref s.heap.objs.size) { s with heap := h' }) :
    wpAny (model prog w) A (call (.type "dict") [.ref o]) Q E s := by
  refine callType_codes (Q₁ := fun obj s₁ => obj = .ref s.heap.objs.size ∧ s₁ = { s with heap := s.heap.push { cls := .type "dict", data := .dict #[] } }) F.kt_called_dict (F.kt_typeCall_dict_1 _) F.entry_dict_init (kt_code_dict_new _ ⟨rfl, rfl⟩) ?_
  rintro obj s₁ ⟨rfl, rfl⟩
  have hnew : (s.heap.push { cls := .type "dict", data := .dict #[] }).DictOfH knd s.heap.objs.size [] := Heap.DictOfH.new s.heap
  have ho' : (s.heap.push { cls := .type "dict", data := .dict #[] }).DictOfH knd o more := ho.at' (fun o e => Heap.get?_push_of_some _ e) hst
  have hn : (more.map (·.1)).Nodup := ho.nodup
  have hdo : s.heap.objs.size ≠ o := fun e => absurd ho.lt_size (by rw [e]; exact Nat.lt_irrefl _)
  refine ⟨hnew.typeIs, F.args_dict_init_2 _ _, ?_⟩
  unfold Builtin.«dict.__init__»
  refine wpAny_bind ?_
  unfold Builtin.Dict.selfAndRest
  refine wpAny_bind (wpAny_notOrdered_dict hnew.typeIs ?_)
  show wpAny _ _ (pure (s.heap.objs.size, [Value.ref o])) _ _ _
  refine wpAny_pure ?_
  show wpAny _ _ (Builtin.Dict.updateFrom "dict.__init__" s.heap.objs.size (.ref o) [] .none) _ _ _
  unfold Builtin.Dict.updateFrom
  refine wpAny_bind (wpAny_typeOf ho'.typeIs ?_)
  rw [if_neg (by decide)]
  refine wpAny_bind ?_
  unfold Builtin.Dict.merge
  refine wpAny_bind ?_
  unfold Builtin.Dict.readDirectly
  refine wpAny_bind (wpAny_isInstance ho'.typeIs isSubtype_dict_dict ?_)
  simp only [Bool.not_true, Bool.false_eq_true, if_false]
  refine wpAny_bind (wpAny_specialOf ho'.typeIs F.slot_dict_iter.lookup (wpAny_pure ?_))
  simp only [beq_self_eq_true, if_true]
  refine wpAny_bind (wpAny_pure ?_)
  refine wpAny_mergeDict_heap (hsz := by simpa using hsz) hu hdo hoS hnew ho' (.inr ⟨fun x hx => ?_, hap⟩) fun h' hd' _ hs' => ?_
  · obtain ⟨ob, e1, e2⟩ := hty x hx
    exact ⟨ob, Heap.get?_push_of_some _ e1, e2⟩
  show wpAny _ _ (Builtin.Dict.addKeywords s.heap.objs.size [] >>= _) _ _ _
  rw [storedAllH_nil_of_nodup more hn] at hd'
  exact wpAny_bind (wpAny_pure (wpAny_pure ⟨rfl, h h' hd' hs'⟩))
end
end PySem
namespace Es
open PySem PySem.Spec PyProof.Rows L2 Bd Dj
/-- dict(d) of a dict whose keys are tuples, no two of one hash -/
def rDictX (P : Program) (w : World) (K : PySem.W.Frag) : List V → Hp → VK → Prop := fun xs H Q => ∃ (a : Addr) (kvs : List (List Key × V)), xs = [.ref a] ∧ DS P w K H a kvs ∧ (kvs.map fun e => tupleKeyHash (mixKind P w) e.1).Nodup ∧
  ∀ p ys, H p = none → DS P w K (upd H p (dX P w p ys)) p kvs → Q (.ref p) (upd H p (dX P w p ys))
theorem call_dictX {X : Cx} (hu : X.A.units + 65 < cLine) : CallR X (.type "dict") (rDictX X.prog X.w X.K) := by
  intro pins s σ H xs us Q I r q
  obtain ⟨a, kvs, rfl, hd, hn, q⟩ := q
  obtain ⟨u, rfl, rx⟩ := vals1 r
  cases rx
  obtain ⟨z, ys, e, rel, dd⟩ := dx_at I hd
  have hl : kvs.length = ys.length := Paired.length rel
  have hkeys : kvs.map (·.1) = ys.map (·.1) := by
    clear e dd hn q hl hd r
    induction rel with
    | nil => rfl
    | @cons p q ps qs h t ih => rw [List.map_cons, List.map_cons, ih, h.1]
  have hk : ∀ x ∈ ys, SqT X.K H x.2.1 (x.1.map kV) := by
    clear e dd hn q hl hd r hkeys
    induction rel with
    | nil => exact fun _ h => by cases h
    | @cons p q ps qs h t ih =>
      intro x hx
      rcases List.mem_cons.mp hx with rfl | hx
      · rw [← h.1]; exact h.2.1
      · exact ih x hx
  have hm : (s.heap.objs.size == sysModules) = false := beq_eq_false_iff_ne.mpr (Nat.ne_of_gt I.big)
  refine call_dict_H (knd := tupleKind (mixKind X.prog X.w)) (show X.A.units + 1 + 1 < cLine by omega) z dd (fun x hx => ?_) (fun x hx => ?_) ?_ (by rw [← hl]; exact hd.1) fun h' d' hs => ?_
  · obtain ⟨o, items, n, h1, h2, h3, h4⟩ := keyC I (hk x hx)
    exact ⟨o, items, n, Heap.get?_push_of_some _ h1, h2, h3, h4⟩
  · obtain ⟨o, items, n, h1, h2, h3, h4⟩ := keyC I (hk x hx)
    exact ⟨o, h1, h2⟩
  · have : (ys.map fun x => tupleKeyHash (mixKind X.prog X.w) x.1) = kvs.map fun e => tupleKeyHash (mixKind X.prog X.w) e.1 := by
      have := congrArg (List.map (tupleKeyHash (mixKind X.prog X.w))) hkeys
      rw [List.map_map, List.map_map] at this
      exact this.symm
    show (ys.map fun x => tupleKeyHash (mixKind X.prog X.w) x.1).Nodup
    rw [this]; exact hn
  · obtain ⟨o, es, ep, f1, f2, f3, f4, f5, f6⟩ := d'
    have f : H s.heap.objs.size = none := I.hok.fresh (Nat.le_refl _)
    refine ⟨.ref s.heap.objs.size, upd H s.heap.objs.size (dX X.prog X.w s.heap.objs.size ys), I.laid (t' := s.toks) (fun b u e => (hs.2 b (Nat.ne_of_lt (Heap.lt_size e))).trans (Heap.get?_push_of_some _ e)) (Nat.le_refl _)
      (dX_ok hm ⟨o, es, ep, f1, f2, f3, f4, f6⟩), rfl, q _ ys f ⟨hd.1, ys, upd_same, rel.keeps fun q zs hq => Rd.same_tup (Rd.same_new f) hq⟩⟩
end Es
namespace Fa
open PySem PySem.Spec PyProof.Rows L2 Bd Es Dj Ef Re
/-- the hash of a reference -/
def hR (p : Rf) : Int := reduceHash (Builtin.Tuple.tupleHashOf [hashInt p.1, hashInt p.2])
theorem hR_is {P : Program} {w : World} {p : Rf} : tupleKeyHash (mixKind P w) (eR p) = hR p := by
  unfold tupleKeyHash hR
  congr 1
def refsL : List Rf := ((List.range 5).flatMap fun (i : Nat) => (List.range 20).map fun (j : Nat) => ((i : Int), (j : Int))) ++ (List.range 110).map fun (j : Nat) => ((50 : Int), (j : Int))
def hashL : List Int := [-8458139203682520985, -1950498447580522560, 7204814214171964562, -4734289103435588629, 1773351652666409796, -3119722376306286570, -1010439003188656273, -5903513032161352639, 604127723940645786, -4288946305032050580, -2179662931914420283, 4327977824187578142, -565096204785118224, 5942544551316880201, 1049470522344183835, 3158753895461814132, -1734320133510882234, 4773320622591116191, -7165782695016437000, 1989529966736050122, -5164621852614943976, 8389048192121911274, -3550055125485641917, -1440771752368011620, -6333845781340707986, 173794974761290439, -4719279054211405927, -2609995681093775630, 3897645075008222795, -995428953964473571, 5512211802137524854, -3779219609819539640, 2728421146282458785, -2164652882690237581, 4342987873411760844, 6452271246529391141, 1559197217556694775, 8066837973658693200, 3173763944685996834, 5283047317803627131, 4685526799349444076, 6794810172467074373, 1901736143494378007, 8409376899596376432, 3516302870623680066, -8422800446983873125, -6313517073866242828, 7240152970870612422, -4698950346736940769, 8854719697999914481, -7482741002592006838, 6070929042144848412, -5868174275462704779, 639466480639293646, -8651964931317770848, -2144324175215772423, -7037398204188468789, -529757448086470364, 8625555213666016758, -3313548103941536433, 2248468952609198383, 8756109708711196808, 3863035679738500442, 5972319052856130739, 1079245023883434373, 7586885779985432798, -4352217537622120393, 4803095124130366729, -7136008193477186462, 6417661851259668788, -5521441466347884403, 3633871195404602719, -8305232122202950472, -1797591366100952047, -6690665395073648413, -4581382021956018116, 8972288022780837134, -2966815294826716057, -7859889323799412423, -1352248567697413998, -6348126469135965181, 159514286966033244, -9131917124991031250, -2624276368889032825, 3883364387212965600, -1009709641759730766, 1099573731357899531, -3793500297614796835, 2714140458487201590, -2178933570485494776, -69650197367864479, 6437990558734133946, 1544916529761437580, 8052557285863436005, -1238874126093628489, 5268766630008369936, 375692601035673570, 6883333357137671995, 8992616730255302292, 4099542701282605926, 2369737260960043914, 4479020634077674211, -414053394895022155, 6093587361206976270, 1200513332234279904, 3309796705351910201, -1583277323620786165, 4924363432481212260, -7014739885126340931, 6538930159610514319, 8648213532728144616, 3755139503755448250, -8183963813852104941, -1676323057750106516, 7478989604002380606, -4460113713605172585, 9093556331131682665, -2845546986475870526, 6309765675276616596, -5629337642330936595, 878303113771061830, -4014770915201634536, -1905487542084004239, -6798561571056700605, -290920814954702180, -5183994843927398546, -3074711470809768249, 3432929285292230176, -1460144743680466190, 5047496012421532235, -4243935399535532259, 2263705356566466166, -2629368672406230200, 3878272083695768225, -8060831233911784966, 1094481427840702156, 7602122183942700581, 2709048154970004215, 9216688911072002640, -7120771789519918679, 6432898255216936571, -5506205062390616620, 8047464982346238630, -8289995718245682689, 5263674326491172561, -6675428991116380630, -167788235014382205, 8987524426738104917, -2951578890869448274, -7844652919842144640, -1337012163740146215, 7818300498012340907, -4120802819595212284, 2386837936506786141, -2506236092465910225, -396952719348279928, -5290026748320976294, 1217614007781022131, 7725254763883020556, 2832180734910324190, 4941464108027954487, 48390079055258121, 6556030835157256546, 1662956806184560180, 3772240179302190477, -8166863138305362714, 5386806906431492536, -6552296411176060655, 2603016250576426467, 9110657006678424892, 4217582977705728526, -7721520339901824665, -5612236966784194368, 7941433077952660882, -3997670239654892309, -8890744268627588675, -6781460895509958378, 6772209149226896872, -5166894168380656319, 1340746587721342106, -3552327441251354260, -1443044068133723963, -6336118097106420329, 171522658995578096, 6679163415097576521, -2612267996859487973, 3895372759242510452, -997701269730185914, 5509939486371812511, -3781491925585251983, 2726148830516746442, -9212954487090806749, 4340715557646048501, 6449998930763678798, 1556924901790982432, 8064565657892980857, 3171491628920284491, 5280775002037914788, -6658328315569638403, 6895341729167216847, -5043761588440336344, 4111551073312150778, -7827552244295402413, -1319911488193403988, -6212985517166100354, 294655238935898071, -8996776173021166423, -2489135416919167998, -7382209445891864364, -874568689789865939]
theorem hashL_is : refsL.map hR = hashL := by decide +kernel
theorem hashL_nd : hashL.Nodup := by decide +kernel
theorem refsL_nd : (refsL.map hR).Nodup := by rw [hashL_is]; exact hashL_nd
theorem rf_mem {p : Rf} (h : RfOk p) : p ∈ refsL := by
  obtain ⟨a, b⟩ := p
  rcases h with ⟨h1, h2, h3, h4⟩ | ⟨h1, h3, h4⟩
  · refine List.mem_append_left _ (List.mem_flatMap.mpr ⟨a.toNat, List.mem_range.mpr (by omega), List.mem_map.mpr ⟨b.toNat, List.mem_range.mpr (by omega), ?_⟩⟩)
    exact Prod.ext (Int.toNat_of_nonneg h1) (Int.toNat_of_nonneg h3)
  · refine List.mem_append_right _ (List.mem_map.mpr ⟨b.toNat, List.mem_range.mpr (by omega), ?_⟩)
    exact Prod.ext h1.symm (Int.toNat_of_nonneg h3)
theorem inj_of {α β : Type} {f : α → β} {l : List α} (n : (l.map f).Nodup) : ∀ x ∈ l, ∀ y ∈ l, f x = f y → x = y := by
  induction l with
  | nil => exact fun _ h => by cases h
  | cons a l ih =>
    rw [List.map_cons, List.nodup_cons] at n
    intro x hx y hy e
    rcases List.mem_cons.mp hx with q1 | q1
    · rcases List.mem_cons.mp hy with q2 | q2
      · rw [q1, q2]
      · exact absurd (by rw [← q1, e]; exact List.mem_map_of_mem q2) n.1
    · rcases List.mem_cons.mp hy with q2 | q2
      · exact absurd (by rw [← q2, ← e]; exact List.mem_map_of_mem q1) n.1
      · exact ih n.2 x q1 y q2 e
theorem refs_hash {P : Program} {w : World} {L : List Rf} (h : ∀ p ∈ L, RfOk p) (n : L.Nodup) : ((L.map eR).map (tupleKeyHash (mixKind P w))).Nodup := by
  refine List.pairwise_map.mpr (List.pairwise_map.mpr (n.imp_of_mem fun {a b} ha hb ne e => ne ?_))
  rw [hR_is, hR_is] at e
  exact inj_of refsL_nd a (rf_mem (h a ha)) b (rf_mem (h b hb)) e
end Fa
namespace Fa
open PySem PySem.Spec PyProof.Rows L2 Bd Es Dj Ef Re
section
variable {P : Program} {w : World} {K : PySem.W.Frag} {H H' : Hp} {D : MA} {S : StM}
/-- the law's own state is copied: the copy's parts, and what it shares -/
theorem MdS.twin {D' : MA} {kv : List (List Key × V)} {av : List (Key × V)} (hM : MdS P w K H D S) (hP : Paired (MoR K H) kv S.outs) (hAP : Paired (AccR K H) av S.accs) (s : Same H H') (e1 : D'.sk = D.sk) (e2 : D'.ck = D.ck)
    (m : H' D'.m = some (.dK (mdKv D'))) (o : DS P w K H' D'.o kv) (ac : H' D'.ac = some (.dK av)) (pt : H' D'.pt = some (.lst [.int S.fees, .int S.res, .int S.tre])) (us : H' D'.us = some (.lst (S.used.map V.int))) : MdS P w K H' D' S where
  m := m
  outs := ⟨kv, o, Paired.mapP hP fun _ _ ⟨e, q⟩ => ⟨e, Rd.dp_same s q⟩⟩
  ond := hM.ond
  accs := ⟨av, ac, Paired.mapP hAP fun _ _ ⟨e, y, e2, q⟩ => ⟨e, y, e2, Rd.same_tup s q⟩⟩
  and_ := hM.and_
  stk := by
    obtain ⟨xs, h1, h2⟩ := hM.stk
    rw [e1]
    exact ⟨xs, Rd.same_tup s h1, dpAll_same s h2⟩
  pots := pt
  clk := by rw [e2]; exact Rd.same_tup s hM.clk
  used := us
  und := hM.und
end
theorem put_kP {o ac sk pt : V} : putK [(kO, o), (kA, ac), (kS, sk)] kP pt = [(kO, o), (kA, ac), (kS, sk), (kP, pt)] := by
  have n : kO ≠ kP ∧ kA ≠ kP ∧ kS ≠ kP := by decide +kernel
  obtain ⟨a1, a2, a3⟩ := n
  unfold putK
  rw [if_neg]
  · rfl
  · simp only [List.any_cons, List.any_nil, Bool.or_false, a1, a2, a3, decide_false, Bool.or_self]; decide
theorem put_kC {o ac sk pt ck : V} : putK [(kO, o), (kA, ac), (kS, sk), (kP, pt)] kC ck = [(kO, o), (kA, ac), (kS, sk), (kP, pt), (kC, ck)] := by
  have n : kO ≠ kC ∧ kA ≠ kC ∧ kS ≠ kC ∧ kP ≠ kC := by decide +kernel
  obtain ⟨a1, a2, a3, a4⟩ := n
  unfold putK
  rw [if_neg]
  · rfl
  · simp only [List.any_cons, List.any_nil, Bool.or_false, a1, a2, a3, a4, decide_false, Bool.or_self]; decide
theorem put_kU {o ac sk pt ck us : V} : putK [(kO, o), (kA, ac), (kS, sk), (kP, pt), (kC, ck)] kU us = [(kO, o), (kA, ac), (kS, sk), (kP, pt), (kC, ck), (kU, us)] := by
  have n : kO ≠ kU ∧ kA ≠ kU ∧ kS ≠ kU ∧ kP ≠ kU ∧ kC ≠ kU := by decide +kernel
  obtain ⟨a1, a2, a3, a4, a5⟩ := n
  unfold putK
  rw [if_neg]
  · rfl
  · simp only [List.any_cons, List.any_nil, Bool.or_false, a1, a2, a3, a4, a5, decide_false, Bool.or_self]; decide
theorem put_k3 {o ac sk : V} : mergeK [] [(kO, o), (kA, ac), (kS, sk)] = [(kO, o), (kA, ac), (kS, sk)] := merge_id (by show ([kO, kA, kS] : List Key).Nodup; decide +kernel)
end Fa

set_option Elab.async false
set_option linter.all false
set_option maxRecDepth 100000
set_option maxHeartbeats 4000000
/-! kept copies of a state, marks and a list of data beside it -/
namespace Fa
open PySem PySem.Spec PyProof.Rows L2 Bd Es Dj Ef Re
/-- a call that cannot raise where it stands -/
theorem passNo {X : Cx} {σ : L2.St} : L2.PassesAt (L2.CX X.prog X.w) X σ (fun _ _ _ => False) := fun pins H s e s' I h => by
  obtain ⟨_, _, _, _, _, _, _, _, _, _, _, _, q⟩ := h
  exact q.elim
theorem pairedApp {α β : Type} {T : α → β → Prop} : ∀ {xs as : List α} {ys bs : List β}, Paired T xs ys → Paired T as bs → Paired T (xs ++ as) (ys ++ bs)
  | _, _, _, _, Paired.nil, h => h
  | _, _, _, _, Paired.cons a t, h => Paired.cons a (pairedApp t h)
theorem pairedTake {α β : Type} {T T' : α → β → Prop} : ∀ {n : Nat} {xs : List α} {ys : List β}, Paired T xs ys → (∀ x ∈ xs.take n, ∀ y, T x y → T' x y) → Paired T' (xs.take n) (ys.take n)
  | 0, _, _, _, _ => by rw [List.take_zero, List.take_zero]; exact Paired.nil
  | _ + 1, _, _, Paired.nil, _ => Paired.nil
  | n + 1, x :: xs, y :: ys, Paired.cons a t, h => Paired.cons (h x (by simp) y a) (pairedTake t fun x hx => h x (by simp [hx]))
section
variable {P : Program} {w : World} {K : PySem.W.Frag} {H H' H0 : Hp} {A A' : SA} {S S' M : StM} {B : BkT} {D D' : MA} {mp dp kp : Addr} {ms : List Int} {L : List (MA × StM)} {xs : List V} {ds : List PyData} {U : List Addr}
theorem Lw.addZ {z : List Addr} (h : Lw P w K H A S B D M) (n : ∀ x ∈ z, H x = none) (s : Same H H') (l : ∀ x ∈ z, H' x ≠ none) : Lw P w K H' { A with z := A.z ++ z } S B D M :=
  ⟨h.st.addZ n s l, h.md.keep s, h.eq, fun x hx => List.mem_append_left _ (h.z x hx), h.nd, h.ok⟩
structure Kp (P : Program) (w : World) (K : PySem.W.Frag) (H : Hp) (A : SA) (D : MA) (mp dp kp : Addr) (ms : List Int) (L : List (MA × StM)) (xs : List V) (ds : List PyData) : Prop where
  cp : ∀ e ∈ L, MdS P w K H e.1 e.2 ∧ ∀ x ∈ e.1.O, x ∈ A.z ∧ x ∉ D.O ∧ x ≠ mp ∧ x ≠ dp
  ma : H mp = some (.lst (ms.map V.int))
  ml : H dp = some (.lst (L.map fun e => V.ref e.1.m))
  kl : H kp = some (.lst xs)
  kd : DpAll K H xs ds
  kn : nlAll ds = true
  m1 : mp ∈ A.z ∧ mp ∉ D.O
  m2 : dp ∈ A.z ∧ dp ∉ D.O
  m3 : kp ∈ A.z ∧ kp ∉ D.O
  ne : mp ≠ dp ∧ mp ≠ kp ∧ dp ≠ kp
theorem lst_live {a : Addr} {l : List V} (h : H a = some (.lst l)) : H a ≠ none := fun q => by rw [h] at q; cases q
theorem Kp.mv (h : Kp P w K H A D mp dp kp ms L xs ds) (f : Fr K U H H') (hU : ∀ x ∈ U, x ∈ A.O ∨ x ∈ D.O) (zl : ∀ x ∈ A.z, x ∉ A.O) (ez : ∀ x ∈ A.z, x ∈ A'.z) (eO : ∀ x ∈ D'.O, x ∈ D.O ∨ H x = none) : Kp P w K H' A' D' mp dp kp ms L xs ds := by
  have nU : ∀ {x}, x ∈ A.z → x ∉ D.O → x ∉ U := fun q r u => (hU _ u).elim (zl _ q) r
  have nD : ∀ {x}, x ∉ D.O → H x ≠ none → x ∉ D'.O := fun q r u => (eO _ u).elim q r
  refine ⟨fun e he => ?_, f.keep _ _ (nU h.m1.1 h.m1.2) h.ma, f.keep _ _ (nU h.m2.1 h.m2.2) h.ml, f.keep _ _ (nU h.m3.1 h.m3.2) h.kl, f.dpAll h.kn h.kd, h.kn, ⟨ez _ h.m1.1, nD h.m1.2 (lst_live h.ma)⟩, ⟨ez _ h.m2.1, nD h.m2.2 (lst_live h.ml)⟩, ⟨ez _ h.m3.1, nD h.m3.2 (lst_live h.kl)⟩, h.ne⟩
  obtain ⟨c1, c2⟩ := h.cp e he
  exact ⟨c1.fr f fun x hx => nU (c2 x hx).1 (c2 x hx).2.1, fun x hx => ⟨ez _ (c2 x hx).1, nD (c2 x hx).2.1 (c1.live x hx), (c2 x hx).2.2⟩⟩
theorem Kp.keep (h : Kp P w K H A D mp dp kp ms L xs ds) (s : Same H H') : Kp P w K H' A D mp dp kp ms L xs ds :=
  ⟨fun e he => ⟨(h.cp e he).1.keep s, (h.cp e he).2⟩, s _ _ h.ma, s _ _ h.ml, s _ _ h.kl, dpAll_same s h.kd, h.kn, h.m1, h.m2, h.m3, h.ne⟩
theorem Kp.more {z : List Addr} (h : Kp P w K H A D mp dp kp ms L xs ds) : Kp P w K H { A with z := A.z ++ z } D mp dp kp ms L xs ds :=
  ⟨fun e he => ⟨(h.cp e he).1, fun x hx => ⟨List.mem_append_left _ ((h.cp e he).2 x hx).1, ((h.cp e he).2 x hx).2⟩⟩, h.ma, h.ml, h.kl, h.kd, h.kn, ⟨List.mem_append_left _ h.m1.1, h.m1.2⟩, ⟨List.mem_append_left _ h.m2.1, h.m2.2⟩, ⟨List.mem_append_left _ h.m3.1, h.m3.2⟩, h.ne⟩
theorem Kp.setM {p : Addr} {ns : List Int} (h : Kp P w K H A D mp dp kp ms L xs ds) (s : Same H H') (hp : H p = none) (e : H' p = some (.lst (ns.map V.int))) (z : p ∈ A.z) (hD : ∀ x ∈ D.O, H x ≠ none) : Kp P w K H' A D p dp kp ns L xs ds := by
  have k := h.keep s
  exact ⟨fun e he => ⟨(k.cp e he).1, fun x hx => ⟨((k.cp e he).2 x hx).1, ((k.cp e he).2 x hx).2.1, fun q => (h.cp e he).1.live x hx (by rw [q]; exact hp), ((k.cp e he).2 x hx).2.2.2⟩⟩, e, k.ml, k.kl, k.kd, k.kn, ⟨z, fun q => hD _ q hp⟩, k.m2, k.m3, fun q => lst_live h.ml (by rw [← q]; exact hp), fun q => lst_live h.kl (by rw [← q]; exact hp), k.ne.2.2⟩
theorem Kp.setL {p : Addr} {N : List (MA × StM)} (h : Kp P w K H A D mp dp kp ms L xs ds) (s : Same H H') (hp : H p = none) (e : H' p = some (.lst (N.map fun e => V.ref e.1.m))) (hN : ∀ e ∈ N, e ∈ L) (z : p ∈ A.z) (hD : ∀ x ∈ D.O, H x ≠ none) : Kp P w K H' A D mp p kp ms N xs ds := by
  have k := h.keep s
  exact ⟨fun e he => ⟨(k.cp e (hN e he)).1, fun x hx => ⟨((k.cp e (hN e he)).2 x hx).1, ((k.cp e (hN e he)).2 x hx).2.1, ((k.cp e (hN e he)).2 x hx).2.2.1, fun q => (h.cp e (hN e he)).1.live x hx (by rw [q]; exact hp)⟩⟩, k.ma, e, k.kl, k.kd, k.kn, k.m1, ⟨z, fun q => hD _ q hp⟩, k.m3, fun q => lst_live h.ma (by rw [q]; exact hp), k.ne.2.1, fun q => lst_live h.kl (by rw [← q]; exact hp)⟩
theorem Kp.setK {p : Addr} {ys : List V} {es : List PyData} (h : Kp P w K H A D mp dp kp ms L xs ds) (s : Same H H') (hp : H p = none) (e : H' p = some (.lst ys)) (d : DpAll K H' ys es) (n : nlAll es = true) (z : p ∈ A.z) (hD : ∀ x ∈ D.O, H x ≠ none) : Kp P w K H' A D mp dp p ms L ys es := by
  have k := h.keep s
  exact ⟨k.cp, k.ma, k.ml, e, d, n, k.m1, k.m2, ⟨z, fun q => hD _ q hp⟩, k.ne.1, fun q => lst_live h.ma (by rw [q]; exact hp), fun q => lst_live h.ml (by rw [q]; exact hp)⟩
theorem Kp.pushM {v : Int} (h : Kp P w K H A D mp dp kp ms L xs ds) : Kp P w K (upd H mp (.lst ((ms ++ [v]).map V.int))) A D mp dp kp (ms ++ [v]) L xs ds := by
  have f : Fr K [mp] H (upd H mp (.lst ((ms ++ [v]).map V.int))) := Fr.list h.ma (List.mem_singleton.mpr rfl)
  exact ⟨fun e he => ⟨(h.cp e he).1.fr f fun x hx q => ((h.cp e he).2 x hx).2.2.1 (List.mem_singleton.mp q), (h.cp e he).2⟩, upd_same, (upd_ne h.ne.1.symm).trans h.ml, (upd_ne h.ne.2.1.symm).trans h.kl, f.dpAll h.kn h.kd, h.kn, h.m1, h.m2, h.m3, h.ne⟩
theorem Kp.pushL {E : MA} {T : StM} (h : Kp P w K H A D mp dp kp ms L xs ds) (m : MdS P w K H E T) (c : ∀ x ∈ E.O, x ∈ A.z ∧ x ∉ D.O ∧ x ≠ mp ∧ x ≠ dp) : Kp P w K (upd H dp (.lst ((L ++ [(E, T)]).map fun e => V.ref e.1.m))) A D mp dp kp ms (L ++ [(E, T)]) xs ds := by
  have f : Fr K [dp] H (upd H dp (.lst ((L ++ [(E, T)]).map fun e => V.ref e.1.m))) := Fr.list h.ml (List.mem_singleton.mpr rfl)
  have g : ∀ e ∈ L ++ [(E, T)], MdS P w K H e.1 e.2 ∧ ∀ x ∈ e.1.O, x ∈ A.z ∧ x ∉ D.O ∧ x ≠ mp ∧ x ≠ dp := fun e he => (List.mem_append.mp he).elim (h.cp e) fun q => by rw [List.mem_singleton.mp q]; exact ⟨m, c⟩
  exact ⟨fun e he => ⟨(g e he).1.fr f fun x hx q => ((g e he).2 x hx).2.2.2 (List.mem_singleton.mp q), (g e he).2⟩, (upd_ne h.ne.1).trans h.ma, upd_same, (upd_ne h.ne.2.2.symm).trans h.kl, f.dpAll h.kn h.kd, h.kn, h.m1, h.m2, h.m3, h.ne⟩
/-- what the marks and the copies mean -/
def MkR (S : StM) (i : Nat) (h : Int → StM) (m : Int) (e : MA × StM) : Prop := 0 ≤ m ∧ m ≤ S.fgt + (S.chg.length : Int) ∧ SEq e.2 (h m) ∧ OkM3 e.2.outs ∧ (∀ p ∈ e.2.outs.map (·.1), RfOk p) ∧ e.2.accs.length ≤ i ∧ e.2.used.length ≤ i ∧ e.2.outs.length ≤ 130 + i
structure Hs (S : StM) (i : Nat) (h : Int → StM) (ms : List Int) (L : List (MA × StM)) : Prop where
  hi : Hist S h
  pr : Paired (MkR S i h) ms L
  asc : ms.Pairwise (· ≤ ·)
theorem Hs.upto {i n : Nat} {h : Int → StM} (g : Hs S i h ms L) : Hs { S with n := n } i h ms L := ⟨g.hi.upto, g.pr, g.asc⟩
theorem Hs.mono {i j : Nat} {h : Int → StM} (g : Hs S i h ms L) (l : i ≤ j) : Hs S j h ms L :=
  ⟨g.hi, Paired.mapP g.pr fun _ _ ⟨a, b, c, d, e, x, y, o⟩ => ⟨a, b, c, d, e, Nat.le_trans x l, Nat.le_trans y l, by omega⟩, g.asc⟩
theorem Hs.step {i : Nat} {z : Int} {h : Int → StM} (g : Hs S i h ms L) (zs : (z = 0 ∧ S' = S) ∨ (z = 1 ∧ ∃ a, S' = doA S a ∧ GoA S a)) (hn : (S.outs.map (·.1)).Nodup) (ha : (S.accs.map (·.1)).Nodup) (r3 : ∀ e ∈ S.outs, e.2.rw.length ≤ 3) : ∃ h', Hs S' (i + 1) h' ms L := by
  rcases zs with ⟨_, rfl⟩ | ⟨_, a, rfl, ga⟩
  · exact ⟨h, g.hi, Paired.mapP g.pr fun _ _ ⟨a, b, c, d, e, x, y, o⟩ => ⟨a, b, c, d, e, Nat.le_succ_of_le x, Nat.le_succ_of_le y, by omega⟩, g.asc⟩
  · obtain ⟨_, _, _, f1, f2, _⟩ := doA_len S a
    refine ⟨_, g.hi.push hn ha r3 ga, Paired.mapP g.pr fun m _ ⟨a, b, c, d, e, x, y, o⟩ => ⟨a, by rw [f1, f2]; omega, by show SEq _ (if m ≤ S.fgt + (S.chg.length : Int) then h m else _); rw [if_pos b]; exact c, d, e, Nat.le_succ_of_le x, Nat.le_succ_of_le y, by omega⟩, g.asc⟩
theorem Hs.push {i : Nat} {h : Int → StM} (g : Hs S i h ms L) (hf : 0 ≤ S.fgt) (e : SEq M S) (o : OkM3 M.outs) (k : ∀ p ∈ M.outs.map (·.1), RfOk p) (a : M.accs.length ≤ i) (u : M.used.length ≤ i) (v : M.outs.length ≤ 130 + i) : Hs S i h (ms ++ [S.fgt + (S.chg.length : Int)]) (L ++ [(D, M)]) := by
  refine ⟨g.hi, pairedApp g.pr (Paired.cons ⟨by omega, Int.le_refl _, e.trans g.hi.cur, o, k, a, u, v⟩ Paired.nil), ?_⟩
  rw [List.pairwise_append]
  refine ⟨g.asc, List.pairwise_singleton _ _, fun x hx y hy => ?_⟩
  rw [List.mem_singleton.mp hy]
  obtain ⟨j, hj⟩ := List.mem_iff_getElem?.mp hx
  obtain ⟨_, _, q⟩ := paired_at1 g.pr hj
  exact q.2.1
theorem Hs.back {i j : Nat} {h : Int → StM} {m : Int} (g : Hs S i h ms L) (hj : ms[j]? = some m) (hh : Hist S' h) (e : S'.fgt + (S'.chg.length : Int) = m) : Hs S' i h (ms.take (j + 1)) (L.take (j + 1)) := by
  refine ⟨hh, ?_, g.asc.sublist (List.take_sublist _ _)⟩
  have le : ∀ x ∈ ms.take (j + 1), x ≤ m := fun x hx => by
    obtain ⟨t, ht⟩ := List.mem_iff_getElem?.mp hx
    have hl := (List.getElem?_eq_some_iff.mp ht).1
    rw [List.length_take] at hl
    rw [List.getElem?_take_of_lt (by omega)] at ht
    by_cases c : t = j
    · subst c; rw [ht] at hj; cases hj; exact Int.le_refl _
    · obtain ⟨l1, e1⟩ := List.getElem?_eq_some_iff.mp ht
      obtain ⟨l2, e2⟩ := List.getElem?_eq_some_iff.mp hj
      rw [← e1, ← e2]
      exact List.pairwise_iff_getElem.mp g.asc _ _ _ _ (by omega)
  exact pairedTake g.pr fun x hx y r => ⟨r.1, by rw [e]; exact le x hx, r.2.2⟩
end
end Fa

set_option Elab.async false
set_option linter.all false
set_option maxRecDepth 100000
set_option maxHeartbeats 4000000
/-! {k: v}: a dict of one key that is a tuple -/
namespace Es
open PySem PySem.Spec PyProof.Rows L2 Bd
def tDDisp1X (P : Program) (w : World) (K : PySem.W.Frag) (ty tx : TE) : TE := fun σ H Q => ∀ p, H p = none → DS P w K (upd H p (dX P w p [])) p [] → ty σ (upd H p (dX P w p [])) fun y H1 => tx σ H1 fun v H2 =>
  ∃ k b, y = .ref b ∧ SqT K H2 b (k.map kV) ∧ DS P w K H2 p [] ∧ ∀ ys, DS P w K (upd H2 p (dX P w p ys)) p (putK [] k v) → Q (.ref p) (upd H2 p (dX P w p ys))
theorem pe_ddisp1X {X : Cx} {P : Program} {w : World} {K : PySem.W.Frag} {ke ve : Expr} {pos : Pos} {ty tx : TE} (hP : X.prog = P) (hw : X.w = w) (hK : X.K = K) (hu : X.A.units + 1 < cLine) (hk : PE X ke ty) (hv : PE X ve tx) : PE X (.Dict [some ke] [ve] pos) (tDDisp1X P w K ty tx) := by
  subst hP; subst hw; subst hK
  refine ⟨fun pins s σ H Q I h => ?_⟩
  refine wpAny_Dict_any rfl rfl (fun q => by cases q) (show 1 ≤ 15 by decide) ?_
  have I1 := I.laid (a := s.heap.objs.size) (o := dX X.prog X.w s.heap.objs.size []) (t' := s.toks) (fun _ _ q => Heap.get?_push_of_some _ q) (Nat.le_refl _) (dX_new s.heap I.big)
  have q := h _ (I.hok.fresh (Nat.le_refl _)) DS.nil
  show wpAny _ _ (evalPairs [(eval ke X.env, do let x ← eval ve X.env; standAt pos; pure x)]) _ _ _
  refine evalPairs_cons (thn (hk.run pins _ σ _ _ I1 q) fun u s1 ⟨y, H1, I2, ry, q1⟩ => ?_)
  refine wpAny_bind (thn (hv.run pins s1 σ H1 _ I2 q1) fun r s2 ⟨v, H2, I3, rv, k, b, ey, eb, d, q2⟩ => ?_)
  subst ey
  obtain rfl : u = Value.ref b := ry
  refine wpAny_bind (wpAny_standAt (wpAny_pure (evalPairs_nil ?_)))
  obtain ⟨hd, xs, e, rel, dd⟩ := dx_at I3 d
  cases rel
  exact wpAny_storeAllH (show X.A.units < cLine by omega) [(.ref b, r)] [(k, b, r)] [] s2 _ ⟨rfl, rfl, keyC I3 eb, True.intro⟩ dd (show 0 + 1 ≤ sizeLine by decide) fun h' tk dd' hs => by
    obtain ⟨J, d'⟩ := dx_put (t' := tk) I3 e .nil (by decide) hd eb rv dd' hs
    exact ⟨V.ref s.heap.objs.size, _, J, rfl, q2 _ d'⟩
theorem heap_lt {h : Heap} {a : Addr} {o : Obj} (e : h.get? a = some o) : a < h.objs.size := by
  by_cases c : a < h.objs.size
  · exact c
  · unfold Heap.get? at e
    rw [Array.getElem?_eq_none (Nat.le_of_not_lt c)] at e
    cases e
/-- sum of a tuple of ints -/
def rSumT (K : PySem.W.Frag) : List V → Hp → VK → Prop := fun vs H Q => ∃ (a : Addr) (ns : List Int), vs = [.ref a] ∧ SqT K H a (ns.map V.int) ∧ Q (.int ns.sum) H
theorem cr_sumT {X : Cx} (hcalm : X.calm = true) : CallR X (.builtin "sum") (rSumT X.K) := by
  intro pins s σ H xs us Q I r q
  obtain ⟨a, ns, rfl, ha, q⟩ := q
  obtain ⟨u, rfl, rx⟩ := vals1 r
  obtain rfl : u = Value.ref a := rx
  obtain ⟨its, rel, tp, hl⟩ := I.tuple ha
  obtain ⟨o, h1, h2, n, h3⟩ := tp
  have lt : a < s.heap.objs.size := heap_lt h1
  have el : its.length = ns.length := by have := Paired.length rel; rw [List.length_map] at this; exact this.symm
  have tp2 : s.heap.IsTuple a its.toArray := ⟨o, h1, h2, n, h3⟩
  have vv : ∀ (i : Nat) (v : Value), its.toArray[i]? = some v → ∃ t, v = Value.int (ns.getD i 0) t := fun i v hv => by
    rw [List.getElem?_toArray] at hv
    obtain ⟨x, hx, rx⟩ := Fa.paired_at2 rel hv
    rw [List.getElem?_map] at hx
    obtain ⟨y, hy, rfl⟩ := Option.map_eq_some_iff.mp hx
    rw [List.getD_eq_getElem?_getD, hy]
    exact rx
  refine call_sum_walkG (wpAny_pyIter_tuple tp2 ⟨s.heap.objs.size, [s.heap.objs.size, a], [s.heap.objs.size], its.toArray.size, _, _, fun i => ns.getD i 0, rfl, Walks.tuple (show X.A.in1.handled = none from I.ok.hd hcalm) _ a (Nat.ne_of_lt lt) its.toArray, ⟨⟨_, Heap.get?_push_size _ rfl, rfl, rfl⟩, ⟨o, Heap.get?_push_of_some _ h1, h2, n, h3⟩⟩, fun b hb => ?_, vv, fun h' tk t' hk => ?_⟩)
  · simp only [List.mem_cons, List.not_mem_nil, or_false] at hb
    rcases hb with q | q
    · rw [q]; exact heap_lt (Heap.get?_push_size s.heap rfl)
    · rw [q]; exact heap_lt (Heap.get?_push_of_some _ h1)
  · have e : preSum (fun i => ns.getD i 0) its.toArray.size = ns.sum := by
      rw [PyProof.Rows.preSum_getD, List.size_toArray, el, List.take_length]
    rw [e]
    exact ⟨V.int ns.sum, H, I.kept fun b o hb => hk b o (fun q => by rw [List.mem_singleton.mp q] at hb; exact absurd (heap_lt hb) (Nat.lt_irrefl _)) (Heap.get?_push_of_some _ hb), ⟨_, rfl⟩, q⟩
end Es
namespace Re
open PySem PySem.Spec PyProof.Rows L2 Bd Es Dj
section
variable {K : PySem.W.Frag} {σ : L2.St} {H : Hp} {Q : VK} {n b c : L2.St → Hp → Prop} {r : VK}
theorem ddisp1X {P : Program} {w : World} {ty tx : TE} (k : ∀ p, H p = none → DS P w K (upd H p (dX P w p [])) p [] → ty σ (upd H p (dX P w p [])) fun y H1 => tx σ H1 fun v H2 =>
  ∃ k b, y = .ref b ∧ SqT K H2 b (k.map kV) ∧ DS P w K H2 p [] ∧ ∀ ys, DS P w K (upd H2 p (dX P w p ys)) p (putK [] k v) → Q (.ref p) (upd H2 p (dX P w p ys))) : tDDisp1X P w K ty tx σ H Q := k
theorem iKey {td : TE} {R : It → Hp → Prop} (k : td σ H fun x H1 => ∃ d o, x = .ref d ∧ ((∃ kvs, H1 d = some (.frz o (.dK kvs)) ∧ R (Itk d o kvs) H1) ∨ ∃ kvs, H1 d = some (.frz o (.dT kvs)) ∧ R (Itkt d o kvs) H1)) : iKeys td σ H R := k
/-- for .. in d, d locked, its keys plain -/
theorem forKeys {d : Addr} {g0 : Obj} {kvs : List (Key × V)} {g : TG} {tb : TS} (Pv : Nat → L2.St → Hp → Prop) (h : H d = some (.frz g0 (.dK kvs))) (h0 : Pv 0 σ H) (hl : ∀ i σ H', i ≤ kvs.length → Pv i σ H' → H' d = some (.frz g0 (.dK kvs)))
    (hs : ∀ (i : Nat) (k : Key) (x : V) (σ' : L2.St) (H' : Hp), kvs[i]? = some (k, x) → Pv i σ' H' → g (kV k) σ' H' fun σ2 H2 => tb ⟨Pv (i + 1), r, n, Pv (i + 1)⟩ σ2 H2) (hd : ∀ σ' H', Pv kvs.length σ' H' → n σ' H') :
    Rd.ForJ g tb ⟨n, r, b, c⟩ σ (Itk d g0 kvs) H := by
  refine ⟨fun i m σ' H' => m = kvs.length - i ∧ i ≤ kvs.length ∧ Pv i σ' H', ⟨kvs.length, by simp, Nat.zero_le _, h0⟩, ?_⟩
  rintro i m σ' H' ⟨rfl, hi, p⟩
  have q := hl i σ' H' hi p
  by_cases hlt : i < kvs.length
  · refine .inr ⟨⟨q, hlt⟩, Pv (i + 1), fun σ2 H2 p' => ⟨kvs.length - (i + 1), by omega, rfl, hlt, p'⟩, ?_⟩
    rintro x H2 ⟨rfl, k, v, hk, rfl⟩
    exact hs i k v σ' _ hk p
  · have e : i = kvs.length := by omega
    subst e
    exact .inl ⟨⟨q, Nat.le_refl _⟩, hd σ' H' p⟩
end
end Re

namespace Fa
open PySem PySem.Spec PyProof.Rows L2 Bd Es Dj Ef Re
theorem mdGA {H : Hp} {D : MA} {R : V → Prop} (h : H D.m = some (.dK (mdKv D))) (q : R (.ref D.ac)) : ∃ a v, V.ref D.m = .ref a ∧ DGet H a (.str (Rd.S [97, 99, 99, 111, 117, 110, 116, 115])) (some v) ∧ R v := mdG (k := kA) h (mdV D).2.1 q
end Fa

set_option Elab.async false
set_option linter.all false
set_option maxRecDepth 100000
set_option maxHeartbeats 4000000
/-! kept copies of a state and their marks -/
namespace Fa
open PySem PySem.Spec PyProof.Rows L2 Bd Es Dj Ef Re
section
variable {P : Program} {w : World} {K : PySem.W.Frag} {H H' H0 : Hp} {A A' : SA} {S S' M : StM} {B : BkT} {D D' : MA} {mp dp : Addr} {ms : List Int} {L : List (MA × StM)} {U : List Addr}
structure Kq (P : Program) (w : World) (K : PySem.W.Frag) (H : Hp) (A : SA) (D : MA) (mp dp : Addr) (ms : List Int) (L : List (MA × StM)) : Prop where
  cp : ∀ e ∈ L, MdS P w K H e.1 e.2 ∧ ∀ x ∈ e.1.O, x ∈ A.z ∧ x ∉ D.O ∧ x ≠ mp ∧ x ≠ dp
  ma : H mp = some (.lst (ms.map V.int))
  ml : H dp = some (.lst (L.map fun e => V.ref e.1.m))
  m1 : mp ∈ A.z ∧ mp ∉ D.O
  m2 : dp ∈ A.z ∧ dp ∉ D.O
  ne : mp ≠ dp
theorem Kq.mv (h : Kq P w K H A D mp dp ms L) (f : Fr K U H H') (hU : ∀ x ∈ U, x ∈ A.O ∨ x ∈ D.O) (zl : ∀ x ∈ A.z, x ∉ A.O) (ez : ∀ x ∈ A.z, x ∈ A'.z) (eO : ∀ x ∈ D'.O, x ∈ D.O ∨ H x = none) : Kq P w K H' A' D' mp dp ms L := by
  have nU : ∀ {x}, x ∈ A.z → x ∉ D.O → x ∉ U := fun q r u => (hU _ u).elim (zl _ q) r
  have nD : ∀ {x}, x ∉ D.O → H x ≠ none → x ∉ D'.O := fun q r u => (eO _ u).elim q r
  refine ⟨fun e he => ?_, f.keep _ _ (nU h.m1.1 h.m1.2) h.ma, f.keep _ _ (nU h.m2.1 h.m2.2) h.ml, ⟨ez _ h.m1.1, nD h.m1.2 (lst_live h.ma)⟩, ⟨ez _ h.m2.1, nD h.m2.2 (lst_live h.ml)⟩, h.ne⟩
  obtain ⟨c1, c2⟩ := h.cp e he
  exact ⟨c1.fr f fun x hx => nU (c2 x hx).1 (c2 x hx).2.1, fun x hx => ⟨ez _ (c2 x hx).1, nD (c2 x hx).2.1 (c1.live x hx), (c2 x hx).2.2⟩⟩
theorem Kq.keep (h : Kq P w K H A D mp dp ms L) (s : Same H H') : Kq P w K H' A D mp dp ms L :=
  ⟨fun e he => ⟨(h.cp e he).1.keep s, (h.cp e he).2⟩, s _ _ h.ma, s _ _ h.ml, h.m1, h.m2, h.ne⟩
theorem Kq.more {z : List Addr} (h : Kq P w K H A D mp dp ms L) : Kq P w K H { A with z := A.z ++ z } D mp dp ms L :=
  ⟨fun e he => ⟨(h.cp e he).1, fun x hx => ⟨List.mem_append_left _ ((h.cp e he).2 x hx).1, ((h.cp e he).2 x hx).2⟩⟩, h.ma, h.ml, ⟨List.mem_append_left _ h.m1.1, h.m1.2⟩, ⟨List.mem_append_left _ h.m2.1, h.m2.2⟩, h.ne⟩
theorem Kq.setM {p : Addr} {ns : List Int} (h : Kq P w K H A D mp dp ms L) (s : Same H H') (hp : H p = none) (e : H' p = some (.lst (ns.map V.int))) (z : p ∈ A.z) (hD : ∀ x ∈ D.O, H x ≠ none) : Kq P w K H' A D p dp ns L := by
  have k := h.keep s
  exact ⟨fun e he => ⟨(k.cp e he).1, fun x hx => ⟨((k.cp e he).2 x hx).1, ((k.cp e he).2 x hx).2.1, fun q => (h.cp e he).1.live x hx (by rw [q]; exact hp), ((k.cp e he).2 x hx).2.2.2⟩⟩, e, k.ml, ⟨z, fun q => hD _ q hp⟩, k.m2, fun q => lst_live h.ml (by rw [← q]; exact hp)⟩
theorem Kq.setL {p : Addr} {N : List (MA × StM)} (h : Kq P w K H A D mp dp ms L) (s : Same H H') (hp : H p = none) (e : H' p = some (.lst (N.map fun e => V.ref e.1.m))) (hN : ∀ e ∈ N, e ∈ L) (z : p ∈ A.z) (hD : ∀ x ∈ D.O, H x ≠ none) : Kq P w K H' A D mp p ms N := by
  have k := h.keep s
  exact ⟨fun e he => ⟨(k.cp e (hN e he)).1, fun x hx => ⟨((k.cp e (hN e he)).2 x hx).1, ((k.cp e (hN e he)).2 x hx).2.1, ((k.cp e (hN e he)).2 x hx).2.2.1, fun q => (h.cp e (hN e he)).1.live x hx (by rw [q]; exact hp)⟩⟩, k.ma, e, k.m1, ⟨z, fun q => hD _ q hp⟩, fun q => lst_live h.ma (by rw [q]; exact hp)⟩
theorem Kq.pushM {v : Int} (h : Kq P w K H A D mp dp ms L) : Kq P w K (upd H mp (.lst ((ms ++ [v]).map V.int))) A D mp dp (ms ++ [v]) L := by
  have f : Fr K [mp] H (upd H mp (.lst ((ms ++ [v]).map V.int))) := Fr.list h.ma (List.mem_singleton.mpr rfl)
  exact ⟨fun e he => ⟨(h.cp e he).1.fr f fun x hx q => ((h.cp e he).2 x hx).2.2.1 (List.mem_singleton.mp q), (h.cp e he).2⟩, upd_same, (upd_ne h.ne.symm).trans h.ml, h.m1, h.m2, h.ne⟩
theorem Kq.pushL {E : MA} {T : StM} (h : Kq P w K H A D mp dp ms L) (m : MdS P w K H E T) (c : ∀ x ∈ E.O, x ∈ A.z ∧ x ∉ D.O ∧ x ≠ mp ∧ x ≠ dp) : Kq P w K (upd H dp (.lst ((L ++ [(E, T)]).map fun e => V.ref e.1.m))) A D mp dp ms (L ++ [(E, T)]) := by
  have f : Fr K [dp] H (upd H dp (.lst ((L ++ [(E, T)]).map fun e => V.ref e.1.m))) := Fr.list h.ml (List.mem_singleton.mpr rfl)
  have g : ∀ e ∈ L ++ [(E, T)], MdS P w K H e.1 e.2 ∧ ∀ x ∈ e.1.O, x ∈ A.z ∧ x ∉ D.O ∧ x ≠ mp ∧ x ≠ dp := fun e he => (List.mem_append.mp he).elim (h.cp e) fun q => by rw [List.mem_singleton.mp q]; exact ⟨m, c⟩
  exact ⟨fun e he => ⟨(g e he).1.fr f fun x hx q => ((g e he).2 x hx).2.2.2 (List.mem_singleton.mp q), (g e he).2⟩, (upd_ne h.ne).trans h.ma, upd_same, h.m1, h.m2, h.ne⟩
/-- the first mark and the first copy -/
theorem Kq.first {H1 H2 : Hp} {E : MA} {v : Int} (L0 : Lw P w K H A S B D M) (hD : ∀ x ∈ E.O, H x = none) (s1 : Same H H1) (m : MdS P w K H1 E M) (h1 : H1 dp = none) (n1 : H mp = none) (m1 : H1 mp = some (.lst ([v].map V.int))) (e : H2 = upd H1 dp (.lst [.ref E.m])) (hz : ∀ x ∈ E.O, x ≠ mp) :
    Lw P w K H2 { A with z := A.z ++ (E.O ++ [mp, dp]) } S B D M ∧ Kq P w K H2 { A with z := A.z ++ (E.O ++ [mp, dp]) } D mp dp [v] [(E, M)] ∧ (∀ x ∈ E.O ++ [mp, dp], H x = none) := by
  subst e
  have s2 : Same H1 (upd H1 dp (.lst [.ref E.m])) := Rd.same_new h1
  have hz0 : ∀ x ∈ E.O ++ [mp, dp], H x = none := fun x hx => by
    rcases List.mem_append.mp hx with q | q
    · exact hD x q
    · simp only [List.mem_cons, List.not_mem_nil, or_false] at q
      rcases q with rfl | rfl
      · exact n1
      · exact s1.free h1
  have hD5 := L0.md.live
  refine ⟨L0.addZ hz0 (s1.trans s2) fun x hx => ?_, ⟨fun e he => ?_, s2 _ _ m1, upd_same, ⟨by simp, fun q => hD5 _ q n1⟩, ⟨by simp, fun q => hD5 _ q (s1.free h1)⟩, fun q => lst_live m1 (by rw [q]; exact h1)⟩, hz0⟩
  · rcases List.mem_append.mp hx with q | q
    · exact (m.keep s2).live x q
    · simp only [List.mem_cons, List.not_mem_nil, or_false] at q
      rcases q with rfl | rfl
      · exact lst_live (s2 _ _ m1)
      · exact lst_live upd_same
  · rw [List.mem_singleton.mp he]
    refine ⟨m.keep s2, fun x hx => ⟨List.mem_append_right _ (List.mem_append_left _ hx), fun q => hD5 _ q (hD x hx), hz x hx, fun q => m.live x hx (by rw [q]; exact h1)⟩⟩
end
end Fa

set_option Elab.async false
set_option linter.all false
set_option maxRecDepth 100000
set_option maxHeartbeats 4000000
/-! sorted(xs), xs a list of data that can be compared -/
namespace Es
open PySem PySem.Spec PyProof.Rows L2 Bd Dj
open PySem.W (alike alikeAll dataLt dataLe keyToks keyToksAll AllAlike Sortable EachIs)
/-- the sorted data -/
def sD (ds : List PyData) : List PyData := ds.mergeSort (dataLe false id)
def rSortedD (K : PySem.W.Frag) : List V → Hp → VK → Prop := fun vs H Q => ∃ (a : Addr) (xs : List V) (ds : List PyData), vs = [.ref a] ∧ SqL K H a xs ∧ DpAll K H xs ds ∧ AllAlike ds ∧ Sortable ds ∧ (∀ d ∈ ds, PyData.depth d ≤ 60) ∧
  ∀ (ys : List V) (p : Addr), H p = none → DpAll K H ys (sD ds) → Q (.ref p) (upd H p (.lst ys))
theorem each_dp {X : Cx} {pins : List (Addr × Obj)} {σ : L2.St} {H : Hp} {s : Shared} (I : Inv X pins σ H s) : ∀ {xs : List V} {us : List Value} {ds : List PyData}, Vals xs us → DpAll X.K H xs ds →
    EachIs (fun v d => ∃ x, RelV x v ∧ Dp X.K H x d) us ds ∧ EachIs (fun v d => ∃ as, Reads s.heap v d as) us ds
  | _, _, _, .nil, .nil => ⟨.nil, .nil⟩
  | _, _, _, .cons h t, .cons d k => by
    obtain ⟨a, b⟩ := each_dp I t k
    exact ⟨.cons ⟨_, h, d⟩ a, .cons (Dp.reads I _ _ _ d h) b⟩
theorem dp_each {K : PySem.W.Frag} {H : Hp} : ∀ {us : List Value} {ds : List PyData}, EachIs (fun v d => ∃ x, RelV x v ∧ Dp K H x d) us ds → ∃ xs, Vals xs us ∧ DpAll K H xs ds
  | _, _, .nil => ⟨[], .nil, .nil⟩
  | _, _, .cons ⟨x, h, d⟩ t => by
    obtain ⟨xs, a, b⟩ := dp_each t
    exact ⟨x :: xs, .cons h a, .cons d b⟩
theorem cr_sortedD {X : Cx} (hu : X.A.units + 65 < cLine) : CallR X (.builtin "sorted") (rSortedD X.K) := by
  intro pins s σ H xs us Q I r q
  obtain ⟨a, xs0, ds, rfl, hs, hD, hal, hk, hdp, q⟩ := q
  obtain ⟨its, rv, hl, hz⟩ := I.list hs
  obtain ⟨u, rfl, ru⟩ := vals1 r
  obtain rfl : u = Value.ref a := ru
  obtain ⟨e, er⟩ := each_dp I rv hD
  have el : its.length = ds.length := e.length
  refine PySem.W.sorted_data (enc := id) (bs := ds) hl.isList e er (by rw [List.map_id]; exact hal) (by rw [List.map_id]; exact hk) (by rw [← el, ← rv.length]; exact hz) (fun b hb => by have := hdp b hb; show X.A.units + 2 + PyData.depth b < cLine; omega) fun out hlen hout => ?_
  obtain ⟨ys, y1, y2⟩ := dp_each hout
  have hd : s.heap.objs.size ≤ s.heap.objs.size + 1 := Nat.le_succ _
  obtain ⟨n, hn⟩ := sortedAll_at s.heap its out.toArray
  refine ⟨.ref (s.heap.objs.size + 1), upd H (s.heap.objs.size + 1) (.lst ys), I.laid (t' := s.toks) (fun b o e => sortedAll_old e) hd ⟨?_, out, n, y1, hn⟩, rfl, q ys _ (I.hok.fresh hd) y2⟩
  rw [y1.length, hlen, ← el, ← rv.length]; exact hz
end Es
namespace Es
open PySem PySem.Spec PyProof.Rows L2 Bd Dj
open PySem.W (alike alikeAll dataLt dataLe keyToks keyToksAll AllAlike Sortable EachIs)
mutual
theorem alike_eq : ∀ (x y : PyData), alike x y = true → PyData.eqv x y = true → x = y
  | .none, y, h, _ => by cases y <;> simp [alike] at h; rfl
  | .bool a, y, h, e => by
    cases y <;> simp [alike] at h
    simp only [PyData.eqv, beq_iff_eq] at e; rw [e]
  | .int a, y, h, e => by
    cases y <;> simp [alike] at h
    simp only [PyData.eqv, beq_iff_eq] at e; rw [e]
  | .str a, y, h, e => by
    cases y <;> simp [alike] at h
    simp only [PyData.eqv, beq_iff_eq] at e; rw [e]
  | .list xs, y, h, e => by
    cases y with
    | list ys => rw [alikeAll_eq xs ys (by simpa [alike] using h) (by simpa only [PyData.eqv] using e)]
    | _ => simp [alike] at h
  | .tuple xs, y, h, e => by
    cases y with
    | tuple ys => rw [alikeAll_eq xs ys (by simpa [alike] using h) (by simpa only [PyData.eqv] using e)]
    | _ => simp [alike] at h
  | .dict xs, y, h, e => by cases y <;> simp [alike] at h
theorem alikeAll_eq : ∀ (xs ys : List PyData), alikeAll xs ys = true → PyData.eqvAll xs ys = true → xs = ys
  | [], [], _, _ => rfl
  | [], _ :: _, _, e => by simp [PyData.eqvAll] at e
  | _ :: _, [], _, e => by simp [PyData.eqvAll] at e
  | x :: xs, y :: ys, h, e => by
    simp only [alikeAll, Bool.and_eq_true] at h
    simp only [PyData.eqvAll, Bool.and_eq_true] at e
    rw [alike_eq x y h.1 e.1, alikeAll_eq xs ys h.2 e.2]
end
theorem toks_eq {x y : PyData} (h : alike x y = true) (e : keyToks x = keyToks y) : x = y := by
  cases q : PyData.eqv x y with
  | true => exact alike_eq x y h q
  | false =>
    have g := (PySem.W.toks_eqv x y h).2 q [] [Sum.inl 0]
    rw [e, PySem.W.lex_pre] at g
    have g2 := PyProof.Rows.lex_irrefl (O := itemOrd) (keyToks y)
    rw [g2] at g
    exact absurd g (by decide)
theorem perm_srt_uniq {α : Type} {r : α → α → Prop} : ∀ {l m : List α}, (∀ a ∈ l, ∀ b ∈ l, r a b → r b a → a = b) → l.Perm m → l.Pairwise r → m.Pairwise r → l = m
  | [], m, _, p, _, _ => (List.nil_perm.mp p).symm
  | a :: l, [], _, p, _, _ => absurd p.length_eq (by simp)
  | a :: l, b :: m, an, p, h1, h2 => by
    rw [List.pairwise_cons] at h1 h2
    have e : a = b := by
      have ha : a ∈ b :: m := p.subset List.mem_cons_self
      have hb : b ∈ a :: l := p.symm.subset List.mem_cons_self
      rcases List.mem_cons.mp ha with q | q
      · exact q
      · rcases List.mem_cons.mp hb with q2 | q2
        · exact q2.symm
        · exact an a List.mem_cons_self b hb (h1.1 b q2) (h2.1 a q)
    subst e
    rw [perm_srt_uniq (fun x hx y hy => an x (List.mem_cons_of_mem _ hx) y (List.mem_cons_of_mem _ hy)) (List.Perm.cons_inv p) h1.2 h2.2]
theorem sD_perm (ds : List PyData) : (sD ds).Perm ds := List.mergeSort_perm ds _
theorem sD_srt (ds : List PyData) : (sD ds).Pairwise fun a b => dataLt b a = false := by
  have t := PySem.W.sortLe_total (listOrd itemOrd) false (fun b : PyData => keyToks (id b))
  have h := List.pairwise_mergeSort (le := dataLe false (id : PyData → PyData)) t.trans (fun a b => by have := t.total a b; rw [Bool.or_eq_true]; exact this) ds
  refine h.imp fun {a b} q => ?_
  have q2 : (!dataLt b a) = true := q
  simpa using q2
theorem sD_congr {ds es : List PyData} (p : ds.Perm es) (hal : AllAlike ds) : sD ds = sD es := by
  refine perm_srt_uniq (fun a ha b hb h1 h2 => ?_) ((sD_perm ds).trans (p.trans (sD_perm es).symm)) (sD_srt ds) (sD_srt es)
  have ha' := (sD_perm ds).subset ha
  have hb' := (sD_perm ds).subset hb
  exact toks_eq (hal a ha' b hb') (PyProof.Rows.lex_total (O := itemOrd) _ _ h2 h1)
/-- the sorted data are encodings again -/
theorem sD_map {α : Type} (enc : α → PyData) : ∀ (R : List α), ∃ S : List α, S.Perm R ∧ sD (R.map enc) = S.map enc := by
  intro R
  have p := sD_perm (R.map enc)
  generalize sD (R.map enc) = ds at p
  obtain ⟨S, h1, h2⟩ : ∃ S : List α, S.Perm R ∧ ds = S.map enc := by
    generalize hm : R.map enc = es at p
    induction p generalizing R with
    | nil => exact ⟨[], by rw [List.map_eq_nil_iff.mp hm], rfl⟩
    | cons x _ ih =>
      obtain ⟨r, R', rfl, rfl, h3⟩ := List.map_eq_cons_iff.mp hm
      obtain ⟨S, a, b⟩ := ih R' h3
      exact ⟨r :: S, a.cons r, by rw [List.map_cons, b]⟩
    | swap x y l =>
      obtain ⟨r, R', rfl, h2, h3⟩ := List.map_eq_cons_iff.mp hm
      obtain ⟨r', R'', rfl, h4, h5⟩ := List.map_eq_cons_iff.mp h3
      exact ⟨r' :: r :: R'', List.Perm.swap r r' R'', by rw [List.map_cons, List.map_cons, h2, h4, h5]⟩
    | trans _ _ ih1 ih2 =>
      obtain ⟨S, a, b⟩ := ih2 R hm
      obtain ⟨S2, a2, b2⟩ := ih1 S b.symm
      exact ⟨S2, a2.trans a, b2⟩
  exact ⟨S, h1, h2⟩
end Es

set_option Elab.async false
set_option linter.all false
set_option maxRecDepth 100000
set_option maxHeartbeats 4000000
/-! comprehensions that keep some items of a list, whatever they stand for -/
namespace Dj
open PySem PySem.Spec PyProof.Rows L2
section
variable {K : PySem.W.Frag} {σ : L2.St} {H : Hp} {Q : VK} {β : Type}
theorem lcPF {T : Hp → V → β → Prop} (hT : ∀ {H H' : Hp} {x : V} {e : β}, SameT H H' → T H x e → T H' x e) {a : Addr} {xs : List V} {g : TG} {tt : TT} {te : TE} {vs : List Nat} {R : List β} (F : β → Bool) (h : SqL K H a xs) (hx : Paired (T H) xs R) (hl : xs.length ≤ 100000)
    (hs : ∀ (e : β) (x : V) (D : Addr) (acc : List V) (H' : Hp) (C : VK) (N : Hp → Prop), H D = none → Same H H' → e ∈ R → T H' x e → H' D = some (.lst acc) → (F e = true → C x H') → (F e = false → N H') →
      g x (wipe σ vs) H' fun σ2 H2 => wipe σ2 vs = wipe σ vs ∧ tt σ2 H2 fun b H3 => if b = true then te σ2 H3 C else N H3)
    (hd : ∀ D acc H', H D = none → Same H H' → H' D = some (.lst acc) → Paired (T H') acc (R.filter F) → Q (.ref D) H') :
    ∃ p, V.ref a = .ref p ∧ (∃ ys, SqL K H p ys) ∧ Rd.LcJ g tt te vs σ Q (Itl K p) H := by
  have hxl : xs.length = R.length := Paired.length hx
  refine ⟨a, rfl, ⟨_, h⟩, fun D hD => ?_⟩
  refine lc_list (xs := xs) (fun i H' => ∃ acc, Same H H' ∧ acc.length ≤ i ∧ H' D = some (.lst acc) ∧ Paired (T H') acc ((R.take i).filter F)) ⟨[], Rd.same_new hD, Nat.le_refl _, upd_same, Paired.nil⟩ (fun i H' _ ⟨_, s, _⟩ => s.seq h) ?_ ?_
  · rintro i x H' hi ⟨acc, s, hal, hDl, hacc⟩
    obtain ⟨e, he, hte⟩ := Fa.paired_at1 hx hi
    have hi2 : i < xs.length := (List.getElem?_eq_some_iff.mp hi).1
    refine hs e x D acc H' _ _ hD s (List.mem_of_getElem? he) (hT (.of s) hte) hDl (fun hF => ?_) (fun hF => ?_)
    · have st : SameT H' (upd H' D (.lst (acc ++ [x]))) := .put hDl
      refine ⟨acc, hDl, Rd.smallT (by omega), acc ++ [x], Rd.same_mut s hD, by rw [List.length_append]; simp; omega, upd_same, ?_⟩
      rw [List.take_add_one, he, List.filter_append]
      simp only [Option.toList, List.filter_cons, hF, if_true, List.filter_nil]
      exact Fa.pairedApp (Paired.mapP hacc fun _ _ q => hT st q) (Paired.cons (hT (SameT.trans (.of s) st) hte) Paired.nil)
    · refine ⟨acc, s, by omega, hDl, ?_⟩
      rw [List.take_add_one, he, List.filter_append]
      simp only [Option.toList, List.filter_cons, hF, List.filter_nil, Bool.false_eq_true, if_false, List.append_nil]
      exact hacc
  · rintro H' ⟨acc, s, hal, hDl, hacc⟩
    rw [hxl, List.take_length] at hacc
    exact hd D acc H' hD s hDl hacc
end
end Dj

set_option Elab.async false
set_option linter.all false
set_option maxRecDepth 100000
set_option maxHeartbeats 4000000
/-! raise X(), an own error whose arguments are its defaults -/
namespace Bd
open PySem PySem.Spec PyProof.Rows L2
section
variable {X : Cx} {CX : CXT} {k : Nat} {C fI : Addr} {fd : FuncData} {ps : List Str} {sp : Sp} {dvs : List V} {ds : List Value} {x : Str} {p pos : Pos}
theorem run_mkO {pins : List (Addr × Obj)} {σ : L2.St} {H1 : Hp} {s1 : Shared} {Q : XK} {us : List Value} {vs : List V} (T : XC X.K C fI) (F1 : FnOk X.prog X.w X.K X.mg X.base CX k fI fd ps sp) (hr : Room (k + 1) X.A) (hb : Binds X.K fd ps ds) (hd : Vals dvs ds) (hx : Passes CX X (fun _ _ _ => False))
    (I1 : Inv X pins σ H1 s1) (r1 : Vals vs us) (h : tMkO C sp dvs (fun σ H Q => Q vs H) σ H1 Q) : wpAny (model X.prog X.w) X.A (call (.ref C) us) (MkP X pins σ Q) X.xe s1 := by
  obtain ⟨nm, q, N, bs, bm, sn, sub, ab, col, dd, k0, k1, k2, k3, k5, hC, hbm⟩ := T.o.cls
  obtain ⟨hz, q1⟩ := h
  obtain ⟨hp, g, dr, tk, os⟩ := s1
  have hsz : hp.objs.size ≤ hp.objs.size + 1 := Nat.le_succ _
  have hn : H1 (hp.objs.size + 1) = none := I1.hok.fresh hsz
  have hq := q1 (hp.objs.size + 1) hn
  have kk : ∀ b o, hp.get? b = some o → ((hp.push (PySem.W.kdv_tup us)).push (PySem.HandSPX.excO C hp.objs.size)).get? b = some o := fun b o e => Heap.get?_push_of_some _ (Heap.get?_push_of_some _ e)
  have hget : ((hp.push (PySem.W.kdv_tup us)).push (PySem.HandSPX.excO C hp.objs.size)).get? (hp.objs.size + 1) = some (PySem.HandSPX.excO C hp.objs.size) := by heap_get
  have I2 : Inv X pins σ (upd H1 (hp.objs.size + 1) (exo (hp.objs.size + 1) C none)) ⟨(hp.push (PySem.W.kdv_tup us)).push (PySem.HandSPX.excO C hp.objs.size), g, dr, tk, os⟩ :=
    I1.laid (t' := tk) (a := hp.objs.size + 1) (o := exo (hp.objs.size + 1) C none) (h' := (hp.push (PySem.W.kdv_tup us)).push (PySem.HandSPX.excO C hp.objs.size)) kk hsz (exo_ok hget)
  have r2 : Vals (V.ref (hp.objs.size + 1) :: (vs ++ dvs)) (Value.ref (hp.objs.size + 1) :: (us ++ ds)) := .cons rfl (r1.append hd)
  have hl : (Value.ref (hp.objs.size + 1) :: us ++ ds).length = ps.length := by
    have e := r2.length
    rw [F1.len _ _ _ _ hq] at e
    exact e.symm
  have hus : us.length ≤ sizeLine := by
    rw [← Paired.length r1, sizeLine_eq]
    omega
  refine wpAny_call (PySem.HandSPX.call_own F.excBase_ValueError (fun Y => PySem.HandSPX.refsVE_contains Y bm hbm) (I1.kIn _ _ hC) (PySem.W.looks_findIn I1.kIn T.iC) (fun self => PySem.W.bind_fn I1.kIn self T.tI) hus
    (codeAny_mono (F1.run _ X.stack _ _ ⟨Value.ref (hp.objs.size + 1) :: us, []⟩ (Value.ref (hp.objs.size + 1) :: (us ++ ds)) _ _ (fun _ _ _ => False) (hr.make C us []) (I2.env0.make C us []) (hb _ (Value.ref (hp.objs.size + 1) :: us) I2.kIn hl) r2 hq) fun r s' hq' => ?_))
  cases r with
  | error er => exact hx pins σ _ _ er s' I2 hq'
  | ok fl =>
    cases fl with
    | ret u =>
      obtain ⟨v, H2, os2, bare2, un2, hok2, rv, ev, d, fs, ea, ed, hd1, q2⟩ := hq'
      subst ev
      obtain ⟨h2, g2, d2, t2, os'⟩ := s'
      exact ⟨rv, mk_end (raises_own T.o.exC T.o.tyC) I1 hsz kk un2 hok2 os2 bare2 ea ed hd1 q2⟩
    | next => exact False.elim hq'
    | brk => exact False.elim hq'
    | cont => exact False.elim hq'
theorem pmk_oex0 (T : XC X.K C fI) (F1 : FnOk X.prog X.w X.K X.mg X.base CX k fI fd ps sp) (hr : Room (k + 1) X.A) (hb : Binds X.K fd ps ds) (hd : Vals dvs ds) (hx : Passes CX X (fun _ _ _ => False)) (hg : Gl X x) (hm : X.mg x = some (.ref C))
    (hdb : (x == ("__debug__" : Str)) = false := by decide) : PMk X (.Call (.Name x p) [] [] pos) (tMkO C sp dvs tNil) := by
  intro pins s σ H Q I h
  refine wpAny_Call_Name_kw (ld_glob I hg hm ?_ hdb)
  exact PySem.W.callWith_K0 I.kIn T.o.kC (run_mkO (us := []) T F1 hr hb hd hx I .nil h)
end
section
variable {X : Cx} {CT : CXT} {n : Nat} {C f : Addr} {fd : FuncData} {ps : List Str} {sp : Sp} {E : XK}
open Builtin Builtin.ObjectAttr
/-- the truth of an object of the class at C that has its own __bool__ -/
def rTruOwn (C : Addr) (sp : Sp) (E : XK) : V → Hp → (Bool → Hp → Prop) → Prop := fun x H Q => ∃ a dx fs, x = .ref a ∧ H a = some (.ins C dx fs) ∧ sp [.ref a] H (fun v H' => ∃ t, v = .bl t ∧ Q t H') E
theorem tru_own (F : FnOk X.prog X.w X.K X.mg X.base CT n f fd ps sp) (hs : PySem.W.findIn X.K (.ref C) "__bool__" = some (some (.ref f))) (hf : PySem.W.isFn X.K (.ref f) = true) (hb : Binds X.K fd ps []) (hx : Passes CT X E) (hr : Room n X.A) : TruR X (rTruOwn C sp E) := by
  intro pins s σ H x v Q I rx h
  obtain ⟨a, dx, fs, rfl, ha, hsp⟩ := h
  obtain rfl : v = Value.ref a := rx
  obtain ⟨mA, J, _⟩ := ins_get I.hok ha
  obtain ⟨od, J, _⟩ := J.look
  have hl := F.len _ _ _ _ hsp
  have cl : wpAny (model X.prog X.w) X.A (call (.ref f) [.ref a]) (fun r s' => ∃ t, r = Value.bool t ∧ TP X pins σ Q t s') X.xe s := by
    refine thn (call_def F hb hx hr I (vs := [.ref a]) (.cons rfl .nil) hsp) fun u s' ⟨v, H', I', r', t, ev, q⟩ => ?_
    subst ev
    cases r'
    exact ⟨t, rfl, H', I', q⟩
  unfold truthy
  have key : wpAny (model X.prog X.w) X.A (callSpecial? (.ref a) (Str.ofString "__bool__") []) (fun r s' => ∃ t, r = some (Value.bool t) ∧ TP X pins σ Q t s') X.xe s := by
    refine PySem.W.special_fn I.kIn J hs (beq_iff_eq.mp hf) ?_
    exact thn cl fun u s' ⟨t, e, q⟩ => ⟨t, by rw [e], q⟩
  refine wpAny_bind (wpAny_mono key (fun r s' h' => ?_) fun _ _ z => z)
  obtain ⟨t, rfl, q⟩ := h'
  exact wpAny_pure q
end
end Bd
namespace Es
open PySem PySem.Spec PyProof.Rows L2 Bd Dj
open PySem.W (alike alikeAll dataLt dataLe keyToks keyToksAll AllAlike Sortable EachIs)
/-- what is sorted and has the same items is the sorted list -/
theorem sD_uniq {ds es : List PyData} (p : ds.Perm es) (hal : AllAlike ds) (hs : es.Pairwise fun a b => dataLt b a = false) : sD ds = es := by
  refine perm_srt_uniq (fun a ha b hb h1 h2 => ?_) ((sD_perm ds).trans p) (sD_srt ds) hs
  have ha' := (sD_perm ds).subset ha
  have hb' := (sD_perm ds).subset hb
  exact toks_eq (hal a ha' b hb') (PyProof.Rows.lex_total (O := itemOrd) _ _ h2 h1)
end Es

set_option Elab.async false
set_option linter.all false
set_option maxRecDepth 100000
set_option maxHeartbeats 4000000
/-! several clauses «except C as n» in a row -/
namespace Bd
open PySem PySem.Spec PyProof.Rows L2
abbrev Su := Addr → Value → Option Addr → TS
/-- what the clauses wish of an exception of the body, one after the other; the slot of each clause's name -/
def wAsN (K : PySem.W.Frag) (Wout : WX) (D : Ends) : List (Value × Nat × Su) → WX
  | [] => Wout
  | (c, i, ts) :: r => fun cls d σ H => ∃ b, PySem.W.exmOne K cls c = some b ∧
      (b = true → ∀ a, H a = none → ts a cls d { nx := fun σ' H' => D.nx (σ'.set i none) H', rt := D.rt, bk := fun σ' H' => D.bk (σ'.set i none) H', ct := fun σ' H' => D.ct (σ'.set i none) H' } (σ.set i (some (.ref a))) H) ∧
      (b = false → wAsN K Wout D r cls d σ H)
inductive HdsAs (X : Cx) : List ExceptHandler → List (Value × Nat × Su) → Prop
  | nil : HdsAs X [] []
  | cons {x n : Str} {c : Value} {i : Nat} {ts : Su} {b₀ : Stmt} {suite : List Stmt} {np pos' : Pos} {hds : List ExceptHandler} {l : List (Value × Nat × Su)} (hi : X.N[i]? = some n) (hln : X.env.kindOf n = some .local) (hc : Names X x c)
      (hsu : ∀ (a : Addr) (oe : Obj) (cls : Value) (d : Option Addr) (pn : List (Addr × Obj)), Zc cls d oe → (∃ vs, oe.data = .fields vs) → PSs (X.suite a ((a, oe) :: pn)) (b₀ :: suite) (ts a cls d)) (r : HdsAs X hds l) :
      HdsAs X (.ExceptHandler (some (.Name x np)) (some n) (b₀ :: suite) pos' :: hds) ((c, i, ts) :: l)
section
variable {X : Cx} {body : List Stmt} {h₀ : ExceptHandler} {hds : List ExceptHandler} {l : List (Value × Nat × Su)} {pos : Pos} {tb : WX → TS} {Wout : WX}
theorem ps_try_asN (hs : X.stack = X.env :: X.outer) (hf : X.env.frame = some X.env.locals) (hN : X.N.Nodup) (tk : Takes X Wout)
    (hb : ∀ (W : WX) (pn : List (Addr × Obj)) (xe : Value → Shared → Prop), Takes (X.tr pn xe) W → PassesOwn (model X.prog X.w) X.A X.env xe → PSs (X.tr pn xe) body (tb W))
    (hh : HdsAs X (h₀ :: hds) l) : PS X (.Try body (h₀ :: hds) [] [] pos) (fun D σ H => tb (wAsN X.K Wout D l) D σ H) := by
  refine ⟨fun pins s σ H D I h => ?_⟩
  have ok := I.ok
  have hfr : X.A.frames = some (X.env :: X.outer) := by rw [ok.frames, hs]
  refine wpAny_Try_except ?_
  refine wpAny_mono ((hb (wAsN X.K Wout D l) (X.pn ++ pins) (fun e s₁ => wpAny (model X.prog X.w) X.A (noteFrame e X.env) (fun _ s₂ => wpAny (model X.prog X.w) X.A (setFlight e none) (fun _ s₃ =>
    wpAny (model X.prog X.w) X.A (handleBy e X.env (h₀ :: hds)) (SP X pins D) X.xe s₃) X.xe s₂) X.xe s₁) (fun u s' xx => ?_) PassesOwn.looking).run [] s σ H D (I.toTry _) h) (fun f s1 hsp => ?_) (fun e s1 he => he)
  · obtain ⟨a, B, sI, pins', σ', H', cls, d, rfl, J', nb, up, sky, na, os, ag, w⟩ := xx
    have J : Inv X pins σ' H' sI := J'.ofTry ok
    have sky' : Sky B (X.env :: X.outer) a (Zc cls d) X.env.locals s'.heap := by rw [← hs]; exact sky
    show wpAny (model X.prog X.w) X.A (noteFrame (.ref a) X.env) _ _ _
    refine Sky.land Zc.steady hfr hf sky' fun h3 fl3 up3 => ?_
    have J3 : Inv X pins σ' H' { s' with heap := h3 } := J.landed nb fl3.1 (up.trans up3) os ag
    obtain ⟨oe3, vs3, he3, hz3, hd3⟩ := fl3.there
    have notFr : ∀ {h : Heap} {o : Obj} {vs : Array Value}, h.FunFrames B (X.env :: X.outer) → h.get? a = some o → o.data = .fields vs → a ∉ frs (X.env :: X.outer) := fun {h o vs} ff e dd hm => by
      obtain ⟨_, o', e', hnf⟩ := ff.mem hm
      rw [e] at e'; cases e'
      exact hnf _ dd
    have nfr := notFr fl3.2.2.1 he3 hd3
    have nL : a ≠ X.env.locals := fun z => nfr (List.mem_filterMap.mpr ⟨X.env, List.mem_cons_self, by rw [hf, z]⟩)
    have nF : a ∉ X.fs := fun hm => by
      obtain ⟨e, he, q⟩ := List.mem_filterMap.mp hm
      exact nfr (List.mem_filterMap.mpr ⟨e, List.mem_cons_of_mem _ he, q⟩)
    have S3 := J3.suite he3 hd3 na nL nF
    have go : ∀ {hds' : List ExceptHandler} {l' : List (Value × Nat × Su)}, HdsAs X hds' l' → wAsN X.K Wout D l' cls d σ' H' →
        wpAny (model X.prog X.w) X.A (handleBy (.ref a) X.env hds') (SP X pins D) X.xe { s' with heap := h3 } := by
      intro hds' l' hk
      induction hk with
      | nil =>
        intro w
        refine wpAny_handleBy_nil ?_
        obtain ⟨k1, k2, k3, oe, vs, T, oT, ts', he, hz, hd, h1, hr⟩ := id fl3
        unfold PySem.passOn
        refine wpAny_bind (wpAny_field he hd h1 ?_)
        rw [if_neg (show ¬ ((Value.ref T == Value.none) = true) from by simp)]
        have fin : wpAny (model X.prog X.w) X.A (setFlight (.ref a) X.env.frame) (fun _ s4 => wpAny (model X.prog X.w) X.A (throw (.ref a) : Sem Flow) (SP X pins D) X.xe s4) X.xe { s' with heap := h3 } := by
          rw [hf]
          refine HandSPX.setFlight_upZ fl3 fun h4 hh4 up4 => wpAny_throw (tk _ _ ?_)
          exact ⟨a, B, sI, pins, σ', H', cls, d, rfl, J, nb, (up.trans up3).trans up4, .inr (.inr (by rw [hs]; exact hh4)), na, os, ag, w⟩
        first
          | exact wpAny_bind (wpAny_pure (wpAny_bind fin))
          | exact wpAny_bind fin
      | @cons x n c i ts b₀ suite np pos' hds2 l2 hi hln hc hsu r ih =>
        intro w
        obtain ⟨b, hb1, hyes, hno⟩ := w
        have hloc : Loc X.env.scope n := .inl hln
        refine wpAny_handleBy_cons (codeAny_handlers_test ?_) (by intro q; cases q)
        have LT : PySem.W.Looks (model X.prog X.w) h3 (typeOf (.ref a)) cls := fun A Q E s k q => wpAny_typeOf_ref (k _ _ he3) (by rw [hz3.1]; exact q)
        have LM := PySem.W.exm_one (M := model X.prog X.w) (J3.kIn) LT hb1
        have test : ∀ {Q : Value → Shared → Prop} {E : Value → Shared → Prop}, Q c { s' with heap := h3 } → wpAny (model X.prog X.w) (X.A.mark (some (.ref a))) (eval (.Name x np) X.env) Q E { s' with heap := h3 } := fun {Q E} q => by
          obtain ⟨hg, hdbg, hm | ⟨hm, hv, hnn⟩⟩ := hc
          · exact ld_glob (X := X.suite a ((a, oe3) :: (X.pn ++ pins))) S3 hg hm q hdbg
          · exact ld_blt (X := X.suite a ((a, oe3) :: (X.pn ++ pins))) S3 hg hm hv q hnn hdbg
        refine test (LM.here ?_)
        cases b with
        | true =>
          refine codeAny_handlers_suite_as ?_
          refine HandSPX.lands_againZ fl3 fun h4 fl4 up4 => ?_
          have J4 : Inv X pins σ' H' { s' with heap := h4 } := J.landed nb fl4.1 ((up.trans up3).trans up4) os ag
          obtain ⟨oe4, vs4, he4, hz4, hd4⟩ := fl4.there
          have S4 := J4.suite he4 hd4 na nL nF
          refine store_ok (X := X.suite a ((a, oe4) :: (X.pn ++ pins))) (v := .ref a) S4 hN hi hloc rfl (fun s5 S5 => ?_) (.inr hln)
          refine wpAny_mono ((hsu a oe4 cls d (X.pn ++ pins) hz4 ⟨_, hd4⟩).run [] s5 _ H' _ S5 (hyes rfl a na)) (fun f s6 hsp => ?_) (fun _ _ z => False.elim z)
          have end_ : ∀ {σ6 : L2.St} {H6 : Hp} {Q : Shared → Prop}, Inv (X.suite a ((a, oe4) :: (X.pn ++ pins))) [] σ6 H6 s6 → (∀ s7, Inv X pins (σ6.set i none) H6 s7 → Q s7) →
              wpAny (model X.prog X.w) X.A (do bindName X.env n .none; unbindBehindTheSuite X.env n pos') (fun _ s7 => Q s7) X.xe s6 := fun {σ6 H6 Q} S6 hq => gone_ok (S6.unsuite ok) hN hi hln hq
          cases f with
          | next =>
            obtain ⟨σ6, H6, S6, q6⟩ := hsp
            exact end_ S6 fun s7 J7 => ⟨_, _, J7, q6⟩
          | brk =>
            obtain ⟨σ6, H6, S6, q6⟩ := hsp
            exact end_ S6 fun s7 J7 => ⟨_, _, J7, q6⟩
          | cont =>
            obtain ⟨σ6, H6, S6, q6⟩ := hsp
            exact end_ S6 fun s7 J7 => ⟨_, _, J7, q6⟩
          | ret u =>
            obtain ⟨v6, σ6, H6, S6, r6, q6⟩ := hsp
            exact end_ S6 fun s7 J7 => ⟨_, _, _, J7, r6, q6⟩
        | false =>
          show wpAny _ X.A (handleBy (.ref a) X.env hds2) _ _ _
          exact ih (hno rfl)
    exact go hh w
  · cases f with
    | next =>
      obtain ⟨σ', H', J', q⟩ := hsp
      exact wpAny_execs_nil ⟨σ', H', J'.ofTry ok, q⟩
    | brk =>
      obtain ⟨σ', H', J', q⟩ := hsp
      exact ⟨σ', H', J'.ofTry ok, q⟩
    | cont =>
      obtain ⟨σ', H', J', q⟩ := hsp
      exact ⟨σ', H', J'.ofTry ok, q⟩
    | ret u =>
      obtain ⟨v, σ', H', J', r, q⟩ := hsp
      exact ⟨v, σ', H', J'.ofTry ok, r, q⟩
end
end Bd

set_option Elab.async false
set_option linter.all false
set_option maxRecDepth 100000
set_option maxHeartbeats 2000000
/-! Zr: a tuple's items in reverse, t[::-1]; list(d) of a dict with plain keys, told over a frame that is named. -/
namespace Zr
open PySem PySem.Spec PyProof.Rows L2 HT
section
variable {prog : Program} {w : World} {A : Around} {E : Value → Shared → Prop} {s : Shared}
theorem adjust_rev (n : Nat) : Builtin.Slice.sliceAdjust none none (-1) (n : Int) = ((n : Int) - 1, -1) := by
  unfold Builtin.Slice.sliceAdjust
  have h1 : ((-1 : Int) < 0) := by omega
  simp only [h1, if_true]
theorem places_rev (n : Nat) : Builtin.Slice.slicePlaces ((n : Int) - 1) (-1) (-1) = n := by
  unfold Builtin.Slice.slicePlaces
  have h1 : ¬ ((-1 : Int) > 0) := by omega
  simp only [h1, if_false]
  by_cases h : (n : Int) - 1 > -1
  · rw [if_pos h, show (- -1 : Int) = 1 by decide, Int.ediv_one]; omega
  · rw [if_neg h]; omega
theorem sliceApplied_rev {sl : Addr} {vl vu vs : Value} {n : Nat} {Q : Int × Int × Nat → Shared → Prop} (hs : s.heap.IsSliceOf sl vl vu vs) (pl : IsPart vl none) (pu : IsPart vu none) (ps : IsPart vs (some (-1)))
    (h : Q ((n : Int) - 1, -1, n) s) : wpAny (model prog w) A (Builtin.Slice.sliceApplied (.ref sl) (pure (n : Int))) Q E s := by
  obtain ⟨os, hos, hcs, hds⟩ := id hs
  unfold Builtin.Slice.sliceApplied Builtin.Slice.sliceFields
  refine wpAny_bind (wpAny_bind (wpAny_field hos hds (x := vl) rfl (wpAny_bind (wpAny_field hos hds (x := vu) rfl (wpAny_bind (wpAny_field hos hds (x := vs) rfl (wpAny_pure ?_)))))))
  refine wpAny_bind (slicePart_ ps ?_)
  show wpAny _ _ (if ((-1 : Int) == 0) = true then _ else _) _ _ s
  rw [if_neg (by decide)]
  refine wpAny_bind (slicePart_ pl (wpAny_bind (slicePart_ pu (wpAny_bind (wpAny_pure ?_)))))
  show wpAny _ _ (match Builtin.Slice.sliceAdjust none none (-1) (n : Int) with | (lo, hi) => pure (lo, (-1 : Int), Builtin.Slice.slicePlaces lo hi (-1))) _ _ s
  rw [adjust_rev n]
  show wpAny _ _ (pure ((n : Int) - 1, (-1 : Int), Builtin.Slice.slicePlaces ((n : Int) - 1) (-1) (-1))) _ _ s
  rw [places_rev]
  exact wpAny_pure h
theorem fm_congr {α β : Type} {f g : α → Option β} : ∀ l : List α, (∀ x ∈ l, f x = g x) → l.filterMap f = l.filterMap g
  | [], _ => rfl
  | x :: l, h => by
    have ih := fm_congr l fun y hy => h y (List.mem_cons_of_mem _ hy)
    have h0 := h x List.mem_cons_self
    rw [List.filterMap_cons, List.filterMap_cons, h0, ih]
theorem pick_rev (xs : Array Value) : ((List.range xs.size).filterMap fun (m : Nat) => xs[(((xs.size : Int) - 1) + (m : Int) * (-1)).toNat]?).toArray = xs.toList.reverse.toArray := by
  have e : ((List.range xs.size).filterMap fun (m : Nat) => xs[(((xs.size : Int) - 1) + (m : Int) * (-1)).toNat]?) = ((List.range xs.size).map fun k => xs.size - 1 - k).filterMap (xs[·]?) := by
    rw [List.filterMap_map]
    refine fm_congr _ fun k hk => ?_
    have := List.mem_range.mp hk
    have e2 : (((xs.size : Int) - 1) + (k : Int) * (-1)).toNat = xs.size - 1 - k := by omega
    rw [e2]
    try rfl
  rw [e, PySem.W.krv_range, List.filterMap_reverse, PySem.W.krv_all]
theorem getItem_tuple_rev {t sl : Addr} {items : Array Value} {vl vu vs : Value} {Q : Value → Shared → Prop} (ht : IsTup s.heap t items) (hs : s.heap.IsSliceOf sl vl vu vs) (pl : IsPart vl none) (pu : IsPart vu none) (ps : IsPart vs (some (-1)))
    (h : Q (.ref s.heap.objs.size) { s with heap := s.heap.push { cls := .type "tuple", data := .seq items.toList.reverse.toArray } })
    (hsz : items.size ≤ sizeLine) : wpAny (model prog w) A (getItem (.ref t) (.ref sl)) Q E s := by
  have htake : sizeOk (.seq items.toList.reverse.toArray) := by
    show items.toList.reverse.toArray.size ≤ sizeLine
    rw [List.size_toArray, List.length_reverse, Array.length_toList]
    omega
  obtain ⟨os, hos, hcs, hds⟩ := id hs
  have hTs : s.TypeIs (.ref sl) "slice" := ⟨os, hos, hcs⟩
  unfold getItem
  try with_reducible refine wpAny_holding ?_
  first | refine wpAny_bind (wpAny_pure ?_) | skip
  refine wpAny_bind (wpAny_sequenceKey ht.typeIs (by decide) ?_)
  refine wpAny_bind (wpAny_callSpecial?_slot (name := Str.ofString "__getitem__") ht.typeIs PyProof.Rows.slot_tuple_getitem
    (wpAny_call_entry PyProof.Rows.slot_tuple_getitem ht.typeIs entry_tuple_getitem ?_ (args_tuple_getitem _ _)))
  show wpAny _ _ (Builtin.Tuple.tupleItemsOf (.ref t) >>= _) _ _ s
  refine wpAny_bind (tupleItemsOf_ ht ?_)
  refine wpAny_bind (wpAny_typeOf hTs ?_)
  rw [if_pos (by decide)]
  refine wpAny_bind (sliceApplied_rev hs pl pu ps ?_)
  have hno : ¬ ((((items.size : Int) - 1) == 0 && (-1 : Int) == 1 && items.size == items.size) = true) := by
    intro q
    rw [Bool.and_eq_true, Bool.and_eq_true] at q
    exact absurd q.1.2 (by decide)
  show wpAny _ _ (if (((items.size : Int) - 1) == 0 && (-1 : Int) == 1 && items.size == items.size) = true then _ else _) _ _ s
  rw [if_neg hno, pick_rev]
  first
    | exact wpAny_bind (m := Builtin.Tuple.tupleExact _) (wpAny_newObj_type (wpAny_pure ⟨_, rfl, wpAny_pure h⟩) htake)
    | exact wpAny_bind (m := Builtin.Tuple.tupleExact _) (wpAny_newObj_type (wpAny_bind (wpAny_pure (wpAny_pure ⟨_, rfl, wpAny_pure h⟩))) htake)
    | exact wpAny_bind (wpAny_bind (m := Builtin.Tuple.tupleExact _) (wpAny_newObj_type (wpAny_pure (wpAny_pure ⟨_, rfl, wpAny_pure h⟩)) htake))
    | exact wpAny_bind (wpAny_bind (m := Builtin.Tuple.tupleExact _) (wpAny_newObj_type (wpAny_pure ⟨_, rfl, wpAny_pure h⟩) htake))
end
/-- t[::-1], a tuple -/
def tRevT (K : PySem.W.Frag) (te : TE) : TE := fun σ H Q => te σ H fun x H1 => ∃ a xs, x = .ref a ∧ SqT K H1 a xs ∧ ∀ p, H1 p = none → Q (.ref p) (upd H1 p (.tup xs.reverse))
theorem revT {K : PySem.W.Frag} {te : TE} {σ : L2.St} {H : Hp} {Q : VK} (k : te σ H fun x H1 => ∃ a xs, x = .ref a ∧ SqT K H1 a xs ∧ ∀ p, H1 p = none → Q (.ref p) (upd H1 p (.tup xs.reverse))) : tRevT K te σ H Q := k
section
variable {X : Cx}
theorem pe_revT {e : Expr} {te : TE} {k : Nat} {p1 p2 p3 pos : Pos} (he : PE X e te) : PE X (.Subscript e (.Slice none none (some (.UnaryOp .USub (.Constant (.int 1) k p1) p2)) p3) pos) (tRevT X.K te) := by
  refine ⟨fun pins s σ H Q I h => ?_⟩
  refine Subscript_ (thn (he.run pins s σ H _ I h) fun v s1 ⟨x, H1, I1, r1, q1⟩ => ?_)
  obtain ⟨a, xs, ex, hx, q⟩ := q1
  subst ex
  cases r1
  have hst : PO X (some (.UnaryOp .USub (.Constant (.int 1) k p1) p2)) (tPart (tUn (rU fun i => .int (-i)) (tC (.int 1)))) := po_some (pe_un un_neg pe_int)
  refine wpAny_Slice (thn (po_none.run pins s1 σ H1 (fun o H2 => o = none ∧ H2 = H1) I1 ⟨rfl, rfl⟩) fun vl s2 ⟨l, H2, I2, pl, el, e2⟩ => ?_)
  subst el e2
  refine thn (po_none.run pins s2 σ H2 (fun o H3 => o = none ∧ H3 = H2) I2 ⟨rfl, rfl⟩) fun vu s3 ⟨u, H3, I3, pu, eu, e3⟩ => ?_
  subst eu e3
  refine thn (hst.run pins s3 σ H3 (fun o H4 => o = some (-1) ∧ H4 = H3) I3 ⟨1, rfl, -1, rfl, rfl, rfl⟩) fun vs s4 ⟨o, H4, I4, ps, eo, e4⟩ => ?_
  subst eo e4
  have I5 : Inv X pins σ H4 { s4 with heap := s4.heap.push { cls := .type "slice", data := .fields #[vl, vu, vs] } } := I4.kept (t' := s4.toks) fun b ob q => Heap.get?_push_of_some _ q
  obtain ⟨its, r, ht, hz⟩ := I5.tuple hx
  have hlen := r.length
  show wpAny (model X.prog X.w) X.A (subscriptTail e (.Slice none none (some (.UnaryOp .USub (.Constant (.int 1) k p1) p2)) p3) (.ref a) (.ref s4.heap.objs.size)) (EP X pins σ Q) X.xe { s4 with heap := s4.heap.push { cls := .type "slice", data := .fields #[vl, vu, vs] } }
  refine tail_any (ops := [.ref a, .ref s4.heap.objs.size]) ht.typeIs PyProof.Rows.slot_tuple_getitem.lookup ?_ (by with_unfolding_all rfl)
  refine getItem_tuple_rev ht (Heap.IsSliceOf.new _ vl vu vs) pl pu ps ?_ (by rw [List.size_toArray]; omega)
  refine ⟨.ref _, _, I5.laid (t' := s4.toks) (o := .tup xs.reverse) (fun b ob q => Heap.get?_push_of_some _ q) (Nat.le_refl _) ?_, rfl, q _ (I5.hok.fresh (Nat.le_refl _))⟩
  exact ⟨by rw [List.length_reverse]; exact hz, _, r.reverse, IsTup.new _ _⟩
end
theorem op_notInK {X : Cx} {K : PySem.W.Frag} (h : X.K = K) : OpR X (compareOp .NotIn) (rIn K true) := h ▸ op_notIn_seq
theorem none_leftX {P : Program} {w : World} {K : PySem.W.Frag} {mg : Str → Option Value} {base : Heap} {k : Nat} {f : Addr} {fd : FuncData} {ps : List Str} {sp : Sp} (no : ∀ vs H Q E, ¬ sp vs H Q E) : FnOk P w K mg base (L2.CX P w) k f fd ps sp :=
  ⟨fun vs H Q E h => absurd h (no vs H Q E), fun A outer s H args us vs Q E _ _ _ _ h => absurd h (no vs H Q E)⟩
end Zr

set_option Elab.async false
set_option linter.all false
set_option maxRecDepth 100000
set_option maxHeartbeats 1000000
/-! K73m: what a strict reading of the notation is: atoms, and a run from place to place that ends well or names a place. -/
namespace Nt
open PySem PySem.Spec PyProof.Rows L2 Ez Dj
def GT (t : List Nat) : Prop := ∀ c ∈ t, 32 ≤ c ∧ c ≤ 126 ∧ c ≠ 37
def dig (c : Nat) : Bool := decide (48 ≤ c) && decide (c ≤ 57)
/-- how many digits are read -/
def nd (r : List Nat) : Nat := if r.head? = some 48 then 1 else min 60 (r.takeWhile dig).length
/-- the number m is read from r, u is left -/
structure Dg (r : List Nat) (m : Nat) (u : List Nat) : Prop where
  e : r = TL.numL m ++ u
  n : (TL.numL m).length = nd r
theorem Dg.det {r u u' : List Nat} {m m' : Nat} (h : Dg r m u) (h' : Dg r m' u') : m = m' ∧ u = u' := by
  have e := h.e.symm.trans h'.e
  have l : (TL.numL m).length = (TL.numL m').length := h.n.trans h'.n.symm
  obtain ⟨e1, e2⟩ := List.append_inj e l
  exact ⟨TL.numL_inj e1, e2⟩
theorem numL_long : ∀ {k n : Nat}, 10 ^ k ≤ n → k < (TL.numL n).length
  | 0, n, _ => by
    cases e : TL.numL n with
    | nil => exact absurd e (TL.numL_ne n)
    | cons => simp
  | k + 1, n, h => by
    have h10 : 10 ≤ n := Nat.le_trans (by rw [Nat.pow_succ]; have : 0 < 10 ^ k := Nat.pos_of_ne_zero (by simp); omega) h
    rw [TL.numL_step h10]
    have := numL_long (k := k) (n := n / 10) (by rw [Nat.pow_succ] at h; omega)
    rw [List.length_append]
    simp; omega
theorem nd_le (r : List Nat) : nd r ≤ 60 := by
  unfold nd
  split <;> omega
theorem Dg.lt {r u : List Nat} {m : Nat} (h : Dg r m u) : m < 10 ^ 60 := by
  by_cases q : m < 10 ^ 60
  · exact q
  · have := numL_long (k := 60) (n := m) (by omega)
    have := nd_le r
    have := h.n
    omega
theorem isd_dig {c : Nat} {r : List Nat} : isd (c :: r) = dig c := rfl
theorem dig_iff {c : Nat} : dig c = true ↔ 48 ≤ c ∧ c ≤ 57 := by simp [dig]
theorem isd_at {t : List Nat} {i : Nat} (h : isd (t.drop i) = true) : ∃ c, t[i]? = some c ∧ dig c = true := by
  cases e : t.drop i with
  | nil => rw [e] at h; cases h
  | cons c r => rw [e] at h; exact ⟨c, (head_at e).1, h⟩
theorem isd_of {t : List Nat} {i c : Nat} (h : t[i]? = some c) (hd : dig c = true) : isd (t.drop i) = true := by
  obtain ⟨hi, he⟩ := List.getElem?_eq_some_iff.mp h
  rw [List.drop_eq_getElem_cons hi, he]; exact hd
theorem isd_no {t : List Nat} {i : Nat} (h : isd (t.drop i) = false) : ∀ c, t[i]? = some c → dig c = false := fun c hc => by
  cases q : dig c with
  | false => rfl
  | true => rw [isd_of hc q] at h; cases h
/-- the run of digits -/
def tw (r : List Nat) : Nat := (r.takeWhile dig).length
theorem tw_drop : ∀ (r : List Nat) (j : Nat), j ≤ tw r → isd (r.drop j) = decide (j < tw r)
  | [], j, h => by simp [tw] at h; subst h; rfl
  | c :: r, j, h => by
    cases hc : dig c with
    | false =>
      have e : tw (c :: r) = 0 := by simp [tw, hc]
      rw [e] at h ⊢
      have : j = 0 := by omega
      subst this
      exact hc
    | true =>
      have e : tw (c :: r) = tw r + 1 := by simp [tw, hc]
      rw [e] at h ⊢
      cases j with
      | zero => exact hc.trans (decide_eq_true (Nat.succ_pos _)).symm
      | succ j =>
        have ih := tw_drop r j (by omega)
        rw [List.drop_succ_cons, ih]
        by_cases q : j < tw r <;> simp [q]
theorem tw_len (r : List Nat) : tw r ≤ r.length := by
  unfold tw
  exact (List.takeWhile_sublist _).length_le
theorem tw_mem {r : List Nat} {j : Nat} (h : j ≤ tw r) : ∀ c ∈ r.take j, 48 ≤ c ∧ c ≤ 57 := fun c hc => by
  obtain ⟨k, hk⟩ := List.mem_iff_getElem?.mp hc
  have hkj : k < j := by
    have := (List.getElem?_eq_some_iff.mp hk).1
    rw [List.length_take] at this; omega
  rw [List.getElem?_take_of_lt hkj] at hk
  have q := tw_drop r k (by omega)
  rw [decide_eq_true (by omega : k < tw r)] at q
  obtain ⟨c', h1, h2⟩ := isd_at q
  rw [hk] at h1
  cases h1
  exact dig_iff.mp h2
theorem digs_num : ∀ (n : Nat) (l : List Nat), l.length = n → l ≠ [] → (∀ c ∈ l, 48 ≤ c ∧ c ≤ 57) → (l.head? ≠ some 48 ∨ l = [48]) → ∃ m, l = TL.numL m
  | 0, l, hn, h, _, _ => absurd (List.eq_nil_of_length_eq_zero hn) h
  | n + 1, l, hn, h, hd, hz => by
    obtain ⟨l', c, rfl⟩ : ∃ l' c, l = l' ++ [c] := ⟨l.dropLast, l.getLast h, (List.dropLast_concat_getLast h).symm⟩
    have hc := hd c (by simp)
    cases hl : l' with
    | nil =>
      refine ⟨c - 48, ?_⟩
      rw [TL.numL_lt (by omega), List.nil_append]
      congr 1; omega
    | cons a b =>
      have hne : l' ≠ [] := by rw [hl]; simp
      have hz' : l'.head? ≠ some 48 := by
        rcases hz with q | q
        · rw [hl] at q ⊢; simpa using q
        · rw [hl] at q; have := congrArg List.length q; simp at this
      obtain ⟨m, e⟩ := digs_num n l' (by simpa using hn) hne (fun x hx => hd x (by simp [hx])) (.inl hz')
      rw [← hl]
      have hm : 0 < m := by
        rcases Nat.eq_zero_or_pos m with q | q
        · subst q; rw [e] at hz'; exact absurd rfl hz'
        · exact q
      refine ⟨10 * m + (c - 48), ?_⟩
      rw [TL.numL_step (by omega), show (10 * m + (c - 48)) / 10 = m by omega, ← e]
      congr 2; omega
theorem Dg.of {r : List Nat} (h : isd r = true) : ∃ m, Dg r m (r.drop (nd r)) ∧ r.take (nd r) = TL.numL m := by
  cases r with
  | nil => cases h
  | cons c r =>
    have hc : dig c = true := h
    have ht : tw (c :: r) = tw r + 1 := by simp [tw, hc]
    have hle : nd (c :: r) ≤ tw (c :: r) ∧ 0 < nd (c :: r) := by
      unfold nd
      split
      · omega
      · show min 60 (tw (c :: r)) ≤ _ ∧ 0 < min 60 (tw (c :: r)); omega
    have hl := tw_len (c :: r)
    obtain ⟨m, e⟩ := digs_num _ ((c :: r).take (nd (c :: r))) rfl (by
      intro q
      have := congrArg List.length q
      rw [List.length_take] at this
      simp only [List.length_nil] at this
      omega) (tw_mem hle.1) (by
      by_cases q : c = 48
      · subst q
        right
        have : nd (48 :: r) = 1 := by simp [nd]
        rw [this]; rfl
      · left
        obtain ⟨k, hk⟩ : ∃ k, nd (c :: r) = k + 1 := ⟨nd (c :: r) - 1, by omega⟩
        rw [hk]
        simp [q])
    refine ⟨m, ⟨?_, ?_⟩, e⟩
    · rw [← e, List.take_append_drop]
    · rw [← e, List.length_take]; omega
theorem Dg.isd {r u : List Nat} {m : Nat} (h : Dg r m u) : isd r = true := by
  obtain ⟨c, l, e, h1, h2, _⟩ := numL_head m
  rw [h.e, e]
  exact dig_iff.mpr ⟨h1, h2⟩
inductive Atm (t : List Nat) : Nat → Nat ⊕ (Nat × PyData) → Prop
  | tr {i} (h : t[i]? = some 84) : Atm t i (.inr (i + 1, .bool true))
  | fa {i} (h : t[i]? = some 70) : Atm t i (.inr (i + 1, .bool false))
  | neg {i m u} (h : t[i]? = some 45) (g : Dg (t.drop (i + 1)) m u) (hm : 0 < m) : Atm t i (.inr (i + 1 + (TL.numL m).length, .int (-(m : Int))))
  | ngx {i} (h : t[i]? = some 45) (g : ∀ c, t[i + 1]? = some c → ¬ (49 ≤ c ∧ c ≤ 57)) : Atm t i (.inl (i + 1))
  | bad {i} (h : ∀ c, t[i]? = some c → dig c = false ∧ c ≠ 84 ∧ c ≠ 70 ∧ c ≠ 45) : Atm t i (.inl i)
  | num {i m u} (g : Dg (t.drop i) m u) (h : 1000 < m ∨ u.head? ≠ some 58) (hd : isd (t.drop i) = true) : Atm t i (.inr (i + (TL.numL m).length, .int (m : Int)))
  | str {i m u} (g : Dg (t.drop i) m (58 :: u)) (h : m ≤ 1000) (hu : m ≤ u.length) (hd : isd (t.drop i) = true) : Atm t i (.inr (i + (TL.numL m).length + 1 + m, .str (Rd.S (u.take m))))
  | sho {i m u} (g : Dg (t.drop i) m (58 :: u)) (h : m ≤ 1000) (hu : u.length < m) (hd : isd (t.drop i) = true) : Atm t i (.inl t.length)
/-- from a place before a value (false) or behind one (true), so deep, on to the end: none, or the place of the fault -/
inductive Run (t : List Nat) : Bool → Nat → Nat → Option Nat → Prop
  | deep {i} (h : t[i]? = some 40) : Run t false i 12 (some i)
  | opn {i d r} (h : t[i]? = some 40) (hd : d < 12) (h2 : t[i + 1]? ≠ some 41) (k : Run t false (i + 1) (d + 1) r) : Run t false i d r
  | opc {i d r} (h : t[i]? = some 40) (hd : d < 12) (h2 : t[i + 1]? = some 41) (k : Run t true (i + 1) (d + 1) r) : Run t false i d r
  | bad {i d p} (h : t[i]? ≠ some 40) (g : Atm t i (.inl p)) : Run t false i d (some p)
  | atm {i d j v r} (h : t[i]? ≠ some 40) (g : Atm t i (.inr (j, v))) (k : Run t true j d r) : Run t false i d r
  | fin : Run t true t.length 0 none
  | more {i} (h : i ≠ t.length) : Run t true i 0 (some i)
  | cls {i d r} (h : t[i]? = some 41) (k : Run t true (i + 1) d r) : Run t true i (d + 1) r
  | nxt {i d r} (h : t[i]? = some 32) (k : Run t false (i + 1) (d + 1) r) : Run t true i (d + 1) r
  | odd {i d} (h : t[i]? ≠ some 41) (h2 : t[i]? ≠ some 32) : Run t true i (d + 1) (some i)
theorem neg_head {t u : List Nat} {i m : Nat} (g : Dg (t.drop i) m u) (hm : 0 < m) : ∃ c, t[i]? = some c ∧ 49 ≤ c ∧ c ≤ 57 := by
  obtain ⟨c, l, e, h1, h2, h3, _⟩ := numL_head m
  exact ⟨c, (head_at (r := l ++ u) (by rw [g.e, e]; rfl)).1, h3 hm, h2⟩
theorem Atm.det {t : List Nat} {i : Nat} {x y : Nat ⊕ (Nat × PyData)} (h : Atm t i x) (h' : Atm t i y) : x = y := by
  cases h with
  | tr h => cases h' with
    | tr h2 => rfl
    | fa h2 => rw [h] at h2; cases h2
    | neg h2 g2 hm2 => rw [h] at h2; cases h2
    | ngx h2 g2 => rw [h] at h2; cases h2
    | bad h2 => exact absurd rfl (h2 _ h).2.1
    | num g2 h2 hd2 => obtain ⟨c, hc, hd⟩ := isd_at hd2; rw [h] at hc; cases hc; cases hd
    | str g2 h2 hu2 hd2 => obtain ⟨c, hc, hd⟩ := isd_at hd2; rw [h] at hc; cases hc; cases hd
    | sho g2 h2 hu2 hd2 => obtain ⟨c, hc, hd⟩ := isd_at hd2; rw [h] at hc; cases hc; cases hd
  | fa h => cases h' with
    | tr h2 => rw [h] at h2; cases h2
    | fa h2 => rfl
    | neg h2 g2 hm2 => rw [h] at h2; cases h2
    | ngx h2 g2 => rw [h] at h2; cases h2
    | bad h2 => exact absurd rfl (h2 _ h).2.2.1
    | num g2 h2 hd2 => obtain ⟨c, hc, hd⟩ := isd_at hd2; rw [h] at hc; cases hc; cases hd
    | str g2 h2 hu2 hd2 => obtain ⟨c, hc, hd⟩ := isd_at hd2; rw [h] at hc; cases hc; cases hd
    | sho g2 h2 hu2 hd2 => obtain ⟨c, hc, hd⟩ := isd_at hd2; rw [h] at hc; cases hc; cases hd
  | neg h g hm => cases h' with
    | tr h2 => rw [h] at h2; cases h2
    | fa h2 => rw [h] at h2; cases h2
    | neg h2 g2 hm2 => obtain ⟨rfl, rfl⟩ := g.det g2; rfl
    | ngx h2 g2 => obtain ⟨c, hc, h3, h4⟩ := neg_head g hm; exact absurd ⟨h3, h4⟩ (g2 c hc)
    | bad h2 => exact absurd rfl (h2 _ h).2.2.2
    | num g2 h2 hd2 => obtain ⟨c, hc, hd⟩ := isd_at hd2; rw [h] at hc; cases hc; cases hd
    | str g2 h2 hu2 hd2 => obtain ⟨c, hc, hd⟩ := isd_at hd2; rw [h] at hc; cases hc; cases hd
    | sho g2 h2 hu2 hd2 => obtain ⟨c, hc, hd⟩ := isd_at hd2; rw [h] at hc; cases hc; cases hd
  | ngx h g => cases h' with
    | tr h2 => rw [h] at h2; cases h2
    | fa h2 => rw [h] at h2; cases h2
    | neg h2 g2 hm2 => obtain ⟨c, hc, h3, h4⟩ := neg_head g2 hm2; exact absurd ⟨h3, h4⟩ (g c hc)
    | ngx h2 g2 => rfl
    | bad h2 => exact absurd rfl (h2 _ h).2.2.2
    | num g2 h2 hd2 => obtain ⟨c, hc, hd⟩ := isd_at hd2; rw [h] at hc; cases hc; cases hd
    | str g2 h2 hu2 hd2 => obtain ⟨c, hc, hd⟩ := isd_at hd2; rw [h] at hc; cases hc; cases hd
    | sho g2 h2 hu2 hd2 => obtain ⟨c, hc, hd⟩ := isd_at hd2; rw [h] at hc; cases hc; cases hd
  | bad h => cases h' with
    | tr h2 => exact absurd rfl (h _ h2).2.1
    | fa h2 => exact absurd rfl (h _ h2).2.2.1
    | neg h2 g2 hm2 => exact absurd rfl (h _ h2).2.2.2
    | ngx h2 g2 => exact absurd rfl (h _ h2).2.2.2
    | bad h2 => rfl
    | num g2 h2 hd2 => obtain ⟨c, hc, hd⟩ := isd_at hd2; rw [(h c hc).1] at hd; cases hd
    | str g2 h2 hu2 hd2 => obtain ⟨c, hc, hd⟩ := isd_at hd2; rw [(h c hc).1] at hd; cases hd
    | sho g2 h2 hu2 hd2 => obtain ⟨c, hc, hd⟩ := isd_at hd2; rw [(h c hc).1] at hd; cases hd
  | num g h hd => 
    obtain ⟨c, hc, hd'⟩ := isd_at hd
    cases h' with
    | tr h2 => rw [hc] at h2; cases h2; cases hd'
    | fa h2 => rw [hc] at h2; cases h2; cases hd'
    | neg h2 g2 hm2 => rw [hc] at h2; cases h2; cases hd'
    | ngx h2 g2 => rw [hc] at h2; cases h2; cases hd'
    | bad h2 => rw [(h2 c hc).1] at hd'; cases hd'
    | num g2 h2 hd2 => obtain ⟨rfl, rfl⟩ := g.det g2; rfl
    | str g2 h2 hu2 hd2 => obtain ⟨rfl, rfl⟩ := g.det g2; rcases h with q | q; omega; exact absurd rfl q
    | sho g2 h2 hu2 hd2 => obtain ⟨rfl, rfl⟩ := g.det g2; rcases h with q | q; omega; exact absurd rfl q
  | str g h hu hd => 
    obtain ⟨c, hc, hd'⟩ := isd_at hd
    cases h' with
    | tr h2 => rw [hc] at h2; cases h2; cases hd'
    | fa h2 => rw [hc] at h2; cases h2; cases hd'
    | neg h2 g2 hm2 => rw [hc] at h2; cases h2; cases hd'
    | ngx h2 g2 => rw [hc] at h2; cases h2; cases hd'
    | bad h2 => rw [(h2 c hc).1] at hd'; cases hd'
    | num g2 h2 hd2 => obtain ⟨rfl, rfl⟩ := g.det g2; rcases h2 with q | q; omega; exact absurd rfl q
    | str g2 h2 hu2 hd2 => obtain ⟨rfl, e⟩ := g.det g2; cases e; rfl
    | sho g2 h2 hu2 hd2 => obtain ⟨rfl, e⟩ := g.det g2; cases e; omega
  | sho g h hu hd => 
    obtain ⟨c, hc, hd'⟩ := isd_at hd
    cases h' with
    | tr h2 => rw [hc] at h2; cases h2; cases hd'
    | fa h2 => rw [hc] at h2; cases h2; cases hd'
    | neg h2 g2 hm2 => rw [hc] at h2; cases h2; cases hd'
    | ngx h2 g2 => rw [hc] at h2; cases h2; cases hd'
    | bad h2 => rw [(h2 c hc).1] at hd'; cases hd'
    | num g2 h2 hd2 => obtain ⟨rfl, rfl⟩ := g.det g2; rcases h2 with q | q; omega; exact absurd rfl q
    | str g2 h2 hu2 hd2 => obtain ⟨rfl, e⟩ := g.det g2; cases e; omega
    | sho g2 h2 hu2 hd2 => rfl
theorem Run.det {t : List Nat} {b : Bool} {i d : Nat} {x : Option Nat} (h : Run t b i d x) : ∀ {y : Option Nat}, Run t b i d y → x = y := by
  induction h with
  | deep h => intro y h'; cases h' with
    | deep => rfl
    | opn h2 hd => omega
    | opc h2 hd => omega
    | bad h2 => exact absurd h h2
    | atm h2 => exact absurd h h2
  | opn h hd h2 k ih => intro y h'; cases h' with
    | deep => omega
    | opn _ _ _ k' => exact ih k'
    | opc _ _ h3 => exact absurd h3 h2
    | bad h3 => exact absurd h h3
    | atm h3 => exact absurd h h3
  | opc h hd h2 k ih => intro y h'; cases h' with
    | deep => omega
    | opn _ _ h3 => exact absurd h2 h3
    | opc _ _ _ k' => exact ih k'
    | bad h3 => exact absurd h h3
    | atm h3 => exact absurd h h3
  | bad h g => intro y h'; cases h' with
    | deep h2 => exact absurd h2 h
    | opn h2 => exact absurd h2 h
    | opc h2 => exact absurd h2 h
    | bad _ g2 => cases g.det g2; rfl
    | atm _ g2 => cases g.det g2
  | atm h g k ih => intro y h'; cases h' with
    | deep h2 => exact absurd h2 h
    | opn h2 => exact absurd h2 h
    | opc h2 => exact absurd h2 h
    | bad _ g2 => cases g.det g2
    | atm _ g2 k' => cases g.det g2; exact ih k'
  | fin => intro y h'; cases h' with
    | fin => rfl
    | more h => exact absurd rfl h
  | more h => intro y h'; cases h' with
    | fin => exact absurd rfl h
    | more => rfl
  | cls h k ih => intro y h'; cases h' with
    | cls _ k' => exact ih k'
    | nxt h2 => rw [h] at h2; cases h2
    | odd h2 => exact absurd h h2
  | nxt h k ih => intro y h'; cases h' with
    | cls h2 => rw [h] at h2; cases h2
    | nxt _ k' => exact ih k'
    | odd _ h2 => exact absurd h h2
  | odd h h2 => intro y h'; cases h' with
    | cls h3 => exact absurd h3 h
    | nxt h3 => exact absurd h3 h2
    | odd => rfl
mutual
/-- good data: as gd, tuples of any length -/
def gw : PyData → Bool
  | .bool _ => true
  | .int i => decide (i.natAbs < 10 ^ 60)
  | .str s => gs s.cps.toList
  | .tuple ds => gws ds
  | _ => false
def gws : List PyData → Bool
  | [] => true
  | d :: ds => gw d && gws ds
end
theorem gws_mem : ∀ {ds : List PyData}, gws ds = true ↔ ∀ d ∈ ds, gw d = true
  | [] => by simp [gws]
  | d :: ds => by simp only [gws, Bool.and_eq_true, List.mem_cons, forall_eq_or_imp, gws_mem (ds := ds)]
mutual
theorem gw_nl : ∀ {d : PyData}, gw d = true → nl d = true
  | .bool _, _ => rfl
  | .int _, _ => rfl
  | .str _, _ => rfl
  | .tuple ds, h => by simp only [gw] at h; simp only [nl]; exact gws_nl h
  | .none, h => by simp [gw] at h
  | .list _, h => by simp [gw] at h
  | .dict _, h => by simp [gw] at h
theorem gws_nl : ∀ {ds : List PyData}, gws ds = true → nlAll ds = true
  | [], _ => rfl
  | d :: ds, h => by simp only [gws, Bool.and_eq_true] at h; simp only [nlAll, Bool.and_eq_true]; exact ⟨gw_nl h.1, gws_nl h.2⟩
end
mutual
theorem gd_gw : ∀ {d : PyData}, gd d = true → gw d = true
  | .bool _, _ => rfl
  | .int _, h => h
  | .str _, h => h
  | .tuple ds, h => by simp only [gd, Bool.and_eq_true] at h; simp only [gw]; exact gds_gws h.2
  | .none, h => by simp [gd] at h
  | .list _, h => by simp [gd] at h
  | .dict _, h => by simp [gd] at h
theorem gds_gws : ∀ {ds : List PyData}, gds ds = true → gws ds = true
  | [], _ => rfl
  | d :: ds, h => by simp only [gds, Bool.and_eq_true] at h; simp only [gws, Bool.and_eq_true]; exact ⟨gd_gw h.1, gds_gws h.2⟩
end
theorem GT.drop {t : List Nat} (h : GT t) (i : Nat) : GT (t.drop i) := fun c hc => h c (List.mem_of_mem_drop hc)
theorem GT.take {t : List Nat} (h : GT t) (i : Nat) : GT (t.take i) := fun c hc => h c (List.mem_of_mem_take hc)
theorem GT.app {a b : List Nat} (h : GT a) (h2 : GT b) : GT (a ++ b) := fun c hc => (List.mem_append.mp hc).elim (h c) (h2 c)
theorem GT.gs {l : List Nat} (h : GT l) (hl : l.length ≤ 1000) : gs l = true := by
  unfold Ez.gs
  rw [Bool.and_eq_true]
  refine ⟨decide_eq_true hl, List.all_eq_true.mpr fun c hc => ?_⟩
  obtain ⟨h1, h2, h3⟩ := h c hc
  simp [h1, h2, h3]
theorem Atm.red {t : List Nat} {i j : Nat} {v : PyData} (hg : GT t) (h : Atm t i (.inr (j, v))) : t.drop i = wr v ++ t.drop j ∧ (i < j ∧ j ≤ t.length) ∧ gw v = true ∧ PyData.depth v = 0 := by
  generalize e : (Sum.inr (j, v) : Nat ⊕ (Nat × PyData)) = x at h
  cases h with
  | tr h =>
    cases e
    obtain ⟨hi, he⟩ := List.getElem?_eq_some_iff.mp h
    exact ⟨by rw [List.drop_eq_getElem_cons hi, he]; rfl, ⟨by omega, by omega⟩, rfl, rfl⟩
  | fa h =>
    cases e
    obtain ⟨hi, he⟩ := List.getElem?_eq_some_iff.mp h
    exact ⟨by rw [List.drop_eq_getElem_cons hi, he]; rfl, ⟨by omega, by omega⟩, rfl, rfl⟩
  | @neg m u h g hm =>
    cases e
    obtain ⟨hi, he⟩ := List.getElem?_eq_some_iff.mp h
    have h1 := drop_app g.e
    have h2 := drop_bd g.e (TL.numL_ne m)
    refine ⟨?_, ⟨by omega, h2⟩, ?_, rfl⟩
    · rw [List.drop_eq_getElem_cons hi, he, wr_neg hm, g.e, h1]; rfl
    · have := g.lt
      simp only [gw]
      exact decide_eq_true (by omega)
  | ngx h g => cases e
  | bad h => cases e
  | @num m u g h hd =>
    cases e
    have h1 := drop_app g.e
    have h2 := drop_bd g.e (TL.numL_ne m)
    have h3 : 0 < (TL.numL m).length := List.length_pos_iff.mpr (TL.numL_ne m)
    refine ⟨by rw [h1, wr_nat]; exact g.e, ⟨by omega, h2⟩, ?_, rfl⟩
    have := g.lt
    simp only [gw]
    exact decide_eq_true (by omega)
  | @str m u g h hu hd =>
    cases e
    have e1 : t.drop i = (TL.numL m ++ 58 :: u.take m) ++ u.drop m := by rw [g.e, List.append_assoc, List.cons_append, List.take_append_drop]
    have h1 := drop_app e1
    have h2 := drop_bd e1 (by simp)
    have hlu : (u.take m).length = m := by rw [List.length_take]; omega
    have hl : (TL.numL m ++ 58 :: u.take m).length = (TL.numL m).length + 1 + m := by rw [List.length_append, List.length_cons, hlu]; omega
    rw [hl, show i + ((TL.numL m).length + 1 + m) = i + (TL.numL m).length + 1 + m by omega] at h1 h2
    have ew : wr (.str (Rd.S (u.take m))) = TL.numL m ++ 58 :: u.take m := by
      simp only [wr, Rd.S_tl, hlu]
    refine ⟨by rw [ew, h1]; exact e1, ⟨by omega, h2⟩, ?_, rfl⟩
    have hgu : GT (u.take m) := GT.take (fun c hc => (hg.drop i) c (by rw [g.e]; simp [hc])) m
    show gs ((Rd.S (u.take m)).cps.toList) = true
    rw [Rd.S_tl]
    exact hgu.gs (by omega)
  | sho g h hu hd => cases e
theorem tlw_app (e : PyData) : ∀ es : List PyData, tlw (es ++ [e]) = tlw es ++ 32 :: wr e
  | [] => by simp [tlw]
  | d :: es => by simp only [List.cons_append, tlw, tlw_app e es, List.append_assoc]
theorem wr_tup2 (d : PyData) (ds : List PyData) : wr (.tuple (d :: ds)) = 40 :: (wr d ++ tlw ds ++ [41]) := by
  simp only [wr]
  rw [wr_tup]
/-- the value d was read from i to j -/
structure Red (t : List Nat) (i dp j : Nat) (d : PyData) : Prop where
  e : t.drop i = wr d ++ t.drop j
  l : i < j ∧ j ≤ t.length
  g : gw d = true
  p : PyData.depth d + dp ≤ 12
  r : ∀ r, Run t true j dp r → Run t false i dp r
/-- the way out by an error at the place p, the scanner somewhere -/
def ErrA (K : PySem.W.Frag) (s dx : Addr) (t : List Nat) (p : Nat) (H : Hp) (E : XK) : Prop := ∀ d H', (∀ a o, a ≠ s → H a = some o → H' a = some o) → H d = none → H' d = some (.xd [("what", .int (p : Int))]) → E (.ref (He.ga K "BadNotation")) (some d) H'
theorem ErrA.adv {K : PySem.W.Frag} {s dx : Addr} {t : List Nat} {p j : Nat} {H H1 : Hp} {E : XK} (k : ErrA K s dx t p H E) (a : Adv K s dx t j H H1) : ErrA K s dx t p H1 E :=
  fun d H' hk hd hx => k d H' (fun x o hx' e => hk x o hx' (a.keep x o hx' e)) (a.free hd) hx
theorem ErrA.w {K : PySem.W.Frag} {s dx : Addr} {t : List Nat} {p j : Nat} {H H1 : Hp} {E : XK} (k : ErrA K s dx t p H E) (a : Adv K s dx t j H H1) : Fa.ErrW K "BadNotation" (.int (p : Int)) H1 E :=
  fun d H' hs hd hx => k d H' (fun x o hx' e => hs x o (a.keep x o hx' e)) (a.free hd) hx
theorem take1 {t r : List Nat} {i c : Nat} (h : t.drop i = r) : List.take 1 r = [c] ↔ t[i]? = some c := by
  cases r with
  | nil =>
    have hl : t.length ≤ i := by
      have e := congrArg List.length h
      rw [List.length_drop] at e
      simp at e; omega
    rw [List.getElem?_eq_none hl]
    simp
  | cons a r =>
    rw [(head_at h).1]
    simp
theorem drop1 {t : List Nat} {i c : Nat} (h : t[i]? = some c) : t.drop i = c :: t.drop (i + 1) := by
  obtain ⟨hi, he⟩ := List.getElem?_eq_some_iff.mp h
  rw [List.drop_eq_getElem_cons hi, he]
theorem lt_of_at {t : List Nat} {i c : Nat} (h : t[i]? = some c) : i < t.length := (List.getElem?_eq_some_iff.mp h).1
theorem Red.atom {t : List Nat} {i dp j : Nat} {v : PyData} (hg : GT t) (h : t[i]? ≠ some 40) (hd : dp ≤ 12) (a : Atm t i (.inr (j, v))) : Red t i dp j v := by
  obtain ⟨e, l, g, p⟩ := a.red hg
  exact ⟨e, l, g, by omega, fun r k => .atm h a k⟩
theorem Red.unit {t : List Nat} {i dp : Nat} (h : t[i]? = some 40) (h2 : t[i + 1]? = some 41) (hd : dp < 12) : Red t i dp (i + 1 + 1) (.tuple []) := by
  have := lt_of_at h2
  refine ⟨by rw [drop1 h, drop1 h2]; rfl, ⟨by omega, by omega⟩, rfl, ?_, fun r k => .opc h hd h2 (.cls h2 k)⟩
  have e : PyData.depth (.tuple []) = 1 := rfl
  omega
/-- a tuple that is open: its first items are read -/
structure Opn (t : List Nat) (i dp q : Nat) (d : PyData) (es : List PyData) : Prop where
  e : t.drop (i + 1) = wr d ++ (tlw es ++ t.drop q)
  l : i + 1 < q ∧ q ≤ t.length
  g : gws (d :: es) = true
  p : PyData.depthAll (d :: es) + (dp + 1) ≤ 12
  r : ∀ r, Run t true q (dp + 1) r → Run t false i dp r
theorem Opn.one {t : List Nat} {i dp j : Nat} {d : PyData} (h : t[i]? = some 40) (h2 : t[i + 1]? ≠ some 41) (hd : dp < 12) (a : Red t (i + 1) (dp + 1) j d) : Opn t i dp j d [] := by
  refine ⟨by rw [a.e]; rfl, a.l, by simp only [gws, a.g]; rfl, ?_, fun r k => .opn h hd h2 (a.r r k)⟩
  have := a.p
  simp only [PyData.depthAll]
  omega
theorem depthAll_app (e : PyData) : ∀ ds : List PyData, PyData.depthAll (ds ++ [e]) = max (PyData.depthAll ds) (PyData.depth e)
  | [] => by simp [PyData.depthAll]
  | d :: ds => by simp only [List.cons_append, PyData.depthAll, depthAll_app e ds]; omega
theorem Opn.more {t : List Nat} {i dp q j : Nat} {d e : PyData} {es : List PyData} (o : Opn t i dp q d es) (h : t[q]? = some 32) (a : Red t (q + 1) (dp + 1) j e) : Opn t i dp j d (es ++ [e]) := by
  refine ⟨?_, ⟨by have := o.l; have := a.l; omega, a.l.2⟩, ?_, ?_, fun r k => o.r r (.nxt h (a.r r k))⟩
  · rw [o.e, drop1 h, a.e, tlw_app]
    simp only [List.append_assoc, List.cons_append]
  · refine gws_mem.mpr fun x hx => ?_
    rcases List.mem_append.mp (show x ∈ (d :: es) ++ [e] from hx) with q | q
    · exact gws_mem.mp o.g x q
    · rw [List.mem_singleton.mp q]; exact a.g
  · have h1 := o.p
    have h2 := a.p
    have := depthAll_app e (d :: es)
    rw [List.cons_append] at this
    rw [this]; omega
theorem Opn.close {t : List Nat} {i dp q : Nat} {d : PyData} {es : List PyData} (o : Opn t i dp q d es) (h0 : t[i]? = some 40) (h : t[q]? = some 41) : Red t i dp (q + 1) (.tuple (d :: es)) := by
  have hq := lt_of_at h
  refine ⟨?_, ⟨by have := o.l; omega, by omega⟩, by simp only [gw]; exact o.g, ?_, fun r k => o.r r (.cls h k)⟩
  · rw [drop1 h0, o.e, wr_tup2, drop1 h]
    simp only [List.append_assoc, List.cons_append, List.nil_append]
  · have h1 := o.p
    simp only [PyData.depth]
    omega
theorem nd_tw (r : List Nat) : nd r ≤ tw r := by
  cases r with
  | nil => simp [nd, tw]
  | cons c r =>
    by_cases h : c = 48
    · subst h
      have e : nd (48 :: r) = 1 := by simp [nd]
      have e2 : tw (48 :: r) = tw r + 1 := by simp [tw, dig]
      omega
    · have e : nd (c :: r) = min 60 (tw (c :: r)) := by unfold nd; rw [if_neg (by simpa using h)]; rfl
      omega
theorem nd_end {r : List Nat} {k : Nat} (h : k ≤ nd r) (h2 : isd (r.drop k) = false ∨ (k = 1 ∧ r.head? = some 48)) : k = nd r := by
  have h3 := nd_tw r
  rcases h2 with q | ⟨rfl, q⟩
  · rw [tw_drop r k (by omega)] at q
    have := of_decide_eq_false q
    omega
  · have e : nd r = 1 := by unfold nd; rw [if_pos q]
    omega
theorem nd_next {r : List Nat} {k : Nat} (h : k ≤ nd r) (hk : k < 60) (h2 : isd (r.drop k) = true) (h3 : ¬ (k = 1 ∧ r.head? = some 48)) : k + 1 ≤ nd r := by
  have h4 := nd_tw r
  rw [tw_drop r k (by omega)] at h2
  have h5 := of_decide_eq_true h2
  by_cases q : r.head? = some 48
  · have e : nd r = 1 := by unfold nd; rw [if_pos q]
    have : k ≠ 1 := fun z => h3 ⟨z, q⟩
    omega
  · have e : nd r = min 60 (tw r) := by unfold nd; rw [if_neg q]; rfl
    omega
theorem nd_isd {r : List Nat} (h : 0 < nd r) : isd r = true := by
  have h2 := nd_tw r
  have := tw_drop r 0 (Nat.zero_le _)
  rw [List.drop_zero] at this
  rw [this]
  exact decide_eq_true (by omega)
theorem slS1 {t : List Nat} {j : Nat} {Q : VK} {H : Hp} (hl : t.length ≤ 1000000) (hj : j ≤ t.length) (k : Q (.str (Rd.S ((t.drop j).take 1))) H) : rSlS (.str (Rd.S t)) (some (j : Int)) (some ((j : Int) + 1)) H Q :=
  slS2 (a := j) (b := j + 1) rfl (by omega) hl hj (by rw [show j + 1 - j = 1 by omega]; exact k)
/-- for name in range(m), with a break -/
theorem rngB {m : Int} {tb : TS} {j : Nat} {σ : L2.St} {H : Hp} {n b c : L2.St → Hp → Prop} {r : VK} (Pv : Nat → L2.St → Hp → Prop) (Pe : L2.St → Hp → Prop) (hb : -1000000 ≤ m ∧ m ≤ 1000000) (h0 : Pv 0 σ H)
    (hs : ∀ (i : Nat) (σ' : L2.St) (H' : Hp) (N : L2.St → Hp → Prop), (∀ σ' H', Pe σ' H' → N σ' H') → (i : Int) < m → Pv i σ' H' → tb ⟨Pv (i + 1), r, N, Pv (i + 1)⟩ (σ'.set j (some (.int (i : Int)))) H')
    (he : ∀ σ' H', Pv m.toNat σ' H' → Pe σ' H') (hd : ∀ σ' H', Pe σ' H' → n σ' H') :
    ∃ q : Int, [V.int m] = [V.int q] ∧ -(2 ^ 62) ≤ q ∧ q < 2 ^ 62 ∧ Rd.ForJ (gName j) tb ⟨n, r, b, c⟩ σ (Itr 0 q.toNat) H :=
  Rd.rng1 Pv hb h0 (fun i σ' H' hi h => hs i σ' H' n hd hi h) (fun σ' H' h => hd σ' H' (he σ' H' h))
theorem dig_mem (c : Nat) : decide (c ∈ (Rd.S [48, 49, 50, 51, 52, 53, 54, 55, 56, 57]).cps.toList) = dig c := by
  rw [Rd.S_tl]
  have e : c ∈ [48, 49, 50, 51, 52, 53, 54, 55, 56, 57] ↔ 48 ≤ c ∧ c ≤ 57 := by
    simp only [List.mem_cons, List.not_mem_nil, or_false]; omega
  rw [Bool.eq_iff_iff]
  simp only [decide_eq_true_eq, dig_iff, e]
theorem ixS1 {t : List Nat} {j c : Nat} {z : Int} {Q : VK} {H : Hp} (hl : t.length ≤ 1000000) (h : t[j]? = some c) (e : z = (j : Int)) (k : Q (.str (Rd.S [c])) H) : rIxS (.str (Rd.S t)) (.int z) H Q := by
  subst e
  exact ixS2 hl (atI_nat h) k
theorem head_drop {t : List Nat} {i : Nat} : (t.drop i).head? = t[i]? := by
  rw [List.head?_drop]
theorem nd_zero {r : List Nat} (h : nd r = 0) : isd r = false := by
  cases q : isd r with
  | false => rfl
  | true => exact absurd (nd_next (r := r) (k := 0) (Nat.zero_le _) (by omega) (by simpa using q) (by omega)) (by omega)
theorem slS1' {t : List Nat} {j : Nat} {z : Int} {Q : VK} {H : Hp} (e : z = (j : Int)) (hl : t.length ≤ 1000000) (hj : j ≤ t.length) (k : Q (.str (Rd.S ((t.drop j).take 1))) H) : rSlS (.str (Rd.S t)) (some z) (some (z + 1)) H Q := by
  subst e; exact slS1 hl hj k
theorem gw_tup {ds : List PyData} (h : gw (.tuple ds) = true) (hl : (wr (.tuple ds)).length ≤ 90000) : ds.length ≤ 90000 ∧ gws ds = true := by
  refine ⟨?_, by simpa only [gw] using h⟩
  have hj := join_sum (wrl ds)
  have hwl : (wrl ds).length = ds.length := by rw [wrl_map, List.length_map]
  simp only [wr, List.length_cons, List.length_append, List.length_nil] at hl
  omega
theorem cutS_two (l : List Nat) (a b : Nat) : cutS (Rd.S l) (some (a : Int)) (some (b : Int)) = Rd.S ((l.drop a).take (b - a)) := by
  unfold cutS
  rw [Rd.S_tl, Rd.S_len, HT.sIx_nat, HT.sIx_nat]
  show Rd.S _ = Rd.S _
  congr 1
  by_cases h : a ≤ l.length
  · rw [Nat.min_eq_left h]
    by_cases h2 : b ≤ l.length
    · rw [Nat.min_eq_left h2]
    · rw [Nat.min_eq_right (by omega), List.take_of_length_le (by simp), List.take_of_length_le (by simp; omega)]
  · rw [List.drop_of_length_le (by omega), List.drop_of_length_le (by omega), List.take_nil, List.take_nil]
theorem cutS_up (l : List Nat) (b : Nat) : cutS (Rd.S l) none (some (b : Int)) = Rd.S (l.take b) := by
  unfold cutS
  rw [Rd.S_tl, Rd.S_len, HT.sIx_nat]
  show Rd.S _ = Rd.S _
  congr 1
  show List.take (min b l.length - 0) (List.drop 0 l) = _
  rw [List.drop_zero, Nat.sub_zero]
  by_cases h : b ≤ l.length
  · rw [Nat.min_eq_left h]
  · rw [Nat.min_eq_right (by omega), List.take_of_length_le (Nat.le_refl _), List.take_of_length_le (by omega)]
theorem cutS_from (l : List Nat) (a : Nat) : cutS (Rd.S l) (some (a : Int)) none = Rd.S (l.drop a) := by
  unfold cutS
  rw [Rd.S_tl, Rd.S_len, HT.sIx_nat]
  show Rd.S _ = Rd.S _
  congr 1
  show List.take (l.length - min a l.length) (List.drop (min a l.length) l) = _
  by_cases h : a ≤ l.length
  · rw [Nat.min_eq_left h, List.take_of_length_le (by simp)]
  · rw [Nat.min_eq_right (by omega), List.drop_of_length_le (by omega), List.take_nil, List.drop_of_length_le (by omega)]
theorem slTwo {l : List Nat} {a b : Nat} {x y : Int} {Q : VK} {H : Hp} (ha : x = a) (hb : y = b) (hl : l.length ≤ 1000000) (k : Q (.str (Rd.S ((l.drop a).take (b - a)))) H) : rSlS (.str (Rd.S l)) (some x) (some y) H Q := by
  subst ha hb
  exact ⟨Rd.S l, rfl, sz2 (by rw [Rd.S_len]; exact hl), by rw [cutS_two]; exact k⟩
theorem slUp {l : List Nat} {b : Nat} {y : Int} {Q : VK} {H : Hp} (hb : y = b) (hl : l.length ≤ 1000000) (k : Q (.str (Rd.S (l.take b))) H) : rSlS (.str (Rd.S l)) none (some y) H Q := by
  subst hb
  exact ⟨Rd.S l, rfl, sz2 (by rw [Rd.S_len]; exact hl), by rw [cutS_up]; exact k⟩
theorem slFrom {l : List Nat} {a : Nat} {x : Int} {Q : VK} {H : Hp} (ha : x = a) (hl : l.length ≤ 1000000) (k : Q (.str (Rd.S (l.drop a))) H) : rSlS (.str (Rd.S l)) (some x) none H Q := by
  subst ha
  exact ⟨Rd.S l, rfl, sz2 (by rw [Rd.S_len]; exact hl), by rw [cutS_from]; exact k⟩
def okc (c : Nat) : Bool := decide (32 ≤ c) && decide (c ≤ 126) && !decide (c = 37)
theorem okc_iff {c : Nat} : okc c = true ↔ 32 ≤ c ∧ c ≤ 126 ∧ c ≠ 37 := by simp [okc, and_assoc]
theorem GT.of {l : List Nat} (h : l.all okc = true) : GT l := fun c hc => okc_iff.mp (List.all_eq_true.mp h c hc)
theorem GT.rep {c : Nat} (n : Nat) (h : okc c = true) : GT (List.replicate n c) := fun x hx => by rw [(List.mem_replicate.mp hx).2]; exact okc_iff.mp h
/-- a good text as a value -/
def GV (v : V) : Prop := ∃ l, v = .str (Rd.S l) ∧ GT l ∧ l.length ≤ 1010
theorem GV.of {l : List Nat} (h : l.all okc = true) (hl : l.length ≤ 1010) : GV (.str (Rd.S l)) := ⟨l, rfl, .of h, hl⟩
theorem GV.rep {c n : Nat} (h : okc c = true) (hl : n ≤ 1010) : GV (.str (Rd.S (List.replicate n c))) := ⟨_, rfl, .rep n h, by rw [List.length_replicate]; exact hl⟩
theorem GV.pre {p : List Nat} {c n : Nat} (hp : p.all okc = true) (h : okc c = true) (hl : p.length + n ≤ 1010) : GV (.str (Rd.S (p ++ List.replicate n c))) := ⟨_, rfl, (GT.of hp).app (.rep n h), by rw [List.length_append, List.length_replicate]; exact hl⟩
theorem GV.two {c n d m : Nat} (h : okc c = true) (h2 : okc d = true) (hl : n + m ≤ 1010) : GV (.str (Rd.S (List.replicate n c ++ List.replicate m d))) := ⟨_, rfl, (GT.rep n h).app (.rep m h2), by rw [List.length_append, List.length_replicate, List.length_replicate]; exact hl⟩
theorem GV.mid {p : List Nat} {c n d m : Nat} (h : okc c = true) (hp : p.all okc = true) (h2 : okc d = true) (hl : n + p.length + m ≤ 1010) : GV (.str (Rd.S (List.replicate n c ++ p ++ List.replicate m d))) := ⟨_, rfl, ((GT.rep n h).app (.of hp)).app (.rep m h2), by rw [List.length_append, List.length_append, List.length_replicate, List.length_replicate]; exact hl⟩
theorem allV_app {P : V → Prop} {a b : List V} (h : ∀ v ∈ a, P v) (h2 : ∀ v ∈ b, P v) : ∀ v ∈ a ++ b, P v := fun v hv => (List.mem_append.mp hv).elim (h v) (h2 v)
theorem allV_nil {P : V → Prop} : ∀ v ∈ ([] : List V), P v := fun v hv => absurd hv List.not_mem_nil
theorem allV_cons {P : V → Prop} {x : V} {b : List V} (h : P x) (h2 : ∀ v ∈ b, P v) : ∀ v ∈ x :: b, P v := fun v hv => (List.mem_cons.mp hv).elim (fun e => e ▸ h) (h2 v)
theorem GT.num (m : Nat) : GT (TL.numL m) := fun c hc => by
  have := TL.numL_digits m c hc
  omega
mutual
theorem gt_wr : ∀ {d : PyData}, gw d = true → GT (wr d)
  | .bool b, _ => by cases b <;> exact GT.of (by decide)
  | .int i, _ => by
    simp only [wr, Ez.num]
    split
    · exact GT.app (a := [45]) (GT.of (by decide)) (GT.num _)
    · exact GT.num _
  | .str s, h => by
    simp only [wr]
    have hs : gs s.cps.toList = true := h
    unfold gs at hs
    rw [Bool.and_eq_true] at hs
    refine (GT.num _).app (GT.app (a := [58]) (GT.of (by decide)) (fun c hc => ?_))
    have h := List.all_eq_true.mp hs.2 c hc
    simp only [Bool.and_eq_true, decide_eq_true_eq, Bool.not_eq_true', decide_eq_false_iff_not] at h
    exact ⟨h.1.1, h.1.2, h.2⟩
  | .tuple [], _ => by
    have e : wr (.tuple []) = [40, 41] := rfl
    rw [e]; exact GT.of (by decide)
  | .tuple (d :: ds), h => by
    rw [wr_tup2]
    have h2 : gws (d :: ds) = true := by simpa only [gw] using h
    simp only [gws, Bool.and_eq_true] at h2
    exact GT.app (a := [40]) (GT.of (by decide)) (((gt_wr h2.1).app (gt_tlw h2.2)).app (GT.of (by decide)))
  | .none, h => by simp [gw] at h
  | .list _, h => by simp [gw] at h
  | .dict _, h => by simp [gw] at h
theorem gt_tlw : ∀ {ds : List PyData}, gws ds = true → GT (tlw ds)
  | [], _ => fun c hc => by simp [tlw] at hc
  | d :: ds, h => by
    simp only [gws, Bool.and_eq_true] at h
    simp only [tlw]
    exact GT.app (a := [32]) (GT.of (by decide)) ((gt_wr h.1).app (gt_tlw h.2))
end
theorem tw_num (m : Nat) {u : List Nat} (hu : isd u = false) : tw (TL.numL m ++ u) = (TL.numL m).length := by
  have hd : ∀ l : List Nat, (∀ c ∈ l, dig c = true) → tw (l ++ u) = l.length := by
    intro l
    induction l with
    | nil =>
      intro _
      cases u with
      | nil => rfl
      | cons a u =>
        have : dig a = false := hu
        simp [tw, this]
    | cons c l ih =>
      intro h
      have h1 := h c (by simp)
      have h2 := ih fun x hx => h x (by simp [hx])
      have e : tw (c :: l ++ u) = tw (l ++ u) + 1 := by simp [tw, h1]
      rw [e, h2]; rfl
  exact hd _ fun c hc => dig_iff.mpr (by have := TL.numL_digits m c hc; omega)
theorem nd_num {m : Nat} (hm : m < 10 ^ 60) {u : List Nat} (hu : isd u = false) : nd (TL.numL m ++ u) = (TL.numL m).length := by
  have ht := tw_num m hu
  obtain ⟨c, r, e, h1, h2, h3, h4⟩ := numL_head m
  by_cases h : c = 48
  · have e2 : TL.numL m = [48] := by rw [e, h4 h, h]
    rw [e2]; simp [nd]
  · have e2 : nd (TL.numL m ++ u) = min 60 (tw (TL.numL m ++ u)) := by
      unfold nd
      rw [if_neg (by rw [e]; simpa using h)]
      rfl
    have := TL.numL_len (n := m) (k := 60) (by decide) hm
    rw [e2, ht]; omega
/-- the text that is read afterwards -/
def good (l : List Nat) : List Nat := 40 :: (TL.numL l.length ++ 58 :: (l ++ [32, 53, 41]))
theorem good_len (l : List Nat) : (good l).length = (TL.numL l.length).length + l.length + 5 := by
  simp only [good, List.length_cons, List.length_append, List.length_nil]; omega
theorem good_run {l : List Nat} (hl : l.length ≤ 1000) : Run (good l) false 0 0 none := by
  have hm : l.length < 10 ^ 60 := Nat.lt_of_le_of_lt hl (by decide)
  have e1 : (good l).drop 1 = TL.numL l.length ++ 58 :: (l ++ [32, 53, 41]) := rfl
  have D : Dg ((good l).drop 1) l.length (58 :: (l ++ [32, 53, 41])) := ⟨e1, by rw [e1, nd_num hm rfl]⟩
  obtain ⟨c, r, e, h1, h2, _⟩ := numL_head l.length
  have hc : (good l)[1]? = some c := (head_at (r := r ++ 58 :: (l ++ [32, 53, 41])) (by rw [e1, e]; rfl)).1
  have e2 : (good l).drop 1 = (TL.numL l.length ++ 58 :: l) ++ [32, 53, 41] := by rw [e1, List.append_assoc, List.cons_append]
  have e3 := drop_app e2
  have hlen : (TL.numL l.length ++ 58 :: l).length = (TL.numL l.length).length + 1 + l.length := by rw [List.length_append, List.length_cons]; omega
  rw [hlen] at e3
  obtain ⟨a1, a2, a3⟩ := head_at e3
  obtain ⟨b1, b2, b3⟩ := head_at a3
  obtain ⟨c1, c2, c3⟩ := head_at b3
  have A : Atm (good l) 1 (.inr (1 + (TL.numL l.length).length + 1 + l.length, .str (Rd.S ((l ++ [32, 53, 41]).take l.length)))) := .str D hl (by simp) (isd_of hc (dig_iff.mpr ⟨h1, h2⟩))
  rw [show 1 + (TL.numL l.length).length + 1 + l.length = 1 + ((TL.numL l.length).length + 1 + l.length) by omega] at A
  have D5 : Dg ((good l).drop (1 + ((TL.numL l.length).length + 1 + l.length) + 1)) 5 [41] := by rw [a3]; exact ⟨rfl, rfl⟩
  have A5 : Atm (good l) (1 + ((TL.numL l.length).length + 1 + l.length) + 1) (.inr (1 + ((TL.numL l.length).length + 1 + l.length) + 1 + 1, .int 5)) := .num D5 (.inr (by decide)) (isd_of b1 rfl)
  refine .opn rfl (by decide) (by rw [hc]; intro q; cases q; omega) (.atm (by rw [hc]; intro q; cases q; omega) A (.nxt a1 (.atm (by rw [b1]; decide) A5 (.cls c1 ?_))))
  have hL := good_len l
  have el : 1 + ((TL.numL l.length).length + 1 + l.length) + 1 + 1 + 1 = (good l).length := by omega
  rw [el]
  exact .fin
theorem good_gt {l : List Nat} (h : GT l) : GT (good l) := GT.app (a := [40]) (GT.of (by decide)) ((GT.num _).app (GT.app (a := [58]) (GT.of (by decide)) (h.app (GT.of (by decide)))))
theorem wr_brk {d : PyData} (h : gw d = true) {r : List Nat} (e : wr d = 40 :: r) : ∃ ds, d = .tuple ds := by
  cases d with
  | bool b => cases b <;> simp [wr] at e
  | int i =>
    simp only [wr, Ez.num] at e
    split at e
    · cases e
    · obtain ⟨c, l, e2, h1, h2, _⟩ := numL_head i.natAbs
      rw [e2] at e; cases e; omega
  | str z =>
    obtain ⟨c, l, e2, h1, h2, _⟩ := numL_head z.cps.toList.length
    simp only [wr, e2, List.cons_append] at e
    cases e; omega
  | tuple ds => exact ⟨ds, rfl⟩
  | none => simp [gw] at h
  | list _ => simp [gw] at h
  | dict _ => simp [gw] at h
end Nt

set_option Elab.async false
set_option linter.all false
set_option maxRecDepth 100000
set_option maxHeartbeats 4000000
namespace NK73
open PySem PySem.Spec PyProof.Rows L2
def top (i : Nat) : Stmt := PySem.Challenge.pw_keptcoin_k73_strict_reading.main.body.getD i (.Pass ⟨0, 0, 0, 0⟩)
abbrev FnP (K : PySem.W.Frag) (x : Str) (st : Stmt) (f : Addr) (fd : FuncData) : Prop := FunD K x x (defArgs st) (defBody st) (defScope st) [] [] f fd
/-- a def that keeps its promise, where the module finds it -/
structure Cal (P : Program) (w : World) (K : PySem.W.Frag) (mg : Str → Option Value) (base : Heap) (x : Str) (k : Nat) (ps : List Str) (sp : Sp) : Prop where
  ex : ∃ f fd, mg x = some (.ref f) ∧ PySem.W.keepIn K (.ref f) = true ∧ Binds K fd ps [] ∧ FnOk P w K mg base CX0 k f fd ps sp
structure CalX (P : Program) (w : World) (K : PySem.W.Frag) (mg : Str → Option Value) (base : Heap) (x : Str) (k : Nat) (ps : List Str) (sp : Sp) : Prop where
  ex : ∃ f fd, mg x = some (.ref f) ∧ PySem.W.keepIn K (.ref f) = true ∧ Binds K fd ps [] ∧ FnOk P w K mg base (L2.CX P w) k f fd ps sp
structure CalM (P : Program) (w : World) (K : PySem.W.Frag) (mg : Str → Option Value) (base : Heap) (fa : Addr) (k : Nat) (ps : List Str) (dvs : List V) (sp : Sp) : Prop where
  ex : ∃ fd, Binds K fd ps [] ∧ FnOk P w K mg base CX0 k fa fd ps sp ∧ ∃ ds, Vals dvs ds ∧ Binds K fd ps ds
structure CalMX (P : Program) (w : World) (K : PySem.W.Frag) (mg : Str → Option Value) (base : Heap) (fa : Addr) (k : Nat) (ps : List Str) (dvs : List V) (sp : Sp) : Prop where
  ex : ∃ fd, Binds K fd ps [] ∧ FnOk P w K mg base (L2.CX P w) k fa fd ps sp ∧ ∃ ds, Vals dvs ds ∧ Binds K fd ps ds
abbrev s_KeptError___init : Stmt := inClass (top 1) 0
abbrev N_KeptError___init : List Str := ["self", "what"]
theorem sc_KeptError___init : FnScope N_KeptError___init ["self", "what"] (defScope s_KeptError___init) := ⟨rfl, rfl, rfl, by decide +kernel, rfl, by decide +kernel, by decide +kernel⟩
abbrev s_Scanner___init : Stmt := inClass (top 11) 0
abbrev N_Scanner___init : List Str := ["self", "text"]
theorem sc_Scanner___init : FnScope N_Scanner___init ["self", "text"] (defScope s_Scanner___init) := ⟨rfl, rfl, rfl, by decide +kernel, rfl, by decide +kernel, by decide +kernel⟩
abbrev s_Scanner_char : Stmt := inClass (top 11) 1
abbrev N_Scanner_char : List Str := ["self"]
theorem sc_Scanner_char : FnScope N_Scanner_char ["self"] (defScope s_Scanner_char) := ⟨rfl, rfl, rfl, by decide +kernel, rfl, by decide +kernel, by decide +kernel⟩
abbrev s_Scanner_skip : Stmt := inClass (top 11) 2
abbrev N_Scanner_skip : List Str := ["self", "char"]
theorem sc_Scanner_skip : FnScope N_Scanner_skip ["self", "char"] (defScope s_Scanner_skip) := ⟨rfl, rfl, rfl, by decide +kernel, rfl, by decide +kernel, by decide +kernel⟩
abbrev s_Scanner_require : Stmt := inClass (top 11) 3
abbrev N_Scanner_require : List Str := ["self", "good"]
theorem sc_Scanner_require : FnScope N_Scanner_require ["self", "good"] (defScope s_Scanner_require) := ⟨rfl, rfl, rfl, by decide +kernel, rfl, by decide +kernel, by decide +kernel⟩
abbrev s_read : Stmt := top 12
abbrev N_read : List Str := ["text", "scanner", "value"]
theorem sc_read : FnScope N_read ["text"] (defScope s_read) := ⟨rfl, rfl, rfl, by decide +kernel, rfl, by decide +kernel, by decide +kernel⟩
abbrev s_value : Stmt := top 13
abbrev N_value : List Str := ["scanner", "deep", "char", "number"]
theorem sc_value : FnScope N_value ["scanner", "deep"] (defScope s_value) := ⟨rfl, rfl, rfl, by decide +kernel, rfl, by decide +kernel, by decide +kernel⟩
abbrev s_is_digit : Stmt := top 14
abbrev N_is_digit : List Str := ["char"]
theorem sc_is_digit : FnScope N_is_digit ["char"] (defScope s_is_digit) := ⟨rfl, rfl, rfl, by decide +kernel, rfl, by decide +kernel, by decide +kernel⟩
abbrev s_digits : Stmt := top 15
abbrev N_digits : List Str := ["scanner", "start", "most"]
theorem sc_digits : FnScope N_digits ["scanner"] (defScope s_digits) := ⟨rfl, rfl, rfl, by decide +kernel, rfl, by decide +kernel, by decide +kernel⟩
abbrev s_string : Stmt := top 16
abbrev N_string : List Str := ["scanner", "length", "string", "char"]
theorem sc_string : FnScope N_string ["scanner", "length"] (defScope s_string) := ⟨rfl, rfl, rfl, by decide +kernel, rfl, by decide +kernel, by decide +kernel⟩
abbrev s_tuple : Stmt := top 17
abbrev N_tuple : List Str := ["scanner", "deep", "items"]
theorem sc_tuple : FnScope N_tuple ["scanner", "deep"] (defScope s_tuple) := ⟨rfl, rfl, rfl, by decide +kernel, rfl, by decide +kernel, by decide +kernel⟩
abbrev s_law_cell : Stmt := top 19
abbrev N_law_cell : List Str := ["script", "k"]
theorem sc_law_cell : FnScope N_law_cell ["script", "k"] (defScope s_law_cell) := ⟨rfl, rfl, rfl, by decide +kernel, rfl, by decide +kernel, by decide +kernel⟩
abbrev s_law_numbers : Stmt := top 20
abbrev N_law_numbers : List Str := ["cell", "many", "size", "rest", "numbers", "k", "mixed"]
theorem sc_law_numbers : FnScope N_law_numbers ["cell", "many"] (defScope s_law_numbers) := ⟨rfl, rfl, rfl, by decide +kernel, rfl, by decide +kernel, by decide +kernel⟩
abbrev s_law_tape : Stmt := top 21
abbrev N_law_tape : List Str := ["script", "first", "others", "numbers", "cell"]
theorem sc_law_tape : FnScope N_law_tape ["script", "first", "others"] (defScope s_law_tape) := ⟨rfl, rfl, rfl, by decide +kernel, rfl, by decide +kernel, by decide +kernel⟩
abbrev s_law_char : Stmt := top 22
abbrev N_law_char : List Str := ["number", "chars"]
theorem sc_law_char : FnScope N_law_char ["number"] (defScope s_law_char) := ⟨rfl, rfl, rfl, by decide +kernel, rfl, by decide +kernel, by decide +kernel⟩
abbrev s_law_text : Stmt := top 23
abbrev N_law_text : List Str := ["number", "size", "k"]
theorem sc_law_text : FnScope N_law_text ["number", "size"] (defScope s_law_text) := ⟨rfl, rfl, rfl, by decide +kernel, rfl, by decide +kernel, by decide +kernel⟩
abbrev s_law_integer : Stmt := top 24
abbrev N_law_integer : List Str := ["cell", "number", "part", "great"]
theorem sc_law_integer : FnScope N_law_integer ["cell", "number"] (defScope s_law_integer) := ⟨rfl, rfl, rfl, by decide +kernel, rfl, by decide +kernel, by decide +kernel⟩
abbrev s_law_leaf : Stmt := top 25
abbrev N_law_leaf : List Str := ["cell", "number", "part", "size"]
theorem sc_law_leaf : FnScope N_law_leaf ["cell", "number"] (defScope s_law_leaf) := ⟨rfl, rfl, rfl, by decide +kernel, rfl, by decide +kernel, by decide +kernel⟩
abbrev s_law_value : Stmt := top 26
abbrev N_law_value : List Str := ["script", "numbers", "values", "depths", "k", "number", "many", "depth", "taken"]
theorem sc_law_value : FnScope N_law_value ["script", "numbers"] (defScope s_law_value) := ⟨rfl, rfl, rfl, by decide +kernel, rfl, by decide +kernel, by decide +kernel⟩
abbrev s_law_written : Stmt := top 27
abbrev N_law_written : List Str := ["value", "item"]
theorem sc_law_written : FnScope N_law_written ["value"] (defScope s_law_written) := ⟨rfl, rfl, rfl, by decide +kernel, rfl, by decide +kernel, by decide +kernel⟩
abbrev s_law_atom_end : Stmt := top 28
abbrev N_law_atom_end : List Str := ["text", "at", "start", "end", "k"]
theorem sc_law_atom_end : FnScope N_law_atom_end ["text", "at"] (defScope s_law_atom_end) := ⟨rfl, rfl, rfl, by decide +kernel, rfl, by decide +kernel, by decide +kernel⟩
abbrev s_law_fault : Stmt := top 29
abbrev N_law_fault : List Str := ["text", "at", "depth", "turn", "opened", "k", "end"]
theorem sc_law_fault : FnScope N_law_fault ["text"] (defScope s_law_fault) := ⟨rfl, rfl, rfl, by decide +kernel, rfl, by decide +kernel, by decide +kernel⟩
abbrev s_law_odd : Stmt := top 30
abbrev N_law_odd : List Str := ["number", "odd"]
theorem sc_law_odd : FnScope N_law_odd ["number"] (defScope s_law_odd) := ⟨rfl, rfl, rfl, by decide +kernel, rfl, by decide +kernel, by decide +kernel⟩
abbrev s_law_spoilt : Stmt := top 31
abbrev N_law_spoilt : List Str := ["text", "way", "number", "sign", "place"]
theorem sc_law_spoilt : FnScope N_law_spoilt ["text", "way", "number"] (defScope s_law_spoilt) := ⟨rfl, rfl, rfl, by decide +kernel, rfl, by decide +kernel, by decide +kernel⟩
abbrev s_law_drawn_text : Stmt := top 32
abbrev N_law_drawn_text : List Str := ["script", "numbers", "text", "k", "many"]
theorem sc_law_drawn_text : FnScope N_law_drawn_text ["script", "numbers"] (defScope s_law_drawn_text) := ⟨rfl, rfl, rfl, by decide +kernel, rfl, by decide +kernel, by decide +kernel⟩
abbrev s_law_raises_base : Stmt := top 33
abbrev N_law_raises_base : List Str := ["text", "e"]
theorem sc_law_raises_base : FnScope N_law_raises_base ["text"] (defScope s_law_raises_base) := ⟨rfl, rfl, rfl, by decide +kernel, rfl, by decide +kernel, by decide +kernel⟩
abbrev s_law : Stmt := top 34
abbrev N_law : List Str := ["script", "numbers", "text", "fault", "place", "value", "raised", "e", "good", "back"]
theorem sc_law : FnScope N_law ["script"] (defScope s_law) := ⟨rfl, rfl, rfl, by decide +kernel, rfl, by decide +kernel, by decide +kernel⟩

open Dj Es Ez

open TL Bd Fa Es Dj Re Nt

def EN_ : List Str := ["KeptError", "RecordError", "BadNotation", "BadRecord", "BadLine"]
theorem glo6 {K : PySem.W.Frag} {mg : Str → Option Value} (h : mg "KeptError" = some (.ref (He.ga K "KeptError")) ∧ mg "RecordError" = some (.ref (He.ga K "RecordError")) ∧ mg "BadNotation" = some (.ref (He.ga K "BadNotation")) ∧ mg "BadRecord" = some (.ref (He.ga K "BadRecord")) ∧ mg "BadLine" = some (.ref (He.ga K "BadLine")) ∧ True) : ∀ n ∈ EN_, mg n = some (.ref (He.ga K n)) := by
  obtain ⟨h0, h1, h2, h3, h4, _⟩ := h
  intro n hn
  simp only [EN_, List.mem_cons, List.not_mem_nil, or_false] at hn
  rcases hn with rfl | rfl | rfl | rfl | rfl <;> assumption

def vErrs (K : PySem.W.Frag) : Bool := decide (PySem.W.kitOne K (.ref (He.ga K "BadNotation")) (.type "ValueError") = some true)
theorem isiV {K : PySem.W.Frag} {mg : Str → Option Value} {H : Hp} {Q : VK} (We : StErr EN_ K mg) (hv : vErrs K = true) {a d : Addr} {x : V} (hd : H d = some (.xd [("what", x)])) (k : Q (.bl true) H) : rIsG K a (.ref (He.ga K "BadNotation")) (some d) [.ref a, .ty "ValueError"] H Q :=
  ⟨_, d, rfl, rfl, (We.x "BadNotation" (by decide +kernel)).x, .ty "ValueError", .type "ValueError", _, true, rfl, .ty _, hd, of_decide_eq_true hv, k⟩

structure CF_Scanner (K : PySem.W.Frag) (mg : Str → Option Value) : Prop where
  cls : Cls K (He.ga K "Scanner")
  m : mg "Scanner" = some (.ref (He.ga K "Scanner"))
  mkr : Mk K (He.ga K "Scanner") (He.fAd K ("Scanner", some "__init__"))
  mt_char : Meth K (He.ga K "Scanner") "char" (He.fAd K ("Scanner", some "char"))
  mt_require : Meth K (He.ga K "Scanner") "require" (He.fAd K ("Scanner", some "require"))
  mt_skip : Meth K (He.ga K "Scanner") "skip" (He.fAd K ("Scanner", some "skip"))
  n_at : NoAttr K (He.ga K "Scanner") "at"
  n_text : NoAttr K (He.ga K "Scanner") "text"
def sp_KeptError___init (P : Program) (w : World) (K : PySem.W.Frag) : Sp := fun vs H Q _ => ∃ (a C : Addr) (x : V), vs = [.ref a, x] ∧ (XC K C (He.fAd K ("KeptError", some "__init__"))) ∧ (H a = some (exo a C none)) ∧ (∀ dx, H dx = none → dx ≠ a → Q .non (upd (upd H dx (exd dx [("what", x)])) a (exo a C (some dx))))
def sp_Scanner___init (P : Program) (w : World) (K : PySem.W.Frag) : Sp := fun vs H Q _ => ∃ (s dx : Addr) (t : List Nat), vs = [.ref s, .str (Rd.S t)] ∧ (H s = some (.ins (He.ga K "Scanner") dx [])) ∧ (∀ H', Beside s H H' → Sc K H' s dx t 0 → Q .non H')
def sp_Scanner_char (P : Program) (w : World) (K : PySem.W.Frag) : Sp := fun vs H Q _ => ∃ (s dx : Addr) (t : List Nat) (i : Nat) (r : List Nat), vs = [.ref s] ∧ (Sc K H s dx t i) ∧ (t.drop i = r) ∧ (t.length ≤ 1000000) ∧ (Q (.str (Rd.S (r.take 1))) H)
def sp_Scanner_skip (P : Program) (w : World) (K : PySem.W.Frag) : Sp := fun vs H Q _ => ∃ (s dx : Addr) (t : List Nat) (i : Nat) (r : List Nat) (c : Nat), vs = [.ref s, .str (Rd.S [c])] ∧ (Sc K H s dx t i) ∧ (t.drop i = r) ∧ (t.length ≤ 1000000) ∧ ((∀ H', r.take 1 = [c] → Adv K s dx t (i + 1) H H' → Q (.bl true) H') ∧ (r.take 1 ≠ [c] → Q (.bl false) H))
def sp_Scanner_require (P : Program) (w : World) (K : PySem.W.Frag) : Sp := fun vs H Q E => ∃ (s dx : Addr) (t : List Nat) (i : Nat) (b : Bool), vs = [.ref s, .bl b] ∧ (Sc K H s dx t i) ∧ (b = false → ErrW K "BadNotation" (.int (i : Int)) H E) ∧ (b = true → Q .non H)
def sp_read (P : Program) (w : World) (K : PySem.W.Frag) : Sp := fun vs H Q E => ∃ (t : List Nat), vs = [.str (Rd.S t)] ∧ (GT t) ∧ (t.length ≤ 90000) ∧ (∀ p, Run t false 0 0 (some p) → ErrW K "BadNotation" (.int (p : Int)) H E) ∧ (∀ v d H', Run t false 0 0 none → t = wr d → gw d = true → PyData.depth d ≤ 12 → Same H H' → Dp K H' v d → Q v H')
def sp_value (P : Program) (w : World) (K : PySem.W.Frag) (turns : Nat) : Sp := fun vs H Q E => ∃ (s dx : Addr) (t : List Nat) (i : Nat) (dp : Nat), vs = [.ref s, .int (dp : Int)] ∧ (Sc K H s dx t i) ∧ (GT t) ∧ (t.length ≤ 90000) ∧ (i ≤ t.length) ∧ (dp ≤ 12) ∧ (13 < turns + dp) ∧ (∀ p, Run t false i dp (some p) → ErrA K s dx t p H E) ∧ (∀ v d j H', Adv K s dx t j H H' → Dp K H' v d → Red t i dp j d → Q v H')
def sp_is_digit (P : Program) (w : World) (K : PySem.W.Frag) : Sp := fun vs H Q _ => ∃ (r : List Nat), vs = [.str (Rd.S (r.take 1))] ∧ (Q (.bl (isd r)) H)
def sp_digits (P : Program) (w : World) (K : PySem.W.Frag) : Sp := fun vs H Q _ => ∃ (s dx : Addr) (t : List Nat) (i : Nat) (r : List Nat), vs = [.ref s] ∧ (Sc K H s dx t i) ∧ (t.drop i = r) ∧ (t.length ≤ 1000000) ∧ (isd r = true) ∧ (∀ m u H', Dg r m u → Adv K s dx t (i + (TL.numL m).length) H H' → Q (.int (m : Int)) H')
def sp_string (P : Program) (w : World) (K : PySem.W.Frag) : Sp := fun vs H Q E => ∃ (s dx : Addr) (t : List Nat) (i : Nat) (m : Nat), vs = [.ref s, .int (m : Int)] ∧ (Sc K H s dx t i) ∧ (GT t) ∧ (t.length ≤ 1000000) ∧ (i ≤ t.length) ∧ (m ≤ 1000) ∧ (t.length < i + m → ErrA K s dx t t.length H E) ∧ (i + m ≤ t.length → ∀ H', Adv K s dx t (i + m) H H' → Q (.str (Rd.S ((t.drop i).take m))) H')
def sp_tuple (P : Program) (w : World) (K : PySem.W.Frag) (turns : Nat) : Sp := fun vs H Q E => ∃ (s dx : Addr) (t : List Nat) (i : Nat) (dp : Nat), vs = [.ref s, .int ((dp + 1 : Nat) : Int)] ∧ (Sc K H s dx t i) ∧ (GT t) ∧ (t.length ≤ 90000) ∧ (t[i]? = some 40) ∧ (dp < 12) ∧ (13 < turns + (dp + 1)) ∧ (∀ p, Run t false i dp (some p) → ErrA K s dx t p H E) ∧ (∀ v d j H', Adv K s dx t j H H' → Dp K H' v d → Red t i dp j d → Q v H')
def sp_law_cell (P : Program) (w : World) (K : PySem.W.Frag) : Sp := fun vs H Q _ => ∃ (a : Addr) (ns : List Int) (i : Int), vs = [.ref a, .int i] ∧ (SqL K H a (ns.map V.int)) ∧ (0 ≤ i) ∧ (∀ z ∈ ns, Builtin.Int.intBits z ≤ 1048576) ∧ (∀ z, Builtin.Int.intBits z ≤ 1048576 → Q (.int z) H)
def sp_law_numbers (P : Program) (w : World) (K : PySem.W.Frag) : Sp := fun vs H Q _ => ∃ (c m : Int), vs = [.int c, .int m] ∧ (0 ≤ m ∧ m ≤ 1000) ∧ (∀ p (nums : List Int) H', Same H H' → H p = none → H' p = some (.lst (nums.map V.int)) → nums.length = m.toNat → B3 nums → Q (.ref p) H')
def sp_law_tape (P : Program) (w : World) (K : PySem.W.Frag) : Sp := fun vs H Q _ => ∃ (a : Addr) (ns : List Int) (f o : Int), vs = [.ref a, .int f, .int o] ∧ (SqL K H a (ns.map V.int)) ∧ (ns.length ≤ 63) ∧ (∀ z ∈ ns, Builtin.Int.intBits z ≤ 1048576) ∧ (0 ≤ f ∧ f ≤ 100 ∧ 0 ≤ o ∧ o ≤ 100) ∧ (∀ p (nums : List Int) H', Same H H' → H p = none → H' p = some (.lst (nums.map V.int)) → nums.length ≤ f.toNat + 63 * o.toNat → f.toNat ≤ nums.length → B3 nums → Q (.ref p) H')
def sp_law_char (P : Program) (w : World) (K : PySem.W.Frag) : Sp := fun vs H Q _ => ∃ (i : Int), vs = [.int i] ∧ (∀ c : Nat, 32 ≤ c ∧ c ≤ 126 ∧ c ≠ 37 → Q (.str (Rd.S [c])) H)
def sp_law_text (P : Program) (w : World) (K : PySem.W.Frag) : Sp := fun vs H Q _ => ∃ (i j : Int), vs = [.int i, .int j] ∧ (0 ≤ i ∧ i < 1000) ∧ (0 ≤ j ∧ j ≤ 1000) ∧ (∀ l H', Same H H' → gs l = true → Q (.str (Rd.S l)) H')
def sp_law_integer (P : Program) (w : World) (K : PySem.W.Frag) : Sp := fun vs H Q _ => ∃ (c i : Int), vs = [.int c, .int i] ∧ (Builtin.Int.intBits c ≤ 1048576) ∧ (0 ≤ i ∧ i < 1000) ∧ (∀ z H', Same H H' → gd (.int z) = true → Q (.int z) H')
def sp_law_leaf (P : Program) (w : World) (K : PySem.W.Frag) : Sp := fun vs H Q _ => ∃ (c i : Int), vs = [.int c, .int i] ∧ (Builtin.Int.intBits c ≤ 1048576) ∧ (0 ≤ i ∧ i < 1000) ∧ (∀ v d H', Same H H' → Dp K H' v d → gd d = true → PyData.depth d = 0 → (wr d).length ≤ 1010 → Q v H')
def sp_law_value (P : Program) (w : World) (K : PySem.W.Frag) : Sp := fun vs H Q _ => ∃ (a b : Addr) (ns nums : List Int), vs = [.ref a, .ref b] ∧ (SqL K H a (ns.map V.int)) ∧ (∀ z ∈ ns, Builtin.Int.intBits z ≤ 1048576) ∧ (SqL K H b (nums.map V.int)) ∧ (B3 nums) ∧ (nums.length ≤ 70) ∧ (∀ v d H', Same H H' → Dp K H' v d → gd d = true → PyData.depth d ≤ 12 → (wr d).length ≤ 80000 → Q v H')
def sp_law_written (P : Program) (w : World) (K : PySem.W.Frag) (turns : Nat) : Sp := fun vs H Q _ => ∃ (v : V) (d : PyData), vs = [v] ∧ (Dp K H v d) ∧ (gw d = true) ∧ ((wr d).length ≤ 90000) ∧ (PyData.depth d < turns) ∧ (∀ H', Same H H' → Q (.str (Rd.S (wr d))) H')
def sp_law_atom_end (P : Program) (w : World) (K : PySem.W.Frag) : Sp := fun vs H Q _ => ∃ (t : List Nat) (i : Nat), vs = [.str (Rd.S t), .int (i : Int)] ∧ (t.length ≤ 90000) ∧ (i ≤ t.length) ∧ (GT t) ∧ (t[i]? ≠ some 40) ∧ (∀ z : Int, ((∃ p : Nat, Atm t i (.inl p) ∧ z = -1 - (p : Int)) ∨ ∃ (j : Nat) (v : PyData), Atm t i (.inr (j, v)) ∧ z = (j : Int)) → Q (.int z) H)
def sp_law_fault (P : Program) (w : World) (K : PySem.W.Frag) : Sp := fun vs H Q _ => ∃ (t : List Nat), vs = [.str (Rd.S t)] ∧ (t.length ≤ 90000) ∧ (GT t) ∧ (∀ z : Int, ((∃ p : Nat, Run t false 0 0 (some p) ∧ z = (p : Int)) ∨ (Run t false 0 0 none ∧ z = -1)) → Q (.int z) H)
def sp_law_odd (P : Program) (w : World) (K : PySem.W.Frag) : Sp := fun vs H Q _ => ∃ (n : Int), vs = [.int n] ∧ (∀ l H', Same H H' → GT l → l.length ≤ 1010 → Q (.str (Rd.S l)) H')
def sp_law_spoilt (P : Program) (w : World) (K : PySem.W.Frag) : Sp := fun vs H Q _ => ∃ (l : List Nat) (x y : Int), vs = [.str (Rd.S l), .int x, .int y] ∧ (l.length ≤ 89000) ∧ (GT l) ∧ (0 ≤ x ∧ x < 1000) ∧ (0 ≤ y ∧ y < 1000) ∧ (∀ m, GT m → m.length ≤ l.length + 1 → Q (.str (Rd.S m)) H)
def sp_law_drawn_text (P : Program) (w : World) (K : PySem.W.Frag) : Sp := fun vs H Q _ => ∃ (a b : Addr) (ns nums : List Int), vs = [.ref a, .ref b] ∧ (SqL K H a (ns.map V.int)) ∧ (∀ z ∈ ns, Builtin.Int.intBits z ≤ 1048576) ∧ (H b = some (.lst (nums.map V.int))) ∧ (B3 nums) ∧ (16 ≤ nums.length ∧ nums.length ≤ 79) ∧ (∀ l H', Same H H' → GT l → l.length ≤ 85000 → Q (.str (Rd.S l)) H')
def sp_law_raises_base (P : Program) (w : World) (K : PySem.W.Frag) : Sp := fun vs H Q _ => ∃ (t : List Nat) (p : Nat), vs = [.str (Rd.S t)] ∧ (GT t) ∧ (t.length ≤ 90000) ∧ (Run t false 0 0 (some p)) ∧ (∀ H', Same H H' → Q (.bl true) H')
def sp_law (P : Program) (w : World) (K : PySem.W.Frag) : Sp := fun vs H Q _ => ∃ (a : Addr) (ns : List Int), vs = [.ref a] ∧ (SqL K H a (ns.map V.int)) ∧ (ns.length ≤ 63) ∧ (∀ z ∈ ns, Builtin.Int.intBits z ≤ 1048576) ∧ (∀ H', Q (.bl true) H')
local macro_rules | `(tactic| walk_at "cnd") => `(tactic| first
  | ((with_reducible show CMul _ _); first | (exact Or.inl (And.intro (by omega) (by omega))) | (exact Or.inr (And.intro (by omega) (by omega))))
  | ((with_reducible show CDiv _ _); exact And.intro (by omega) (by omega))
  | ((with_reducible show CPow _ _); exact And.intro (by omega) (And.intro (by omega) (by omega)))
  | ((with_reducible show Rd.CDivX _ _); exact Rd.cdivX' (by omega) (by omega))
  | ((with_reducible show (_ : Int) < _); omega)
  | ((with_reducible show (_ : Int) ≠ _); omega))
local macro_rules | `(tactic| walk_at "rd1") => `(tactic| first
  | (with_reducible refine Rd.seq ?_)
  | (with_reducible refine Rd.asg ?_)
  | (with_reducible refine Rd.opIsN ?_)
  | (with_reducible refine Rd.opNotN ?_)
  | (with_reducible refine Rd.opAddS ?_)
  | (with_reducible refine Rd.opInS ?_)
  | (with_reducible refine Rd.op ?_)
  | (with_reducible refine Rd.cst ?_)
  | ((with_reducible show tVar _ _ _ _); refine Rd.var rfl ?_)
  | (with_reducible refine Rd.cons ?_)
  | (with_reducible refine Rd.nil ?_)
  | (with_reducible refine Rd.opI0 ?_)
  | ((with_reducible show rI CPow _ (V.int 10) (V.int _) _ _); refine Rd.pw (z := 1000000000000000) ⟨by decide, by decide, by decide⟩ (by decide) ?_)
  | ((with_reducible show rI CPow _ (V.int 10) (V.int _) _ _); refine Rd.pw (z := 1000000000000000000) ⟨by decide, by decide, by decide⟩ (by decide) ?_)
  | ((with_reducible show rI CPow _ (V.int 10) (V.int _) _ _); refine Rd.pw (z := 1000000000) ⟨by decide, by decide, by decide⟩ (by decide) ?_)
  | ((with_reducible show rI CPow _ (V.int 10) (V.int _) _ _); refine Rd.pw (z := 1000000) ⟨by decide, by decide, by decide⟩ (by decide) ?_)
  | ((with_reducible show rI CPow _ (V.int 10) (V.int _) _ _); refine Rd.pw (z := 10000000) ⟨by decide, by decide, by decide⟩ (by decide) ?_)
  | ((with_reducible show rI CPow _ (V.int 10) (V.int _) _ _); refine Rd.pw (z := 100000000) ⟨by decide, by decide, by decide⟩ (by decide) ?_)
  | ((with_reducible show rI CPow _ (V.int 10) (V.int _) _ _); refine Rd.pw (z := 10000000000) ⟨by decide, by decide, by decide⟩ (by decide) ?_)
  | ((with_reducible show rI CPow _ (V.int 10) (V.int _) _ _); refine Rd.pw (z := 100000000000) ⟨by decide, by decide, by decide⟩ (by decide) ?_)
  | ((with_reducible show rI CPow _ (V.int 10) (V.int _) _ _); refine Rd.pw (z := 1000000000000) ⟨by decide, by decide, by decide⟩ (by decide) ?_)
  | ((with_reducible show rI CPow _ (V.int 10) (V.int _) _ _); refine Rd.pw (z := 10000000000000) ⟨by decide, by decide, by decide⟩ (by decide) ?_)
  | ((with_reducible show rI CPow _ (V.int 10) (V.int _) _ _); refine Rd.pw (z := 10000000000000000000000000000000000000000) ⟨by decide, by decide, by decide⟩ (by decide) ?_)
  | ((with_reducible refine Rd.opI ?_ ?_); (first | walk_at "cnd" | skip))
  | (with_reducible refine Rd.ret ?_)
  | (with_reducible refine Rd.ifS ?_)
  | (with_reducible refine Rd.tst ?_)
  | (with_reducible refine Rd.tB_ ?_)
  | (with_reducible refine Rd.bl ?_)
  | (with_reducible refine Rd.eqI ?_)
  | (with_reducible refine Rd.eqS' ?_)
  | (with_reducible refine Rd.eqS ?_)
  | (with_reducible refine Rd.eqB ?_)
  | (with_reducible refine Rd.neI ?_)
  | (with_reducible refine Rd.neS' ?_)
  | (with_reducible refine Rd.neS ?_)
  | (with_reducible refine Rd.neB ?_)
  | (with_reducible refine Rd.callN ?_)
  | (with_reducible refine Rd.cbLen ?_)
  | (with_reducible refine Rd.cbLenS ?_)
  | (with_reducible refine Rd.cbInt ?_)
  | (with_reducible refine Rd.cbIntS ?_)
  | (with_reducible refine Rd.cbAbs ?_)
  | (with_reducible refine Rd.cbStrI ?_)
  | (with_reducible refine Rd.cbLst ?_)
  | (with_reducible refine Rd.cbTup ?_)
  | (with_reducible refine Rd.cbMax2 ?_)
  | (with_reducible refine Rd.cbMin2 ?_)
  | (with_reducible refine Rd.cb ?_)
  | (with_reducible refine Rd.isN' ?_)
  | (with_reducible refine Rd.notN' ?_)
  | (with_reducible refine Rd.intB ?_)
  | (with_reducible refine Rd.max2 (fun _ _ _ _ => ?_))
  | (with_reducible refine Rd.min2 (fun _ _ _ _ => ?_))
  | (with_reducible refine Rd.int1 ?_)
  | (with_reducible refine Rd.abs1 (fun _ _ _ => ?_))
  | (with_reducible refine Rd.un ?_)
  | (with_reducible refine Rd.opU ?_)
  | (with_reducible refine Rd.tup ?_)
  | (with_reducible refine Rd.lst ?_)
  | (with_reducible refine Rd.len (Nat.le_of_ble_eq_true rfl) (fun _ _ => ?_))
  | (with_reducible refine Rd.next ?_)
  | (with_reducible refine Rd.chain ?_)
  | (with_reducible refine Rd.andV ?_)
  | (with_reducible refine Rd.orV ?_)
  | (with_reducible refine Rd.notV ?_)
  | (with_reducible refine Rd.and_ ?_)
  | (with_reducible refine Rd.or_ ?_)
  | (with_reducible refine Rd.not_ ?_)
  | (with_reducible refine Rd.ifE ?_)
  | (with_reducible refine Rd.iteT ?_)
  | (with_reducible refine Rd.iteF ?_)
  | (with_reducible refine Rd.iteD (fun _ => ?_) (fun _ => ?_))
  | (with_reducible refine Rd.iteN (fun _ => ?_) (fun _ => ?_))
  | (with_reducible refine Rd.drop ?_)
  | (with_reducible refine Rd.app ?_)
  | ((with_reducible refine Rd.tyL (xs := ?xs) ?h ?_); (case h => walk_at "hq"))
  | ((with_reducible refine Rd.appd (xs := ?xs) ?h ?z ?_); (case h => walk_at "hq"); (case z => walk_at "sz"))
  | ((with_reducible refine Rd.setL (xs := ?xs) (j := ?j) ?h ?e ?_); (case h => walk_at "hq"); (case e => rfl))
  | ((with_reducible refine Rd.lenL (ys := ?ys) ?h rfl ?_); (case h => walk_at "hp"))
  | ((with_reducible refine Rd.lenT (ys := ?ys) ?h rfl ?_); (case h => walk_at "hp"))
  | ((with_reducible refine Rd.ixL (xs := ?xs) (v := ?v) ?h ?a ?_); (case h => walk_at "hp"); (case a => walk_at "ix"))
  | ((with_reducible refine Rd.ixT (xs := ?xs) (v := ?v) ?h ?a ?_); (case h => walk_at "hp"); (case a => walk_at "ix"))
  | ((with_reducible refine Rd.isiI (r := ?r) ?e ?_); (case e => first | exact Rd.kb_int_int | exact Rd.kb_int_bool | exact Rd.kb_int_str | exact Rd.kb_int_tuple | exact Rd.kb_int_list | exact Rd.kb_int_dict))
  | ((with_reducible refine Rd.isiB (r := ?r) ?e ?_); (case e => first | exact Rd.kb_bool_int | exact Rd.kb_bool_bool | exact Rd.kb_bool_str | exact Rd.kb_bool_tuple | exact Rd.kb_bool_list | exact Rd.kb_bool_dict))
  | ((with_reducible refine Rd.isiS (r := ?r) ?e ?_); (case e => first | exact Rd.kb_str_int | exact Rd.kb_str_bool | exact Rd.kb_str_str | exact Rd.kb_str_tuple | exact Rd.kb_str_list | exact Rd.kb_str_dict))
  | ((with_reducible refine Rd.isiN (r := ?r) ?e ?_); (case e => first | exact Rd.kb_NoneType_int | exact Rd.kb_NoneType_bool | exact Rd.kb_NoneType_str | exact Rd.kb_NoneType_tuple | exact Rd.kb_NoneType_list | exact Rd.kb_NoneType_dict))
  | ((with_reducible refine Rd.isiT (xs := ?xs) (r := ?r) ?h ?e ?_); (case h => walk_at "hp"); (case e => first | exact Rd.kb_tuple_int | exact Rd.kb_tuple_bool | exact Rd.kb_tuple_str | exact Rd.kb_tuple_tuple | exact Rd.kb_tuple_list | exact Rd.kb_tuple_dict))
  | ((with_reducible refine Rd.isiL (xs := ?xs) (r := ?r) ?h ?e ?_); (case h => walk_at "hp"); (case e => first | exact Rd.kb_list_int | exact Rd.kb_list_bool | exact Rd.kb_list_str | exact Rd.kb_list_tuple | exact Rd.kb_list_list | exact Rd.kb_list_dict))
  | (with_reducible refine Rd.iteNT ?_)
  | (with_reducible refine Rd.iteNF ?_)
  | (with_reducible refine Rd.iteB (fun _ => ?_) (fun _ => ?_))
  | (with_reducible refine Rd.asgS ?_)
  | (with_reducible refine Rd.for_ ?_)
  | (with_reducible refine Rd.iR1 ?_)
  | (with_reducible refine Rd.iR2 ?_)
  | (with_reducible refine Rd.iL ?_)
  | (with_reducible refine Rd.iT ?_)
  | (with_reducible refine Rd.lc_ ?_)
  | (with_reducible refine Rd.brk ?_)
  | (with_reducible refine Rd.cont ?_)
  | (with_reducible refine Rd.retN ?_)
  | (with_reducible refine Rd.sl ?_)
  | ((with_reducible show tAug _ _ _ _ _ _); refine Rd.aug rfl ?_)
  | (with_reducible refine Rd.augI ?_)
  | (with_reducible refine Rd.inS ?_)
  | (with_reducible refine Rd.bm0 ?_)
  | (with_reducible refine Rd.revL ?_)
  | ((with_reducible refine Rd.slL' (xs := ?xs) ?h (fun _ _ => ?_)); (case h => walk_at "hp"))
  | ((with_reducible refine Rd.revL' (xs := ?xs) ?h (fun _ _ => ?_)); (case h => walk_at "hp"))
  | ((with_reducible refine Rd.catL (xs := ?xs) (ys := ?ys) ?a ?b ?z (fun _ _ => ?_)); (case a => walk_at "hq"); (case b => walk_at "hq"); (case z => walk_at "sz"))
  | (with_reducible refine Rd.nopart ?_)
  | (with_reducible refine Rd.part ?_)
  | (with_reducible refine Rd.part' ?_)
  | (with_reducible refine Rd.whlN ?_)
  | ((with_reducible refine Rd.addS' ?h ?_); (case h => walk_at "tz"))
  | ((with_reducible refine Rd.lenS' ?h ?_); (case h => walk_at "tz"))
  | ((with_reducible refine Rd.mulS1 ?h ?_); (case h => omega))
  | ((with_reducible refine Rd.ixS (c := ?c) ?h ?a ?_); (case h => walk_at "tz"); (case a => walk_at "ixs"))
  | walk_at "use")
local macro_rules | `(tactic| walk_at "sz") => `(tactic| first
  | (simp only [List.length_map, List.length_append, List.length_cons, List.length_nil]; omega)
  | omega | decide)
local macro_rules | `(tactic| walk_at "tz") => `(tactic| first
  | omega
  | (simp only [List.length_append, List.length_cons, List.length_nil, List.length_replicate]; omega)
  | decide)
local macro_rules | `(tactic| walk_at "ixs") => `(tactic| first
  | assumption
  | ((with_reducible show atI (_ :: _) _ = _); (first | rfl | exact Rd.atI_of (by decide) rfl)))
local macro_rules | `(tactic| walk_at "ix") => `(tactic| first
  | (with_reducible refine Rd.atI_ints ?_ ?_ <;> omega)
  | ((with_reducible show atI (_ :: _) _ = _); (first | rfl | exact Rd.atI_of (by decide) rfl))
  | ((with_reducible show atI (List.set (_ :: _) _ _) _ = _); rfl))
local macro_rules | `(tactic| walk_at "rd") => `(tactic| repeat' (walk_at "rd1"))
local macro_rules | `(tactic| walk_at "sm") => `(tactic| first
  | (with_reducible exact Same.refl _)
  | assumption
  | ((with_reducible refine Same.trans ?_ (Rd.same_new ‹_›)); walk_at "sm")
  | ((with_reducible refine Same.trans ?_ ‹Same _ _›); walk_at "sm"))

local macro_rules | `(tactic| walk_at "rj") => `(tactic| repeat' ((fail_if_success (with_reducible show tSeq (tIfS _ _ _) _ _ _ _)); walk_at "rd1"))


local macro_rules | `(tactic| walk_at "pre") => `(tactic| first | assumption | (walk_at "hp") | ((with_reducible refine Dj.dpS (H := ?H0) ?h ?s); (case h => assumption); (case s => walk_at "sm")) | ((with_reducible refine Dj.dpS1 (H := ?H0) ?h ?s); (case h => assumption); (case s => walk_at "sm")) | omega | (constructor <;> omega) | decide | (simp only [List.length_map]; omega) | (simp only [List.length_cons, List.length_nil]; omega) | (exact Rd.slT) | (exact Rd.slL) | fail)
local macro_rules | `(tactic| walk_at "cnd") => `(tactic| first | (simp only [List.length_map]; omega) | (constructor <;> omega) | fail)
local macro_rules | `(tactic| walk_at "rd1") => `(tactic| first
  | ((with_reducible refine Dj.ixB (ns := ?ns) ?h ?b ?lo ?hi (fun _ _ _ => ?_)); (case h => walk_at "hp"); (case b => assumption); (case lo => omega); (case hi => first | omega | (simp only [List.length_map] at *; omega)))
  | ((with_reducible refine Dj.ixBm (ns := ?ns) ?h ?b ?lo (fun _ _ _ => ?_)); (case h => walk_at "hp"); (case b => assumption); (case lo => omega))
  | ((with_reducible refine Dj.lenI (ns := ?ns) ?h rfl ?_); (case h => walk_at "hp"))
  | (with_reducible refine Dj.gN ?_)
  | (with_reducible refine Re.meth ?_)
  | (with_reducible refine Re.prop ?_)
  | (with_reducible refine Re.stat ?_)
  | (with_reducible refine Rb.make ?_)
  | (with_reducible refine Re.statC ?_ rfl)
  | ((with_reducible refine Re.methB (P := ?P) (w := ?w) (N := ?N) ?h ?n ?_); (case h => walk_at "pre"); (case n => decide))
  | ((with_reducible refine Re.propB (P := ?P) (w := ?w) (N := ?N) ?h ?_); (case h => walk_at "pre"))
  | ((with_reducible refine Re.own2B (P := ?P) (w := ?w) (N := ?N) (M := ?M) ?h ?h' ?_); (case h => walk_at "pre"); (case h' => walk_at "pre"))
  | ((with_reducible refine Re.own1B (P := ?P) (w := ?w) (N := ?N) ?h ?_); (case h => walk_at "pre"))
  | ((with_reducible refine Re.rowsB (P := ?P) (w := ?w) (N := ?N) ?h ?c ?n (fun _ _ _ _ => ?_)); (case h => walk_at "pre"); (case c => assumption); (case n => assumption))
  | ((with_reducible refine Re.inOwnB (P := ?P) (w := ?w) (N := ?N) ?h ?_); (case h => walk_at "pre"))
  | ((with_reducible refine Re.boolOwnB (P := ?P) (w := ?w) (N := ?N) ?h ?_); (case h => walk_at "pre"))
  | ((with_reducible refine Re.neAst (x := ?x) (y := ?y) (i := ?i) (j := ?j) ?h1 ?h2 ?o1 ?o2 ?_); (case h1 => walk_at "hp"); (case h2 => walk_at "hp"); (case o1 => walk_at "oka"); (case o2 => walk_at "oka"))
  | ((with_reducible refine Re.eqAst (x := ?x) (y := ?y) (i := ?i) (j := ?j) ?h1 ?h2 ?o1 ?o2 ?_); (case h1 => walk_at "hp"); (case h2 => walk_at "hp"); (case o1 => walk_at "oka"); (case o2 => walk_at "oka"))
  | ((with_reducible show wipe _ _ = wipe _ _ ∧ _); refine ⟨rfl, ?_⟩)
  | ((with_reducible refine Re.fldK (C := ?C) (dx := ?dx) (fs := ?fs) (v := ?v) ?h ?c ?n ?l ?_); (case h => walk_at "hq"); (case c => assumption); (case n => assumption); (case l => rfl))
  | ((with_reducible refine Re.methI (dx := ?dx) (fs := ?fs) ?h ?l ?_); (case h => walk_at "hq"); (case l => rfl))
  | ((with_reducible refine Re.propI (dx := ?dx) (fs := ?fs) ?h ?_); (case h => walk_at "hq"))
  | (with_reducible refine Rb.fld ?_)
  | ((with_reducible refine Dj.fldK (C := ?C) (dx := ?dx) (fs := ?fs) (v := ?v) ?h ?c ?n ?l ?_); (case h => walk_at "hq"); (case c => assumption); (case n => assumption); (case l => rfl))
  | ((with_reducible refine Rd.lstL (ys := ?ys) ?h (fun _ _ => ?_)); (case h => walk_at "hp"))
  | ((with_reducible refine Rd.lstT (ys := ?ys) ?h (fun _ _ => ?_)); (case h => walk_at "hp"))
  | ((with_reducible refine Rd.tupL (ys := ?ys) ?h (fun _ _ => ?_)); (case h => walk_at "hp"))
  | ((with_reducible refine Rd.tupT (ys := ?ys) ?h ?_); (case h => walk_at "hp"))
  | ((with_reducible show tAsg _ (gTup _ _ _) _ _ _); (with_reducible refine Rb.asgG ?_))
  | ((with_reducible refine Dj.pair_of (x := ?x) (y := ?y) ?h ?_); (case h => walk_at "hp"))
  | ((with_reducible refine Dj.iteDt ?h ?_); (case h => walk_at "ar"))
  | ((with_reducible refine Dj.iteDf ?h ?_); (case h => walk_at "ar"))
  | ((with_reducible refine Dj.iteNt ?h ?_); (case h => walk_at "ar"))
  | ((with_reducible refine Dj.iteNf ?h ?_); (case h => walk_at "ar"))
  | fail)
local macro_rules | `(tactic| walk_at "ar") => `(tactic| first | omega | (simp only [List.length_cons, List.length_nil, List.length_map]; omega) | fail)
local macro_rules | `(tactic| walk_at "dead") => `(tactic| first | contradiction | (exfalso; omega) | (exfalso; simp only [List.length_cons, List.length_nil, List.length_map] at *; omega) | fail)
local macro_rules | `(tactic| walk_at "ix") => `(tactic| first | assumption | fail)
local macro_rules | `(tactic| walk_at "hq") => `(tactic| first
  | assumption
  | (with_reducible exact upd_same)
  | ((first
      | (with_reducible refine Rd.nh (by assumption) ?_)
      | (with_reducible refine Rd.uh (by assumption) ?_)
      | ((with_reducible refine Dj.sat (H0 := ?H0) ?s ?_); (case s => assumption))); walk_at "hq")
  | fail)
local macro_rules | `(tactic| walk_at "hp1") => `(tactic| first
  | (with_reducible refine Rd.nl (by assumption) ?_)
  | (with_reducible refine Rd.nt (by assumption) ?_)
  | (with_reducible refine Rd.ul (by assumption) ?_)
  | (with_reducible refine Rd.ut (by assumption) ?_)
  | ((with_reducible refine Dj.satL (H0 := ?H0) ?s ?_); (case s => assumption))
  | ((with_reducible refine Dj.satT (H0 := ?H0) ?s ?_); (case s => assumption))
  | fail)
local macro_rules | `(tactic| walk_at "hpr") => `(tactic| first
  | assumption
  | (with_reducible exact Rd.slL)
  | (with_reducible exact Rd.slT)
  | (walk_at "hp1"; walk_at "hpr")
  | fail)
local macro_rules | `(tactic| walk_at "hp") => `(tactic| first
  | walk_at "hpr"
  | ((first | (with_reducible refine SqL.of ?_) | (with_reducible refine SqT.of ?_)); walk_at "hq")
  | walk_at "hq"
  | fail)

local macro_rules | `(tactic| walk_at "pre") => `(tactic| first | ((with_reducible refine Es.BdS.keep (H := ?H0) ?h ?s); (case h => assumption); (case s => walk_at "sm")) | fail)
local macro_rules | `(tactic| walk_at "oka") => `(tactic| first | assumption | exact (show Bd.OkA coinA by unfold Bd.OkA coinA; decide +kernel) | fail)
local macro_rules | `(tactic| walk_at "hpr") => `(tactic| first | (with_reducible exact (‹∀ H : Hp, SqT _ H _ _› _)) | fail)


local macro_rules | `(tactic| walk_at "ar") => `(tactic| first | omega | (simp only [List.length_cons, List.length_nil, List.length_map]; omega) | decide | (simp only [List.cons.injEq, and_true]; omega) | (simp only [Ez.lt11]; omega) | fail)
local macro_rules | `(tactic| walk_at "rd1") => `(tactic| first
  | ((with_reducible refine Ez.lenS2 ?h ?_); (case h => first | assumption | omega))
  | ((with_reducible refine Ez.augSc (s := ?s) (dx := ?dx) (t := ?t) (i := ?i) ?v ?h ?c ?n ?_); (case v => rfl); (case h => walk_at "hq"); (case c => assumption); (case n => assumption))
  | (with_reducible refine Ez.leS ?_)
  | (with_reducible refine Ez.joinR ?_)
  | (with_reducible refine Ez.strA ?_)
  | ((with_reducible refine Ez.jS0 ?h ?_); (case h => omega))
  | ((with_reducible refine Ez.jS ?h ?_); (case h => first | omega | (simp only [List.length_append, List.length_cons, List.length_nil]; omega)))
  | ((with_reducible refine Ez.fmtI ?h ?_); (case h => omega))
  | ((with_reducible refine Ez.fmtS ?h ?_); (case h => omega))
  | (with_reducible refine Ez.tJ1 ?_)
  | ((with_reducible refine Ez.addS2 ?h ?_); (case h => first | omega | (simp only [List.length_append, List.length_cons, List.length_nil]; omega)))
  | (with_reducible refine Ez.tJ0 ?_)
  | (with_reducible refine Ez.fmt ?_)
  | (with_reducible refine Ez.ordS ?_)
  | (with_reducible refine Ez.iS ?_)
  | fail)

theorem clS {sp : Sp} {E : L2.St → XK} {t : TA} {σ : L2.St} {H : Hp} {Q : VK} (k : t σ H fun vs H1 => sp vs H1 Q (E σ)) : tCallS sp E t σ H Q := k
theorem mkI {C : Addr} {sp : Sp} {dvs : List V} {ta : TA} {σ : L2.St} {H : Hp} {Q : XK} (k : ta σ H fun vs H1 => vs.length ≤ 1000 ∧ ∀ a, H1 a = none → sp (.ref a :: (vs ++ dvs)) (upd H1 a (exo a C none))
  (fun v H2 => v = .non ∧ ∃ (d : Addr) (fs : List (Str × V)), H2 a = some (exo a C (some d)) ∧ H2 d = some (exd d fs) ∧ H1 d = none ∧ Q (.ref C) (some d) (upd (del H2 a) d (.xd fs))) (fun _ _ _ => False)) : tMkO C sp dvs ta σ H Q := k

local macro_rules | `(tactic| walk_at "issp") => `(tactic| first | (with_reducible show sp_KeptError___init _ _ _ _ _ _ _) | (with_reducible show sp_Scanner___init _ _ _ _ _ _ _) | (with_reducible show sp_Scanner_char _ _ _ _ _ _ _) | (with_reducible show sp_Scanner_skip _ _ _ _ _ _ _) | (with_reducible show sp_Scanner_require _ _ _ _ _ _ _) | (with_reducible show sp_read _ _ _ _ _ _ _) | (with_reducible show sp_value _ _ _ _ _ _ _ _) | (with_reducible show sp_is_digit _ _ _ _ _ _ _) | (with_reducible show sp_digits _ _ _ _ _ _ _) | (with_reducible show sp_string _ _ _ _ _ _ _) | (with_reducible show sp_tuple _ _ _ _ _ _ _ _) | (with_reducible show sp_law_cell _ _ _ _ _ _ _) | (with_reducible show sp_law_numbers _ _ _ _ _ _ _) | (with_reducible show sp_law_tape _ _ _ _ _ _ _) | (with_reducible show sp_law_char _ _ _ _ _ _ _) | (with_reducible show sp_law_text _ _ _ _ _ _ _) | (with_reducible show sp_law_integer _ _ _ _ _ _ _) | (with_reducible show sp_law_leaf _ _ _ _ _ _ _) | (with_reducible show sp_law_value _ _ _ _ _ _ _) | (with_reducible show sp_law_written _ _ _ _ _ _ _ _) | (with_reducible show sp_law_atom_end _ _ _ _ _ _ _) | (with_reducible show sp_law_fault _ _ _ _ _ _ _) | (with_reducible show sp_law_odd _ _ _ _ _ _ _) | (with_reducible show sp_law_spoilt _ _ _ _ _ _ _) | (with_reducible show sp_law_drawn_text _ _ _ _ _ _ _) | (with_reducible show sp_law_raises_base _ _ _ _ _ _ _) | fail)
local macro_rules | `(tactic| walk_at "rn") => `(tactic| repeat' ((fail_if_success (walk_at "issp")); walk_at "rd1"))
local macro_rules | `(tactic| walk_at "rnj") => `(tactic| repeat' ((fail_if_success (walk_at "issp")); (fail_if_success (with_reducible show tSeq (tIfS _ _ _) _ _ _ _)); walk_at "rd1"))
local macro_rules | `(tactic| walk_at "use") => `(tactic| first
  | ((with_reducible show sp_KeptError___init _ _ _ _ _ _ _); refine ⟨_, ?C, _, rfl, ?h0, ?h1, (fun _ _ _ => ?_)⟩; (case h0 => walk_at "pre"); (case h1 => walk_at "pre"))
  | ((with_reducible show sp_Scanner___init _ _ _ _ _ _ _); refine ⟨_, ?dx, _, rfl, ?h0, (fun _ _ _ => ?_)⟩; (case h0 => walk_at "pre"))
  | ((with_reducible show sp_Scanner_char _ _ _ _ _ _ _); refine ⟨_, ?dx, ?t, ?i, ?r, rfl, ?h0, ?h1, ?h2, ?_⟩; (case h0 => walk_at "pre"); (case h1 => walk_at "pre"); (case h2 => walk_at "pre"))
  | ((with_reducible show sp_Scanner_skip _ _ _ _ _ _ _); refine ⟨_, ?dx, ?t, ?i, ?r, _, rfl, ?h0, ?h1, ?h2, ?_⟩; (case h0 => walk_at "pre"); (case h1 => walk_at "pre"); (case h2 => walk_at "pre"))
  | ((with_reducible show sp_Scanner_require _ _ _ _ _ _ _); refine ⟨_, ?dx, ?t, ?i, _, rfl, ?h0, ?h1, ?_⟩; (case h0 => walk_at "pre"); (case h1 => walk_at "pre"))
  | ((with_reducible show sp_read _ _ _ _ _ _ _); refine ⟨_, rfl, ?h0, ?h1, ?h2, (fun _ _ _ _ _ _ _ _ _ => ?_)⟩; (case h0 => walk_at "pre"); (case h1 => walk_at "pre"); (case h2 => walk_at "pre"))
  | ((with_reducible show sp_value _ _ _ _ _ _ _ _); refine ⟨_, ?dx, ?t, ?i, _, rfl, ?h0, ?h1, ?h2, ?h3, ?h4, ?h5, ?h6, (fun _ _ _ _ _ _ _ => ?_)⟩; (case h0 => walk_at "pre"); (case h1 => walk_at "pre"); (case h2 => walk_at "pre"); (case h3 => walk_at "pre"); (case h4 => walk_at "pre"); (case h5 => walk_at "pre"); (case h6 => walk_at "pre"))
  | ((with_reducible show sp_is_digit _ _ _ _ _ _ _); refine ⟨_, rfl, ?_⟩; skip)
  | ((with_reducible show sp_digits _ _ _ _ _ _ _); refine ⟨_, ?dx, ?t, ?i, ?r, rfl, ?h0, ?h1, ?h2, ?h3, (fun _ _ _ _ _ => ?_)⟩; (case h0 => walk_at "pre"); (case h1 => walk_at "pre"); (case h2 => walk_at "pre"); (case h3 => walk_at "pre"))
  | ((with_reducible show sp_string _ _ _ _ _ _ _); refine ⟨_, ?dx, ?t, ?i, _, rfl, ?h0, ?h1, ?h2, ?h3, ?h4, ?h5, ?_⟩; (case h0 => walk_at "pre"); (case h1 => walk_at "pre"); (case h2 => walk_at "pre"); (case h3 => walk_at "pre"); (case h4 => walk_at "pre"); (case h5 => walk_at "pre"))
  | ((with_reducible show sp_tuple _ _ _ _ _ _ _ _); refine ⟨_, ?dx, ?t, ?i, _, rfl, ?h0, ?h1, ?h2, ?h3, ?h4, ?h5, ?h6, (fun _ _ _ _ _ _ _ => ?_)⟩; (case h0 => walk_at "pre"); (case h1 => walk_at "pre"); (case h2 => walk_at "pre"); (case h3 => walk_at "pre"); (case h4 => walk_at "pre"); (case h5 => walk_at "pre"); (case h6 => walk_at "pre"))
  | ((with_reducible show sp_law_cell _ _ _ _ _ _ _); refine ⟨_, ?ns, _, rfl, ?h0, ?h1, ?h2, (fun _ _ => ?_)⟩; (case h0 => walk_at "pre"); (case h1 => walk_at "pre"); (case h2 => walk_at "pre"))
  | ((with_reducible show sp_law_numbers _ _ _ _ _ _ _); refine ⟨_, _, rfl, ?h0, (fun _ _ _ _ _ _ _ _ => ?_)⟩; (case h0 => walk_at "pre"))
  | ((with_reducible show sp_law_tape _ _ _ _ _ _ _); refine ⟨_, ?ns, _, _, rfl, ?h0, ?h1, ?h2, ?h3, (fun _ _ _ _ _ _ _ _ _ => ?_)⟩; (case h0 => walk_at "pre"); (case h1 => walk_at "pre"); (case h2 => walk_at "pre"); (case h3 => walk_at "pre"))
  | ((with_reducible show sp_law_char _ _ _ _ _ _ _); refine ⟨_, rfl, (fun _ _ => ?_)⟩; skip)
  | ((with_reducible show sp_law_text _ _ _ _ _ _ _); refine ⟨_, _, rfl, ?h0, ?h1, (fun _ _ _ _ => ?_)⟩; (case h0 => walk_at "pre"); (case h1 => walk_at "pre"))
  | ((with_reducible show sp_law_integer _ _ _ _ _ _ _); refine ⟨_, _, rfl, ?h0, ?h1, (fun _ _ _ _ => ?_)⟩; (case h0 => walk_at "pre"); (case h1 => walk_at "pre"))
  | ((with_reducible show sp_law_leaf _ _ _ _ _ _ _); refine ⟨_, _, rfl, ?h0, ?h1, (fun _ _ _ _ _ _ _ _ => ?_)⟩; (case h0 => walk_at "pre"); (case h1 => walk_at "pre"))
  | ((with_reducible show sp_law_value _ _ _ _ _ _ _); refine ⟨_, _, ?ns, ?nums, rfl, ?h0, ?h1, ?h2, ?h3, ?h4, (fun _ _ _ _ _ _ _ _ => ?_)⟩; (case h0 => walk_at "pre"); (case h1 => walk_at "pre"); (case h2 => walk_at "pre"); (case h3 => walk_at "pre"); (case h4 => walk_at "pre"))
  | ((with_reducible show sp_law_written _ _ _ _ _ _ _ _); refine ⟨_, ?d, rfl, ?h0, ?h1, ?h2, ?h3, (fun _ _ => ?_)⟩; (case h0 => walk_at "pre"); (case h1 => walk_at "pre"); (case h2 => walk_at "pre"); (case h3 => walk_at "pre"))
  | ((with_reducible show sp_law_atom_end _ _ _ _ _ _ _); refine ⟨_, _, rfl, ?h0, ?h1, ?h2, ?h3, (fun _ _ => ?_)⟩; (case h0 => walk_at "pre"); (case h1 => walk_at "pre"); (case h2 => walk_at "pre"); (case h3 => walk_at "pre"))
  | ((with_reducible show sp_law_fault _ _ _ _ _ _ _); refine ⟨_, rfl, ?h0, ?h1, (fun _ _ => ?_)⟩; (case h0 => walk_at "pre"); (case h1 => walk_at "pre"))
  | ((with_reducible show sp_law_odd _ _ _ _ _ _ _); refine ⟨_, rfl, (fun _ _ _ _ _ => ?_)⟩; skip)
  | ((with_reducible show sp_law_spoilt _ _ _ _ _ _ _); refine ⟨_, _, _, rfl, ?h0, ?h1, ?h2, ?h3, (fun _ _ _ => ?_)⟩; (case h0 => walk_at "pre"); (case h1 => walk_at "pre"); (case h2 => walk_at "pre"); (case h3 => walk_at "pre"))
  | ((with_reducible show sp_law_drawn_text _ _ _ _ _ _ _); refine ⟨_, _, ?ns, ?nums, rfl, ?h0, ?h1, ?h2, ?h3, ?h4, (fun _ _ _ _ _ => ?_)⟩; (case h0 => walk_at "pre"); (case h1 => walk_at "pre"); (case h2 => walk_at "pre"); (case h3 => walk_at "pre"); (case h4 => walk_at "pre"))
  | ((with_reducible show sp_law_raises_base _ _ _ _ _ _ _); refine ⟨_, ?p, rfl, ?h0, ?h1, ?h2, (fun _ _ => ?_)⟩; (case h0 => walk_at "pre"); (case h1 => walk_at "pre"); (case h2 => walk_at "pre"))
  | fail)
theorem lit_0 : Str.ofString "" = Rd.S [] := by decide +kernel
theorem lit_1 : Str.ofString "(" = Rd.S [40] := by decide +kernel
theorem lit_2 : Str.ofString "-" = Rd.S [45] := by decide +kernel
theorem lit_3 : Str.ofString "T" = Rd.S [84] := by decide +kernel
theorem lit_4 : Str.ofString "F" = Rd.S [70] := by decide +kernel
theorem lit_5 : Str.ofString ":" = Rd.S [58] := by decide +kernel
theorem lit_6 : Str.ofString "1" = Rd.S [49] := by decide +kernel
theorem lit_7 : Str.ofString "9" = Rd.S [57] := by decide +kernel
theorem lit_8 : Str.ofString "0" = Rd.S [48] := by decide +kernel
theorem lit_9 : Str.ofString " " = Rd.S [32] := by decide +kernel
theorem lit_10 : Str.ofString "~" = Rd.S [126] := by decide +kernel
theorem lit_11 : Str.ofString ")" = Rd.S [41] := by decide +kernel
theorem lit_12 : Str.ofString " !\"#$&'()*+,-./0123456789:;<=>?@ABCDEFGHIJKLMNOPQRSTUVWXYZ[\\]^_`" = Rd.S [32, 33, 34, 35, 36, 38, 39, 40, 41, 42, 43, 44, 45, 46, 47, 48, 49, 50, 51, 52, 53, 54, 55, 56, 57, 58, 59, 60, 61, 62, 63, 64, 65, 66, 67, 68, 69, 70, 71, 72, 73, 74, 75, 76, 77, 78, 79, 80, 81, 82, 83, 84, 85, 86, 87, 88, 89, 90, 91, 92, 93, 94, 95, 96] := by decide +kernel
theorem lit_13 : Str.ofString "abcdefghijklmnopqrstuvwxyz{|}~" = Rd.S [97, 98, 99, 100, 101, 102, 103, 104, 105, 106, 107, 108, 109, 110, 111, 112, 113, 114, 115, 116, 117, 118, 119, 120, 121, 122, 123, 124, 125, 126] := by decide +kernel
theorem lit_14 : Str.ofString "():0 T-1" = Rd.S [40, 41, 58, 48, 32, 84, 45, 49] := by decide +kernel
theorem lit_15 : Str.ofString "?" = Rd.S [63] := by decide +kernel
theorem lit_16 : Str.ofString "0123456789" = Rd.S [48, 49, 50, 51, 52, 53, 54, 55, 56, 57] := by decide +kernel
theorem lit_17 : Str.ofString "-0" = Rd.S [45, 48] := by decide +kernel
theorem lit_18 : Str.ofString "00" = Rd.S [48, 48] := by decide +kernel
theorem lit_19 : Str.ofString "01" = Rd.S [48, 49] := by decide +kernel
theorem lit_20 : Str.ofString "0:" = Rd.S [48, 58] := by decide +kernel
theorem lit_21 : Str.ofString "1:" = Rd.S [49, 58] := by decide +kernel
theorem lit_22 : Str.ofString "T " = Rd.S [84, 32] := by decide +kernel
theorem lit_23 : Str.ofString "( )" = Rd.S [40, 32, 41] := by decide +kernel
theorem lit_24 : Str.ofString "()" = Rd.S [40, 41] := by decide +kernel
theorem lit_25 : Str.ofString "(T F)" = Rd.S [40, 84, 32, 70, 41] := by decide +kernel
theorem lit_26 : Str.ofString "(T  F)" = Rd.S [40, 84, 32, 32, 70, 41] := by decide +kernel
theorem lit_27 : Str.ofString "(TF)" = Rd.S [40, 84, 70, 41] := by decide +kernel
theorem lit_28 : Str.ofString "(1 )" = Rd.S [40, 49, 32, 41] := by decide +kernel
theorem lit_29 : Str.ofString "-1:a" = Rd.S [45, 49, 58, 97] := by decide +kernel
theorem lit_30 : Str.ofString "012" = Rd.S [48, 49, 50] := by decide +kernel
theorem lit_31 : Str.ofString "01:a" = Rd.S [48, 49, 58, 97] := by decide +kernel
theorem lit_32 : Str.ofString "1000:" = Rd.S [49, 48, 48, 48, 58] := by decide +kernel
theorem lit_33 : Str.ofString "1001:" = Rd.S [49, 48, 48, 49, 58] := by decide +kernel
theorem lit_34 : Str.ofString "999:" = Rd.S [57, 57, 57, 58] := by decide +kernel
theorem lit_35 : Str.ofString "8" = Rd.S [56] := by decide +kernel
theorem lit_36 : Str.ofString "a" = Rd.S [97] := by decide +kernel
theorem lit_37 : Str.ofString "b" = Rd.S [98] := by decide +kernel
theorem lit_38 : Str.ofString "c" = Rd.S [99] := by decide +kernel
theorem lit_39 : Str.ofString "()0123456789:- TFa" = Rd.S [40, 41, 48, 49, 50, 51, 52, 53, 54, 55, 56, 57, 58, 45, 32, 84, 70, 97] := by decide +kernel
theorem lit_40 : Str.ofString " 5)" = Rd.S [32, 53, 41] := by decide +kernel
theorem lit_41 : Str.ofString "(0: 5)" = Rd.S [40, 48, 58, 32, 53, 41] := by decide +kernel
def d_KeptError___init : He.DefD := ⟨("KeptError", some "__init__"), "__init__", "KeptError.__init__", defArgs s_KeptError___init, defBody s_KeptError___init, defScope s_KeptError___init, [.non], []⟩
def d_Scanner___init : He.DefD := ⟨("Scanner", some "__init__"), "__init__", "Scanner.__init__", defArgs s_Scanner___init, defBody s_Scanner___init, defScope s_Scanner___init, [], []⟩
def d_Scanner_char : He.DefD := ⟨("Scanner", some "char"), "char", "Scanner.char", defArgs s_Scanner_char, defBody s_Scanner_char, defScope s_Scanner_char, [], []⟩
def d_is_digit : He.DefD := ⟨("_is_digit", none), "_is_digit", "_is_digit", defArgs s_is_digit, defBody s_is_digit, defScope s_is_digit, [], []⟩
def d_law_cell : He.DefD := ⟨("_law_cell", none), "_law_cell", "_law_cell", defArgs s_law_cell, defBody s_law_cell, defScope s_law_cell, [], []⟩
def d_law_numbers : He.DefD := ⟨("_law_numbers", none), "_law_numbers", "_law_numbers", defArgs s_law_numbers, defBody s_law_numbers, defScope s_law_numbers, [], []⟩
def d_law_char : He.DefD := ⟨("_law_char", none), "_law_char", "_law_char", defArgs s_law_char, defBody s_law_char, defScope s_law_char, [], []⟩
def d_law_integer : He.DefD := ⟨("_law_integer", none), "_law_integer", "_law_integer", defArgs s_law_integer, defBody s_law_integer, defScope s_law_integer, [], []⟩
def d_law_atom_end : He.DefD := ⟨("_law_atom_end", none), "_law_atom_end", "_law_atom_end", defArgs s_law_atom_end, defBody s_law_atom_end, defScope s_law_atom_end, [], []⟩
def d_law_odd : He.DefD := ⟨("_law_odd", none), "_law_odd", "_law_odd", defArgs s_law_odd, defBody s_law_odd, defScope s_law_odd, [], []⟩
def d_law_spoilt : He.DefD := ⟨("_law_spoilt", none), "_law_spoilt", "_law_spoilt", defArgs s_law_spoilt, defBody s_law_spoilt, defScope s_law_spoilt, [], []⟩
def d_Scanner_skip : He.DefD := ⟨("Scanner", some "skip"), "skip", "Scanner.skip", defArgs s_Scanner_skip, defBody s_Scanner_skip, defScope s_Scanner_skip, [], []⟩
def d_digits : He.DefD := ⟨("_digits", none), "_digits", "_digits", defArgs s_digits, defBody s_digits, defScope s_digits, [], []⟩
def d_law_tape : He.DefD := ⟨("_law_tape", none), "_law_tape", "_law_tape", defArgs s_law_tape, defBody s_law_tape, defScope s_law_tape, [], []⟩
def d_law_text : He.DefD := ⟨("_law_text", none), "_law_text", "_law_text", defArgs s_law_text, defBody s_law_text, defScope s_law_text, [], []⟩
def d_law_fault : He.DefD := ⟨("_law_fault", none), "_law_fault", "_law_fault", defArgs s_law_fault, defBody s_law_fault, defScope s_law_fault, [], []⟩
def d_Scanner_require : He.DefD := ⟨("Scanner", some "require"), "require", "Scanner.require", defArgs s_Scanner_require, defBody s_Scanner_require, defScope s_Scanner_require, [], []⟩
def d_law_leaf : He.DefD := ⟨("_law_leaf", none), "_law_leaf", "_law_leaf", defArgs s_law_leaf, defBody s_law_leaf, defScope s_law_leaf, [], []⟩
def d_string : He.DefD := ⟨("_string", none), "_string", "_string", defArgs s_string, defBody s_string, defScope s_string, [], []⟩
def d_law_value : He.DefD := ⟨("_law_value", none), "_law_value", "_law_value", defArgs s_law_value, defBody s_law_value, defScope s_law_value, [], []⟩
def d_law_written : He.DefD := ⟨("_law_written", none), "_law_written", "_law_written", defArgs s_law_written, defBody s_law_written, defScope s_law_written, [], []⟩
def d_law_drawn_text : He.DefD := ⟨("_law_drawn_text", none), "_law_drawn_text", "_law_drawn_text", defArgs s_law_drawn_text, defBody s_law_drawn_text, defScope s_law_drawn_text, [], []⟩
def d_tuple : He.DefD := ⟨("_tuple", none), "_tuple", "_tuple", defArgs s_tuple, defBody s_tuple, defScope s_tuple, [], []⟩
def d_value : He.DefD := ⟨("_value", none), "_value", "_value", defArgs s_value, defBody s_value, defScope s_value, [], []⟩
def d_read : He.DefD := ⟨("read", none), "read", "read", defArgs s_read, defBody s_read, defScope s_read, [], []⟩
def d_law_raises_base : He.DefD := ⟨("_law_raises_base", none), "_law_raises_base", "_law_raises_base", defArgs s_law_raises_base, defBody s_law_raises_base, defScope s_law_raises_base, [], []⟩
def d_law : He.DefD := ⟨("law", none), "law", "law", defArgs s_law, defBody s_law, defScope s_law, [], []⟩
def fn : List He.DefD := [d_KeptError___init, d_Scanner___init, d_Scanner_char, d_is_digit, d_law_cell, d_law_numbers, d_law_char, d_law_integer, d_law_atom_end, d_law_odd, d_law_spoilt, d_Scanner_skip, d_digits, d_law_tape, d_law_text, d_law_fault, d_Scanner_require, d_law_leaf, d_string, d_law_value, d_law_written, d_law_drawn_text, d_tuple, d_value, d_read, d_law_raises_base, d_law]
def fa : List He.Fa := [.glo "_is_digit", .glo "_law_cell", .glo "_law_numbers", .glo "_law_char", .glo "_law_integer", .glo "_law_atom_end", .glo "_law_odd", .glo "_law_spoilt", .glo "_digits", .glo "_law_tape", .glo "_law_text", .glo "_law_fault", .glo "_law_leaf", .glo "_string", .glo "_law_value", .glo "_law_written", .glo "_law_drawn_text", .glo "_tuple", .glo "_value", .glo "read", .glo "_law_raises_base", .glo "law", .free "ValueError", .free "abs", .free "bool", .free "int", .free "isinstance", .free "len", .free "max", .free "min", .free "ord", .free "range", .free "str", .free "tuple", .cls "Scanner", .glo "Scanner", .mkr "Scanner", .meth "Scanner" "char", .meth "Scanner" "require", .meth "Scanner" "skip", .noat "Scanner" "at", .noat "Scanner" "text", .glo "BadNotation", .int "_LONGEST_STRING" 1000, .int "_MOST_DEPTH" 12, .int "_MOST_DIGITS" 60, .int "_PERCENT" 37, .glo "KeptError", .glo "RecordError", .glo "BadNotation", .glo "BadRecord", .glo "BadLine"]
abbrev R : PySem.W.OpenRow := PySem.W.OpenLaw.row PySem.Challenge.rw_keptcoin_k73_strict_reading
def ex (K : PySem.W.Frag) : Bool := vErrs K && (efBN EN_ K && (true))
abbrev hk : PySem.W.Hook := He.hookX 5 fa fn [] [] ex
def ob (s : PySem.W.SharedT) : He.AlX := He.obsX 5 fa fn [] [] ex (HandSHeadRun.getT s)
theorem ob_eq (s : PySem.W.SharedT) : ob s = hk.obs s.abs := He.obsX_eq (HandSHeadRun.getT_eq s)
theorem run (w : World) : HandSHeadRun.RunEq R (PySem.W.view R.prog [34]) hk ob 20000 [("KeptError" : PySem.Str), ("RecordError" : PySem.Str), ("BadNotation" : PySem.Str), ("BadRecord" : PySem.Str), ("BadLine" : PySem.Str), ("_MOST_DEPTH" : PySem.Str), ("_MOST_DIGITS" : PySem.Str), ("_LONGEST_STRING" : PySem.Str), ("_PERCENT" : PySem.Str), ("Scanner" : PySem.Str), ("read" : PySem.Str), ("_value" : PySem.Str), ("_is_digit" : PySem.Str), ("_digits" : PySem.Str), ("_string" : PySem.Str), ("_tuple" : PySem.Str), ("_law_cell" : PySem.Str), ("_law_numbers" : PySem.Str), ("_law_tape" : PySem.Str), ("_law_char" : PySem.Str), ("_law_text" : PySem.Str), ("_law_integer" : PySem.Str), ("_law_leaf" : PySem.Str), ("_law_value" : PySem.Str), ("_law_written" : PySem.Str), ("_law_atom_end" : PySem.Str), ("_law_fault" : PySem.Str), ("_law_odd" : PySem.Str), ("_law_spoilt" : PySem.Str), ("_law_drawn_text" : PySem.Str), ("_law_raises_base" : PySem.Str)] w := by
  intro os
  kernel_rfl
section
variable {P : Program} {w : World} {K : PySem.W.Frag} {mg : Str → Option Value} {base : Heap}
theorem bnd_KeptError___init {fd : FuncData} (F : FunD K "__init__" "KeptError.__init__" (defArgs s_KeptError___init) (defBody s_KeptError___init) (defScope s_KeptError___init) [V.non] [] (He.fAd K ("KeptError", some "__init__")) fd) : Binds K fd ["self", "what"] [] := by
  obtain ⟨ds, r, b⟩ := F.binds1 (ps := ["self", "what"]) 2 1 (by simp) rfl (fun T kV doc pm an cdv ct us its hu hi => match us, hu, its, hi with | [_, _], _, [_], _ => ⟨_, rfl, rfl⟩)
  cases r
  exact b
theorem bnd0_KeptError___init {fd : FuncData} (F : FunD K "__init__" "KeptError.__init__" (defArgs s_KeptError___init) (defBody s_KeptError___init) (defScope s_KeptError___init) [V.non] [] (He.fAd K ("KeptError", some "__init__")) fd) : ∃ ds, Vals [V.non] ds ∧ Binds K fd ["self", "what"] ds := by
  obtain ⟨ds, r, b⟩ := F.binds1 (ps := ["self", "what"]) 1 0 (by simp) rfl (fun T kV doc pm an cdv ct us its hu hi => match us, hu, its, hi with | [_], _, [_], _ => ⟨_, rfl, rfl⟩)
  exact ⟨ds, r, b⟩
theorem fn_KeptError___init {fd : FuncData} (F : FunD K "__init__" "KeptError.__init__" (defArgs s_KeptError___init) (defBody s_KeptError___init) (defScope s_KeptError___init) [V.non] [] (He.fAd K ("KeptError", some "__init__")) fd)   : FnOk P w K mg base CX0 1 (He.fAd K ("KeptError", some "__init__")) fd ["self", "what"] (sp_KeptError___init P w K) := by
  refine F.ok sc_KeptError___init (fun vs H Q E h => ?_) (fun cdv A outer s H vs Q E hr h => ?_)
  · obtain ⟨a, C, x, rfl, _⟩ := h; rfl
  · obtain ⟨a, C, x, rfl, hC, ha, k⟩ := h
    refine ⟨_, PSs.nox (pss_one (ps_ost (pv 0) (pv 1))), ?_⟩
    try simp only [Rd.cxK, Re.cxP, Re.cxW]
    refine Rd.var rfl (Rd.var rfl ⟨a, C, rfl, hC.o, hC.nw, .inl ⟨ha, fun dx h1 h2 => ?_⟩⟩)
    exact k dx h1 h2
theorem ok_KeptError___init {fd : FuncData} (F : FunD K "__init__" "KeptError.__init__" (defArgs s_KeptError___init) (defBody s_KeptError___init) (defScope s_KeptError___init) [V.non] [] (He.fAd K ("KeptError", some "__init__")) fd)   : CalM P w K mg base (He.fAd K ("KeptError", some "__init__")) 1 ["self", "what"] [V.non] (sp_KeptError___init P w K) :=
  ⟨fd, (bnd_KeptError___init F), fn_KeptError___init F , (bnd0_KeptError___init F)⟩

theorem fn_Scanner___init {fd : FuncData} (F : FunD K "__init__" "Scanner.__init__" (defArgs s_Scanner___init) (defBody s_Scanner___init) (defScope s_Scanner___init) [] [] (He.fAd K ("Scanner", some "__init__")) fd)   (W_Scanner : CF_Scanner K mg) : FnOk P w K mg base CX0 1 (He.fAd K ("Scanner", some "__init__")) fd ["self", "text"] (sp_Scanner___init P w K) := by
  have cf_Scanner := W_Scanner
  have cfc_Scanner := cf_Scanner.cls
  have cfn_Scanner_at := cf_Scanner.n_at
  have cfn_Scanner_text := cf_Scanner.n_text
  refine F.ok sc_Scanner___init (fun vs H Q E h => ?_) (fun cdv A outer s H vs Q E hr h => ?_)
  · obtain ⟨s, dx, t, rfl, _⟩ := h; rfl
  · obtain ⟨s, dx, t, rfl, hs, k⟩ := h
    refine ⟨_, PSs.nox (pss_cons (ps_fld (pv 0) (pv 1) rfl)
      (pss_one (ps_fld (pv 0) pe_int rfl))), ?_⟩
    try simp only [Rd.cxK, Re.cxP, Re.cxW]
    refine Rd.seq (Rb.sfld (Rd.var rfl (Rd.var rfl ⟨s, _, dx, [], rfl, hs, cfc_Scanner, cfn_Scanner_text, by decide, ?_⟩)))
    refine Rb.sfld (Rd.cst (Rd.var rfl ⟨s, _, dx, _, rfl, upd_same, cfc_Scanner, cfn_Scanner_at, by show 1 < 1000; decide, ?_⟩))
    refine k _ (fun a o ha e => (upd_ne ha).trans ((upd_ne ha).trans e)) ?_
    exact upd_same
theorem ok_Scanner___init {fd : FuncData} (F : FunD K "__init__" "Scanner.__init__" (defArgs s_Scanner___init) (defBody s_Scanner___init) (defScope s_Scanner___init) [] [] (He.fAd K ("Scanner", some "__init__")) fd)   (W_Scanner : CF_Scanner K mg) : CalM P w K mg base (He.fAd K ("Scanner", some "__init__")) 1 ["self", "text"] [] (sp_Scanner___init P w K) :=
  ⟨fd, F.bindsN fun _ _ _ _ _ _ us hl => match us, hl with | [_, _], _ => rfl, fn_Scanner___init F W_Scanner, [], .nil, F.bindsN fun _ _ _ _ _ _ us hl => match us, hl with | [_, _], _ => rfl⟩

theorem fn_Scanner_char {fd : FuncData} (F : FunD K "char" "Scanner.char" (defArgs s_Scanner_char) (defBody s_Scanner_char) (defScope s_Scanner_char) [] [] (He.fAd K ("Scanner", some "char")) fd)  (z_len : mg "len" = none) (W_Scanner : CF_Scanner K mg) : FnOk P w K mg base CX0 1 (He.fAd K ("Scanner", some "char")) fd ["self"] (sp_Scanner_char P w K) := by
  have cf_Scanner := W_Scanner
  have cfc_Scanner := cf_Scanner.cls
  have cfn_Scanner_at := cf_Scanner.n_at
  have cfn_Scanner_text := cf_Scanner.n_text
  refine F.ok sc_Scanner_char (fun vs H Q E h => ?_) (fun cdv A outer s H vs Q E hr h => ?_)
  · obtain ⟨s, dx, t, i, r, rfl, _⟩ := h; rfl
  · obtain ⟨s, dx, t, i, r, rfl, hs, hr1, hl, k⟩ := h
    refine ⟨_, PSs.nox (pss_one (ps_ret (pe_ifExp (pt_cmpR op_lt (pe_fld (pv 0) rfl) (pe_callB call_len_str (by rfl) z_len boot_len (pa_cons (pe_fld (pv 0) rfl) pa_nil)) (nomark _)) (pe_ix ix_str (pe_fld (pv 0) rfl) (pe_fld (pv 0) rfl) (fun _ _ => rfl)) pe_str))), ?_⟩
    try simp only [Rd.cxK, Re.cxP, Re.cxW, lit_0]
    cases r with
    | nil =>
      have h1 : t.length ≤ i := by
        have e := congrArg List.length hr1
        rw [List.length_drop] at e
        simpa using Nat.le_of_sub_eq_zero e
      walk_at "rd"
      exact k
    | cons c r =>
      obtain ⟨h1, h2, h3⟩ := head_at hr1
      walk_at "rd"
      refine ixS2 hl (Rd.atI_of (by omega) h1) ?_
      exact k
theorem ok_Scanner_char {fd : FuncData} (F : FunD K "char" "Scanner.char" (defArgs s_Scanner_char) (defBody s_Scanner_char) (defScope s_Scanner_char) [] [] (He.fAd K ("Scanner", some "char")) fd)  (z_len : mg "len" = none) (W_Scanner : CF_Scanner K mg) : CalM P w K mg base (He.fAd K ("Scanner", some "char")) 1 ["self"] [] (sp_Scanner_char P w K) :=
  ⟨fd, F.bindsN fun _ _ _ _ _ _ us hl => match us, hl with | [_], _ => rfl, fn_Scanner_char F z_len W_Scanner, [], .nil, F.bindsN fun _ _ _ _ _ _ us hl => match us, hl with | [_], _ => rfl⟩

theorem fn_is_digit {f : Addr} {fd : FuncData} (F : FnP K "_is_digit" s_is_digit f fd)   : FnOk P w K mg base CX0 1 f fd ["char"] (sp_is_digit P w K) := by
  refine F.ok sc_is_digit (fun vs H Q E h => ?_) (fun cdv A outer s H vs Q E hr h => ?_)
  · obtain ⟨r, rfl, _⟩ := h; rfl
  · obtain ⟨r, rfl, k⟩ := h
    refine ⟨_, PSs.nox (pss_one (ps_ret (pe_chain Ez.op_leS Ez.op_leS pe_str (pv 0) pe_str))), ?_⟩
    try simp only [Rd.cxK, Re.cxP, Re.cxW, lit_7, lit_8]
    cases r with
    | nil =>
      rw [List.take_nil]
      walk_at "rd"
      all_goals first | exact k | (rename_i h; exact absurd lt01 h)
    | cons c r =>
      have e : List.take 1 (c :: r) = [c] := rfl
      rw [e]
      walk_at "rd"
      · rename_i h
        rw [lt11] at h
        have e2 : isd (c :: r) = !decide (([57] : List Nat) < [c]) := by
          show (decide (48 ≤ c) && decide (c ≤ 57)) = _
          rw [decide_eq_true (by omega : 48 ≤ c), Bool.true_and]
          by_cases q : 57 < c
          · rw [decide_eq_false (by omega), decide_eq_true (lt11.mpr q)]; rfl
          · rw [decide_eq_true (by omega), decide_eq_false (fun z => q (lt11.mp z))]; rfl
        rw [← e2]; exact k
      · rename_i h
        rw [lt11] at h
        have e2 : isd (c :: r) = false := by show (decide (48 ≤ c) && decide (c ≤ 57)) = _; rw [decide_eq_false (by omega)]; rfl
        rw [← e2]; exact k
theorem ok_is_digit {f : Addr} {fd : FuncData} (mf : mg "_is_digit" = some (.ref f)) (F : FnP K "_is_digit" s_is_digit f fd)   : Cal P w K mg base "_is_digit" 1 ["char"] (sp_is_digit P w K) :=
  ⟨f, fd, mf, F.kp, F.bindsN fun _ _ _ _ _ _ us hl => match us, hl with | [_], _ => rfl, fn_is_digit F ⟩

theorem fn_law_cell {f : Addr} {fd : FuncData} (F : FnP K "_law_cell" s_law_cell f fd)  (z_len : mg "len" = none) : FnOk P w K mg base CX0 1 f fd ["script", "k"] (sp_law_cell P w K) := by
  refine F.ok sc_law_cell (fun vs H Q E h => ?_) (fun cdv A outer s H vs Q E hr h => ?_)
  · obtain ⟨a, ns, i, rfl, _⟩ := h; rfl
  · obtain ⟨a, ns, i, rfl, hS, h0, hbt, k⟩ := h
    refine ⟨_, PSs.nox (pss_cons (ps_if (pt_cmpR op_lt (pv 1) (pe_callB call_len_seq (by rfl) z_len boot_len (pa_cons (pv 0) pa_nil)) (nomark _)) (pss_one (ps_ret (pe_ix ix_list (pv 0) (pv 1) (fun _ _ => rfl)))) pss_nil)
      (pss_one (ps_ret pe_int))), ?_⟩
    try simp only [Rd.cxK, Re.cxP, Re.cxW]
    walk_at "rd"
    · exact k _ (by
        by_cases h : i.toNat < ns.length
        · rw [List.getD_eq_getElem?_getD, List.getElem?_eq_getElem h]; exact hbt _ (List.getElem_mem h)
        · rw [List.getD_eq_getElem?_getD, List.getElem?_eq_none (by omega)]; decide)
    · exact k 0 (by decide)
theorem ok_law_cell {f : Addr} {fd : FuncData} (mf : mg "_law_cell" = some (.ref f)) (F : FnP K "_law_cell" s_law_cell f fd)  (z_len : mg "len" = none) : Cal P w K mg base "_law_cell" 1 ["script", "k"] (sp_law_cell P w K) :=
  ⟨f, fd, mf, F.kp, F.bindsN fun _ _ _ _ _ _ us hl => match us, hl with | [_, _], _ => rfl, fn_law_cell F z_len⟩

theorem fn_law_numbers {f : Addr} {fd : FuncData} (F : FnP K "_law_numbers" s_law_numbers f fd)  (z_abs : mg "abs" = none) (z_range : mg "range" = none) (z_int : mg "int" = none) : FnOk P w K mg base CX0 1 f fd ["cell", "many"] (sp_law_numbers P w K) := by
  refine F.ok sc_law_numbers (fun vs H Q E h => ?_) (fun cdv A outer s H vs Q E hr h => ?_)
  · obtain ⟨c, m, rfl, _⟩ := h; rfl
  · obtain ⟨c, m, rfl, hm, k⟩ := h
    refine ⟨_, PSs.nox (pss_cons (ps_set (i := 2) sc_law_numbers.nd rfl (by first | exact Or.inl rfl | exact Or.inr rfl) (pe_callB call_abs (by rfl) z_abs boot_abs (pa_cons (pv 0) pa_nil)))
      (pss_cons (ps_set (i := 3) sc_law_numbers.nd rfl (by first | exact Or.inl rfl | exact Or.inr rfl) (pv 2))
      (pss_cons (ps_set (i := 4) sc_law_numbers.nd rfl (by first | exact Or.inl rfl | exact Or.inr rfl) (pe_lst pa_nil))
      (pss_cons (ps_for PassesOwn.never rfl (pi_range1 (by rfl) z_range (pa_cons (pv 1) pa_nil)) (pg_name (i := 5) sc_law_numbers.nd rfl (by first | exact Or.inl rfl | exact Or.inr rfl)) (pss_one (ps_if (PW.pt (pw_and (pt_cmpR op_ge (pv 2) (pe_op op_pow pe_int pe_int) (nomark _)) (pw_and1 (pt_cmpR op_gt (pv 3) pe_int (nomark _))))) (pss_cons (ps_expr (pe_bm PySem.F.plainAttrs_list PySem.F.slot_list_append PySem.F.type_list_append mt_append (pv 4) (pa_cons (pe_op op_mod (pe_callTy call_int1 (by rfl) z_int boot_int (pa_cons (pv 3) pa_nil)) pe_int) pa_nil)))
      (pss_one (ps_set (i := 3) sc_law_numbers.nd rfl (by first | exact Or.inl rfl | exact Or.inr rfl) (pe_op op_fdiv (pv 3) pe_int)))) (pss_cons (ps_set (i := 6) sc_law_numbers.nd rfl (by first | exact Or.inl rfl | exact Or.inr rfl) (pe_op op_mod (pe_callTy call_int1 (by rfl) z_int boot_int (pa_cons (pe_op op_add (pe_op op_add (pe_op op_mul (pv 2) pe_int) (pe_op op_mul (pv 5) pe_int)) pe_int) pa_nil)) pe_int))
      (pss_cons (ps_set (i := 6) sc_law_numbers.nd rfl (by first | exact Or.inl rfl | exact Or.inr rfl) (pe_op op_mod (pe_callTy call_int1 (by rfl) z_int boot_int (pa_cons (pe_op op_add (pe_op op_add (pe_op op_mul (pv 6) (pv 6)) (pe_op op_mul pe_int (pv 5))) pe_int) pa_nil)) pe_int))
      (pss_one (ps_expr (pe_bm PySem.F.plainAttrs_list PySem.F.slot_list_append PySem.F.type_list_append mt_append (pv 4) (pa_cons (pe_op op_mod (pe_callTy call_int1 (by rfl) z_int boot_int (pa_cons (pe_op op_fdiv (pv 6) pe_int) pa_nil)) pe_int) pa_nil)))))))))
      (pss_one (ps_ret (pv 4))))))), ?_⟩
    try simp only [Rd.cxK, Re.cxP, Re.cxW]
    walk_at "rd"
    rename_i z hz0 hz1 p hp
    refine Rd.rng1 (fun i σ' H' => ∃ (r : Int) (nums : List Int) (kv mv : Option V), σ' = [some (.int c), some (.int m), some (.int z), some (.int r), some (.ref p), kv, mv] ∧ 0 ≤ r ∧ nums.length = i ∧ (∀ x ∈ nums, 0 ≤ x ∧ x < 1000) ∧ Same H H' ∧ H' p = some (.lst (nums.map V.int))) ⟨by omega, by omega⟩ ?_ ?_ ?_
    · exact ⟨z, [], _, _, rfl, hz0, rfl, by simp, Rd.same_new hp, upd_same⟩
    · rintro i σ' H' hi ⟨r, nums, kv, mv, rfl, hr0, hl, hb, hs, hp'⟩
      walk_at "rd"
      all_goals (refine ⟨_, nums ++ [_], _, _, rfl, ?_, ?_, Rd.bd_app hb ?_, Rd.same_mut hs hp, Rd.pushInts⟩ <;> first | omega | simp [hl])
    · rintro σ' H' ⟨r, nums, kv, mv, rfl, hr0, hl, hb, hs, hp'⟩
      walk_at "rd"
      exact k p nums H' hs hp hp' hl hb
theorem ok_law_numbers {f : Addr} {fd : FuncData} (mf : mg "_law_numbers" = some (.ref f)) (F : FnP K "_law_numbers" s_law_numbers f fd)  (z_abs : mg "abs" = none) (z_range : mg "range" = none) (z_int : mg "int" = none) : Cal P w K mg base "_law_numbers" 1 ["cell", "many"] (sp_law_numbers P w K) :=
  ⟨f, fd, mf, F.kp, F.bindsN fun _ _ _ _ _ _ us hl => match us, hl with | [_, _], _ => rfl, fn_law_numbers F z_abs z_range z_int⟩

theorem fn_law_char {f : Addr} {fd : FuncData} (F : FnP K "_law_char" s_law_char f fd)  (z_int : mg "int" = none) : FnOk P w K mg base CX0 1 f fd ["number"] (sp_law_char P w K) := by
  refine F.ok sc_law_char (fun vs H Q E h => ?_) (fun cdv A outer s H vs Q E hr h => ?_)
  · obtain ⟨i, rfl, _⟩ := h; rfl
  · obtain ⟨i, rfl, k⟩ := h
    refine ⟨_, PSs.nox (pss_cons (ps_set (i := 1) sc_law_char.nd rfl (by first | exact Or.inl rfl | exact Or.inr rfl) pe_str)
      (pss_cons (ps_set (i := 1) sc_law_char.nd rfl (by first | exact Or.inl rfl | exact Or.inr rfl) (pe_op op_add_str (pv 1) pe_str))
      (pss_one (ps_ret (pe_ix ix_str (pv 1) (pe_op op_mod (pe_callTy call_int1 (by rfl) z_int boot_int (pa_cons (pv 0) pa_nil)) pe_int) (fun _ _ => rfl)))))), ?_⟩
    try simp only [Rd.cxK, Re.cxP, Re.cxW, lit_12, lit_13]
    walk_at "rd"
    all_goals first | exact Rd.ixSall (by decide) (by omega) (by show _ < (94 : Int); omega) (fun c hc => k c (by revert c; decide))
theorem ok_law_char {f : Addr} {fd : FuncData} (mf : mg "_law_char" = some (.ref f)) (F : FnP K "_law_char" s_law_char f fd)  (z_int : mg "int" = none) : Cal P w K mg base "_law_char" 1 ["number"] (sp_law_char P w K) :=
  ⟨f, fd, mf, F.kp, F.bindsN fun _ _ _ _ _ _ us hl => match us, hl with | [_], _ => rfl, fn_law_char F z_int⟩

theorem fn_law_integer {f : Addr} {fd : FuncData} (F : FnP K "_law_integer" s_law_integer f fd)  (z_int : mg "int" = none) (z_abs : mg "abs" = none) : FnOk P w K mg base CX0 1 f fd ["cell", "number"] (sp_law_integer P w K) := by
  refine F.ok sc_law_integer (fun vs H Q E h => ?_) (fun cdv A outer s H vs Q E hr h => ?_)
  · obtain ⟨c, i, rfl, _⟩ := h; rfl
  · obtain ⟨c, i, rfl, hc, hi, k⟩ := h
    refine ⟨_, PSs.nox (pss_cons (ps_set (i := 2) sc_law_integer.nd rfl (by first | exact Or.inl rfl | exact Or.inr rfl) (pe_op op_fdiv (pv 1) pe_int))
      (pss_cons (ps_if (pt_cmpR op_eq (pe_op op_mod (pv 2) pe_int) pe_int (nomark _)) (pss_one (ps_ret (pe_op op_sub (pv 2) pe_int))) pss_nil)
      (pss_cons (ps_set (i := 3) sc_law_integer.nd rfl (by first | exact Or.inl rfl | exact Or.inr rfl) (pe_op op_mod (pe_callTy call_int1 (by rfl) z_int boot_int (pa_cons (pe_op op_mulX (pe_op op_add (pe_callB call_abs (by rfl) z_abs boot_abs (pa_cons (pv 0) pa_nil)) (pv 2)) (pe_ix ix_list (pe_lst (pa_cons (pe_op op_pow pe_int pe_int) (pa_cons (pe_op op_pow pe_int pe_int) (pa_cons (pe_op op_pow pe_int pe_int) (pa_cons (pe_op op_pow pe_int pe_int) pa_nil))))) (pe_op op_mod (pe_callTy call_int1 (by rfl) z_int boot_int (pa_cons (pe_op op_fdiv (pv 2) pe_int) pa_nil)) pe_int) (fun _ _ => rfl))) pa_nil)) (pe_op op_pow pe_int pe_int)))
      (pss_cons (ps_if (pt_cmpR op_eq (pe_op op_mod (pv 2) pe_int) pe_int (nomark _)) (pss_one (ps_set (i := 3) sc_law_integer.nd rfl (by first | exact Or.inl rfl | exact Or.inr rfl) (pe_op op_sub (pe_op op_sub (pe_op op_pow pe_int pe_int) pe_int) (pv 3)))) pss_nil)
      (pss_cons (ps_if (pt_cmpR op_eq (pe_op op_mod (pv 2) pe_int) pe_int (nomark _)) (pss_one (ps_ret (pe_un un_neg (pv 3)))) pss_nil)
      (pss_one (ps_ret (pv 3)))))))), ?_⟩
    try simp only [Rd.cxK, Re.cxP, Re.cxW]
    walk_at "rn"
    · exact k _ H (Same.refl _) (gd_int (by omega))
    rename_i z hz0 hz1 l hl
    refine Rd.ixLmem (i := i / 8 / 3 % 4) (xs := [V.int (10 ^ Int.toNat 4), V.int (10 ^ Int.toNat 17), V.int (10 ^ Int.toNat 39), V.int (10 ^ Int.toNat 57)]) (SqL.of upd_same) (by omega) (by show i / 8 / 3 % 4 < (4 : Int); omega) fun v hv => ?_
    have hv2 : ∃ n : Int, v = .int n ∧ 0 ≤ n ∧ n < 2 ^ 200 := by
      simp only [List.mem_cons, List.not_mem_nil, or_false] at hv
      rcases hv with rfl | rfl | rfl | rfl <;> exact ⟨_, rfl, by decide, by decide⟩
    obtain ⟨n, rfl, hn0, hn1⟩ := hv2
    refine ⟨_, _, rfl, rfl, mul_bits hc (by omega) (by omega) ⟨hn0, hn1⟩, ?_⟩
    have g0 : 0 ≤ (z + i / 8) * n % 10 ^ Int.toNat 60 := Int.emod_nonneg _ (by decide)
    have g1 : (z + i / 8) * n % 10 ^ Int.toNat 60 < 10 ^ Int.toNat 60 := Int.emod_lt_of_pos _ (by decide)
    have h1 := i60 g0 g1
    have h2 := i60 h1.2.2.1 h1.2.2.2
    walk_at "rn"
    · exact k _ _ (Rd.same_new hl) h2.2.1
    · exact k _ _ (Rd.same_new hl) h2.1
    · exact k _ _ (Rd.same_new hl) h1.2.1
    · exact k _ _ (Rd.same_new hl) h1.1
theorem ok_law_integer {f : Addr} {fd : FuncData} (mf : mg "_law_integer" = some (.ref f)) (F : FnP K "_law_integer" s_law_integer f fd)  (z_int : mg "int" = none) (z_abs : mg "abs" = none) : Cal P w K mg base "_law_integer" 1 ["cell", "number"] (sp_law_integer P w K) :=
  ⟨f, fd, mf, F.kp, F.bindsN fun _ _ _ _ _ _ us hl => match us, hl with | [_, _], _ => rfl, fn_law_integer F z_int z_abs⟩

theorem fn_law_atom_end {f : Addr} {fd : FuncData} (F : FnP K "_law_atom_end" s_law_atom_end f fd)  (z_range : mg "range" = none) (z_len : mg "len" = none) (z_int : mg "int" = none) : FnOk P w K mg base CX0 1 f fd ["text", "at"] (sp_law_atom_end P w K) := by
  refine F.ok sc_law_atom_end (fun vs H Q E h => ?_) (fun cdv A outer s H vs Q E hr h => ?_)
  · obtain ⟨t, i, rfl, _⟩ := h; rfl
  · obtain ⟨t, i, rfl, hl, hi, hg, h40, k⟩ := h
    refine ⟨_, PSs.nox (pss_cons (ps_if (PW.pt (pw_or (pt_cmpR op_eq (pe_slice sl_str (pv 0) (po_some (pv 1)) (po_some (pe_op op_add (pv 1) pe_int))) pe_str (nomark _)) (pw_or1 (pt_cmpR op_eq (pe_slice sl_str (pv 0) (po_some (pv 1)) (po_some (pe_op op_add (pv 1) pe_int))) pe_str (nomark _))))) (pss_one (ps_ret (pe_op op_add (pv 1) pe_int))) pss_nil)
      (pss_cons (ps_set (i := 2) sc_law_atom_end.nd rfl (by first | exact Or.inl rfl | exact Or.inr rfl) (pv 1))
      (pss_cons (ps_if (pt_cmpR op_eq (pe_slice sl_str (pv 0) (po_some (pv 1)) (po_some (pe_op op_add (pv 1) pe_int))) pe_str (nomark _)) (pss_one (ps_set (i := 2) sc_law_atom_end.nd rfl (by first | exact Or.inl rfl | exact Or.inr rfl) (pe_op op_add (pv 1) pe_int))) pss_nil)
      (pss_cons (ps_set (i := 3) sc_law_atom_end.nd rfl (by first | exact Or.inl rfl | exact Or.inr rfl) (pv 2))
      (pss_cons (ps_for PassesOwn.never rfl (pi_range1 (by rfl) z_range (pa_cons pe_int pa_nil)) (pg_name (i := 4) sc_law_atom_end.nd rfl (by first | exact Or.inl rfl | exact Or.inr rfl)) (pss_cons (ps_if (PW.pt (pw_or (pt_cmpR op_eq (pv 3) (pe_callB call_len_str (by rfl) z_len boot_len (pa_cons (pv 0) pa_nil)) (nomark _)) (pw_or (pt_cmpR op_notIn_sign (pe_ix ix_str (pv 0) (pv 3) (fun _ _ => rfl)) pe_str (by rfl)) (pw_or1 (PW.pt (pw_and (pt_cmpR op_eq (pv 3) (pe_op op_add (pv 2) pe_int) (nomark _)) (pw_and1 (pt_cmpR op_eq (pe_ix ix_str (pv 0) (pv 2) (fun _ _ => rfl)) pe_str (nomark _))))))))) (pss_one ps_break) pss_nil)
      (pss_one (ps_set (i := 3) sc_law_atom_end.nd rfl (by first | exact Or.inl rfl | exact Or.inr rfl) (pe_op op_add (pv 3) pe_int)))))
      (pss_cons (ps_if (PW.pt (pw_or (pt_cmpR op_eq (pv 3) (pv 2) (nomark _)) (pw_or1 (PW.pt (pw_and (pt_cmpR op_gt (pv 2) (pv 1) (nomark _)) (pw_and1 (pt_cmpR op_eq (pe_ix ix_str (pv 0) (pv 2) (fun _ _ => rfl)) pe_str (nomark _)))))))) (pss_one (ps_ret (pe_op op_sub (pe_un un_neg pe_int) (pv 2)))) pss_nil)
      (pss_cons (ps_if (PW.pt (pw_or (pt_cmpR op_gt (pv 2) (pv 1) (nomark _)) (pw_or (pt_cmpR op_ne (pe_slice sl_str (pv 0) (po_some (pv 3)) (po_some (pe_op op_add (pv 3) pe_int))) pe_str (nomark _)) (pw_or1 (pt_cmpR op_gt (pe_callTy call_int_str (by rfl) z_int boot_int (pa_cons (pe_slice sl_str (pv 0) (po_some (pv 1)) (po_some (pv 3))) pa_nil)) pe_int (nomark _)))))) (pss_one (ps_ret (pv 3))) pss_nil)
      (pss_cons (ps_if (pt_cmpR op_gt (pe_op op_add (pe_op op_add (pv 3) pe_int) (pe_callTy call_int_str (by rfl) z_int boot_int (pa_cons (pe_slice sl_str (pv 0) (po_some (pv 1)) (po_some (pv 3))) pa_nil))) (pe_callB call_len_str (by rfl) z_len boot_len (pa_cons (pv 0) pa_nil)) (nomark _)) (pss_one (ps_ret (pe_op op_sub (pe_un un_neg pe_int) (pe_callB call_len_str (by rfl) z_len boot_len (pa_cons (pv 0) pa_nil))))) pss_nil)
      (pss_one (ps_ret (pe_op op_add (pe_op op_add (pv 3) pe_int) (pe_callTy call_int_str (by rfl) z_int boot_int (pa_cons (pe_slice sl_str (pv 0) (po_some (pv 1)) (po_some (pv 3))) pa_nil))))))))))))), ?_⟩
    try simp only [Rd.cxK, Re.cxP, Re.cxW, lit_16, lit_2, lit_3, lit_4, lit_5, lit_8]
    walk_at "rn"
    refine slS1 (by omega) hi ?_
    walk_at "rn"
    · rename_i h
      have h84 := (take1 rfl).mp h
      exact k _ (.inr ⟨i + 1, _, .tr h84, by omega⟩)
    rename_i n84
    refine slS1 (by omega) hi ?_
    walk_at "rnj"
    · rename_i h
      have h70 := (take1 rfl).mp h
      exact k _ (.inr ⟨i + 1, _, .fa h70, by omega⟩)
    rename_i n70
    have n84 : t[i]? ≠ some 84 := fun q => n84 ((take1 rfl).mpr q)
    have n70 : t[i]? ≠ some 70 := fun q => n70 ((take1 rfl).mpr q)
    refine Rd.join (fun σ' H' => ∃ st : Nat, σ' = [some (.str (Rd.S t)), some (.int i), some (.int st), none, none] ∧ H' = H ∧ st ≤ t.length ∧ ((st = i ∧ t[i]? ≠ some 45) ∨ (st = i + 1 ∧ t[i]? = some 45))) ?_ ?_
    · intro N hN
      walk_at "rn"
      refine slS1 (by omega) hi ?_
      walk_at "rn"
      · rename_i h
        have h45 := (take1 rfl).mp h
        have := lt_of_at h45
        exact hN _ _ ⟨i + 1, rfl, rfl, by omega, .inr ⟨rfl, h45⟩⟩
      · rename_i h
        exact hN _ _ ⟨i, rfl, rfl, hi, .inl ⟨rfl, fun q => h ((take1 rfl).mpr q)⟩⟩
    rintro σ' H' ⟨st, rfl, rfl, hst, hc⟩
    obtain ⟨r, hr⟩ : ∃ r, t.drop st = r := ⟨_, rfl⟩
    have hrl : r.length = t.length - st := by rw [← hr, List.length_drop]
    have hdr : ∀ k, r.drop k = t.drop (st + k) := fun k => by rw [← hr, List.drop_drop]
    have hnt := nd_tw r
    have htl := tw_len r
    have hn60 := nd_le r
    walk_at "rnj"
    refine rngB (fun k' σ' H'' => ∃ c4, σ' = [some (.str (Rd.S t)), some (.int i), some (.int st), some (.int ((st : Int) + (k' : Int))), c4] ∧ H'' = H' ∧ k' ≤ Nt.nd r) (fun σ' H'' => ∃ c4, σ' = [some (.str (Rd.S t)), some (.int i), some (.int st), some (.int ((st : Int) + (Nt.nd r : Nat))), c4] ∧ H'' = H') (by omega) ⟨none, by simp, rfl, Nat.zero_le _⟩ ?_ ?_ ?_
    · rintro k' σ' H'' N hN hk ⟨c4, rfl, rfl, hkn⟩
      have stop : isd (r.drop k') = false ∨ (k' = 1 ∧ r.head? = some 48) → N [some (.str (Rd.S t)), some (.int i), some (.int st), some (.int ((st : Int) + (k' : Int))), some (.int (k' : Int))] H'' := fun q => by
        have e := nd_end hkn q
        exact hN _ _ ⟨_, by rw [← e], rfl⟩
      have hhd : r.head? = t[st]? := by rw [← hr]; exact head_drop
      walk_at "rn"
      · rename_i he
        exact stop (.inl (by rw [List.drop_of_length_le (by omega)]; rfl))
      · rename_i he
        have hlt : st + k' < t.length := by omega
        obtain ⟨c, hc'⟩ : ∃ c, t[st + k']? = some c := ⟨_, List.getElem?_eq_getElem hlt⟩
        refine ixS1 (by omega) hc' (by omega) ?_
        walk_at "rn"
        refine ⟨c, _, rfl, rfl, ?_⟩
        rw [dig_mem]
        cases hdg : dig c with
        | false =>
          refine ⟨true, rfl, ?_⟩
          simp only [if_true]
          walk_at "rn"
          refine stop (.inl ?_)
          rw [hdr, drop1 hc']
          exact hdg
        | true =>
          refine ⟨false, rfl, ?_⟩
          simp only [Bool.false_eq_true, if_false]
          have hid : isd (r.drop k') = true := by rw [hdr, drop1 hc']; exact hdg
          walk_at "rn"
          · rename_i h1
            have hk1 : k' = 1 := by omega
            subst hk1
            obtain ⟨c1, hc1⟩ : ∃ c, t[st]? = some c := ⟨_, List.getElem?_eq_getElem (by omega)⟩
            refine ixS1 (by omega) hc1 rfl ?_
            walk_at "rn"
            · rename_i h48
              refine stop (.inr ⟨rfl, ?_⟩)
              rw [hhd, hc1]
              simpa using h48
            · rename_i h48
              have hn := nd_next hkn (by omega) hid (fun q => h48 (by have := hhd.symm.trans q.2; rw [hc1] at this; cases this; rfl))
              exact ⟨_, by rw [Int.natCast_add]; rfl, rfl, hn⟩
          · rename_i h1
            have hn := nd_next hkn (by omega) hid (fun q => h1 (by omega))
            exact ⟨_, by rw [Int.natCast_add]; rfl, rfl, hn⟩
    · rintro σ' H'' ⟨c4, rfl, rfl, hkn⟩
      have e : ((60 : Int).toNat : Nat) = Nt.nd r := by have : (60 : Int).toNat = 60 := rfl; omega
      exact ⟨c4, by rw [e], rfl⟩
    · rintro σ' H'' ⟨c4, rfl, rfl⟩
      have hng : ∀ (h45 : t[i]? = some 45) (hs : st = i + 1), Nt.nd r = 0 ∨ t[st]? = some 48 → Atm t i (.inl st) := fun h45 hs q => by
        rw [hs] at q ⊢
        refine .ngx h45 fun c hc => ?_
        rcases q with q | q
        · have q3 := nd_zero q
          rw [← hr, hs] at q3
          have q4 := isd_no q3 c hc
          intro z
          rw [dig_iff.mpr ⟨by omega, z.2⟩] at q4
          cases q4
        · rw [q] at hc; cases hc; omega
      have hnum : 0 < Nt.nd r → ∃ m, Dg r m (r.drop (Nt.nd r)) ∧ r.take (Nt.nd r) = TL.numL m := fun h => Dg.of (nd_isd h)
      walk_at "rn"
      · rename_i h
        have h0 : Nt.nd r = 0 := by omega
        refine k _ (.inl ⟨st, ?_, rfl⟩)
        rcases hc with ⟨rfl, h45⟩ | ⟨e, h45⟩
        · have q := nd_zero h0
          rw [← hr] at q
          exact .bad fun c hc => ⟨isd_no q c hc, fun z => n84 (by rw [hc, z]), fun z => n70 (by rw [hc, z]), fun z => h45 (by rw [hc, z])⟩
        · exact hng h45 e (.inl h0)
      · rename_i h hlt
        obtain ⟨e, h45⟩ : st = i + 1 ∧ t[i]? = some 45 := by
          rcases hc with ⟨e, _⟩ | q
          · omega
          · exact q
        obtain ⟨c, hc1⟩ : ∃ c, t[st]? = some c := ⟨_, List.getElem?_eq_getElem (by omega)⟩
        refine ixS1 (by omega) hc1 rfl ?_
        walk_at "rn"
        · rename_i h48
          refine k _ (.inl ⟨st, hng h45 e (.inr ?_), rfl⟩)
          rw [hc1]
          simpa using h48
        · rename_i h48
          obtain ⟨m, hD, htk⟩ := hnum (by omega)
          have hm : 0 < m := by
            rcases Nat.eq_zero_or_pos m with q | q
            · subst q
              have e3 : t.drop st = 48 :: _ := hr.trans hD.e
              have e4 := (head_at e3).1
              rw [hc1] at e4
              cases e4
              exact absurd rfl h48
            · exact q
          have hl2 := hD.n
          rw [← hr, e] at hD
          exact k _ (.inr ⟨i + 1 + (TL.numL m).length, _, .neg h45 hD hm, by omega⟩)
      · rename_i h hlt
        obtain ⟨e, h45⟩ : st = i ∧ t[i]? ≠ some 45 := by
          rcases hc with q | ⟨e, _⟩
          · exact q
          · omega
        subst e
        obtain ⟨m, hD, htk⟩ := hnum (by omega)
        have hl2 := hD.n
        have hmi := (numL_int hD.lt).1
        have hid : isd (t.drop st) = true := by rw [hr]; exact nd_isd (by omega)
        have hD' : Dg (t.drop st) m (r.drop (Nt.nd r)) := by rw [hr]; exact hD
        have hu : t.drop (st + Nt.nd r) = r.drop (Nt.nd r) := (hdr _).symm
        have hsl : ∀ {Q : VK}, (Q (.str (Rd.S (TL.numL m))) H'') → rSlS (.str (Rd.S t)) (some (st : Int)) (some ((st : Int) + (Nt.nd r : Nat))) H'' Q := fun {Q} q => by
          refine slS2 (a := st) (b := st + Nt.nd r) rfl (by omega) (by omega) hst ?_
          rw [show st + Nt.nd r - st = Nt.nd r by omega, hr, htk]
          exact q
        have hml : (TL.numL m).length ≤ 60 := by omega
        refine slS1' (j := st + Nt.nd r) (by omega) (by omega) (by omega) ?_
        walk_at "rn"
        · rename_i h58
          refine k _ (.inr ⟨_, _, .num hD' (.inr fun q => h58 ?_) hid, by omega⟩)
          rw [← hu, head_drop] at q
          exact (take1 rfl).mpr q
        · rename_i h58
          have h58 := (take1 rfl).mp h58
          obtain ⟨u', hu'⟩ : ∃ u', r.drop (Nt.nd r) = 58 :: u' := ⟨_, by rw [← hu, drop1 h58]⟩
          have hul : u'.length = t.length - (st + Nt.nd r + 1) := by
            have := congrArg List.length (hu.trans hu')
            rw [List.length_drop, List.length_cons] at this
            omega
          rw [hu'] at hD'
          refine hsl ?_
          walk_at "rn"
          refine Rd.intS hmi (by omega) ?_
          walk_at "rn"
          · rename_i hm
            exact k _ (.inr ⟨_, _, .num hD' (.inl (by omega)) hid, by omega⟩)
          · rename_i hm
            refine hsl ?_
            walk_at "rn"
            refine Rd.intS hmi (by omega) ?_
            walk_at "rn"
            · rename_i hs
              have hl58 := lt_of_at h58
              have h1 : m ≤ 1000 := by omega
              have h2 : u'.length < m := by omega
              exact k _ (.inl ⟨t.length, .sho hD' h1 h2 hid, rfl⟩)
            · rename_i hs
              refine hsl ?_
              walk_at "rn"
              refine Rd.intS hmi (by omega) ?_
              walk_at "rn"
              exact k _ (.inr ⟨_, _, .str hD' (by omega) (by omega) hid, by omega⟩)
theorem ok_law_atom_end {f : Addr} {fd : FuncData} (mf : mg "_law_atom_end" = some (.ref f)) (F : FnP K "_law_atom_end" s_law_atom_end f fd)  (z_range : mg "range" = none) (z_len : mg "len" = none) (z_int : mg "int" = none) : Cal P w K mg base "_law_atom_end" 1 ["text", "at"] (sp_law_atom_end P w K) :=
  ⟨f, fd, mf, F.kp, F.bindsN fun _ _ _ _ _ _ us hl => match us, hl with | [_, _], _ => rfl, fn_law_atom_end F z_range z_len z_int⟩

theorem fn_law_odd {f : Addr} {fd : FuncData} (F : FnP K "_law_odd" s_law_odd f fd)  (z_int : mg "int" = none) : FnOk P w K mg base CX0 1 f fd ["number"] (sp_law_odd P w K) := by
  refine F.ok sc_law_odd (fun vs H Q E h => ?_) (fun cdv A outer s H vs Q E hr h => ?_)
  · obtain ⟨n, rfl, _⟩ := h; rfl
  · obtain ⟨n, rfl, k⟩ := h
    refine ⟨_, PSs.nox (pss_cons (ps_set (i := 1) sc_law_odd.nd rfl (by first | exact Or.inl rfl | exact Or.inr rfl) (pe_lst (pa_cons pe_str (pa_cons pe_str (pa_cons pe_str (pa_cons pe_str (pa_cons pe_str (pa_cons pe_str (pa_cons pe_str (pa_cons pe_str (pa_cons pe_str (pa_cons pe_str (pa_cons pe_str (pa_cons pe_str (pa_cons pe_str (pa_cons pe_str (pa_cons pe_str (pa_cons pe_str pa_nil))))))))))))))))))
      (pss_cons (ps_set (i := 1) sc_law_odd.nd rfl (by first | exact Or.inl rfl | exact Or.inr rfl) (pe_op op_cat (pv 1) (pe_lst (pa_cons (pe_op Rd.op_mulS pe_str pe_int) (pa_cons (pe_op Rd.op_mulS pe_str pe_int) (pa_cons (pe_op op_add_str pe_str (pe_op Rd.op_mulS pe_str pe_int)) (pa_cons (pe_op op_add_str pe_str (pe_op Rd.op_mulS pe_str pe_int)) (pa_cons (pe_op op_add_str pe_str (pe_op Rd.op_mulS pe_str pe_int)) (pa_cons pe_str (pa_cons pe_str (pa_cons pe_str pa_nil)))))))))))
      (pss_cons (ps_set (i := 1) sc_law_odd.nd rfl (by first | exact Or.inl rfl | exact Or.inr rfl) (pe_op op_cat (pv 1) (pe_lst (pa_cons (pe_op op_add_str pe_str (pe_op Rd.op_mulS pe_str pe_int)) (pa_cons (pe_op op_add_str pe_str (pe_op Rd.op_mulS pe_str pe_int)) (pa_cons (pe_op op_add_str pe_str (pe_op Rd.op_mulS pe_str pe_int)) (pa_cons (pe_op op_add_str pe_str (pe_op Rd.op_mulS pe_str pe_int)) pa_nil)))))))
      (pss_cons (ps_set (i := 1) sc_law_odd.nd rfl (by first | exact Or.inl rfl | exact Or.inr rfl) (pe_op op_cat (pv 1) (pe_lst (pa_cons (pe_op op_add_str (pe_op Rd.op_mulS pe_str pe_int) (pe_op Rd.op_mulS pe_str pe_int)) (pa_cons (pe_op op_add_str (pe_op Rd.op_mulS pe_str pe_int) (pe_op Rd.op_mulS pe_str pe_int)) (pa_cons (pe_op op_add_str (pe_op op_add_str (pe_op Rd.op_mulS pe_str pe_int) pe_str) (pe_op Rd.op_mulS pe_str pe_int)) (pa_cons (pe_op op_add_str (pe_op Rd.op_mulS pe_str pe_int) (pe_op Rd.op_mulS pe_str pe_int)) pa_nil)))))))
      (pss_one (ps_ret (pe_ix ix_list (pv 1) (pe_op op_mod (pe_callTy call_int1 (by rfl) z_int boot_int (pa_cons (pv 0) pa_nil)) pe_int) (fun _ _ => rfl)))))))), ?_⟩
    try simp only [Rd.cxK, Re.cxP, Re.cxW, lit_0, lit_1, lit_11, lit_17, lit_18, lit_19, lit_2, lit_20, lit_21, lit_22, lit_23, lit_24, lit_25, lit_26, lit_27, lit_28, lit_29, lit_30, lit_31, lit_32, lit_33, lit_34, lit_35, lit_36, lit_37, lit_38, lit_6, lit_7, lit_8, lit_9]
    walk_at "rn"
    rename_i x1 h1 x2 h2 x3 h3 x4 h4 x5 h5 x6 h6 x7 h7
    refine Rd.ixLmem (SqL.of upd_same) (Int.emod_nonneg _ (by omega)) ?_ (fun v hv => ?_)
    · exact lt_of_lt_of_eq (Int.emod_lt_of_pos n (by decide : (0 : Int) < 32)) rfl
    · have hV : GV v := by
        revert v hv
        refine allV_app (allV_app (allV_app ?_ ?_) ?_) ?_
        all_goals repeat' (first | exact allV_nil | refine allV_cons ?_ ?_)
        all_goals first
          | exact GV.of (by decide) (by decide)
          | exact GV.rep (by decide) (by decide)
          | exact GV.pre (by decide) (by decide) (by decide)
          | exact GV.two (by decide) (by decide) (by decide)
          | exact GV.mid (by decide) (by decide) (by decide) (by decide)
      obtain ⟨l, rfl, hg, hl⟩ := hV
      exact k l _ ((Rd.same_new h1).trans ((Rd.same_new h2).trans ((Rd.same_new h3).trans ((Rd.same_new h4).trans ((Rd.same_new h5).trans ((Rd.same_new h6).trans (Rd.same_new h7))))))) hg hl
theorem ok_law_odd {f : Addr} {fd : FuncData} (mf : mg "_law_odd" = some (.ref f)) (F : FnP K "_law_odd" s_law_odd f fd)  (z_int : mg "int" = none) : Cal P w K mg base "_law_odd" 1 ["number"] (sp_law_odd P w K) :=
  ⟨f, fd, mf, F.kp, F.bindsN fun _ _ _ _ _ _ us hl => match us, hl with | [_], _ => rfl, fn_law_odd F z_int⟩

theorem fn_law_spoilt {f : Addr} {fd : FuncData} (F : FnP K "_law_spoilt" s_law_spoilt f fd)  (z_int : mg "int" = none) (z_len : mg "len" = none) : FnOk P w K mg base CX0 1 f fd ["text", "way", "number"] (sp_law_spoilt P w K) := by
  refine F.ok sc_law_spoilt (fun vs H Q E h => ?_) (fun cdv A outer s H vs Q E hr h => ?_)
  · obtain ⟨l, x, y, rfl, _⟩ := h; rfl
  · obtain ⟨l, x, y, rfl, hl, hg, hx, hy, k⟩ := h
    refine ⟨_, PSs.nox (pss_cons (ps_set (i := 3) sc_law_spoilt.nd rfl (by first | exact Or.inl rfl | exact Or.inr rfl) (pe_ix ix_str pe_str (pe_op op_mod (pe_callTy call_int1 (by rfl) z_int boot_int (pa_cons (pe_op op_fdiv (pv 2) pe_int) pa_nil)) pe_int) (fun _ _ => rfl)))
      (pss_cons (ps_set (i := 4) sc_law_spoilt.nd rfl (by first | exact Or.inl rfl | exact Or.inr rfl) (pe_op op_mod (pe_callTy call_int1 (by rfl) z_int boot_int (pa_cons (pe_op op_add (pe_op op_mul (pv 2) pe_int) (pe_op op_fdiv (pv 2) pe_int)) pa_nil)) (pe_op op_add (pe_callB call_len_str (by rfl) z_len boot_len (pa_cons (pv 0) pa_nil)) pe_int)))
      (pss_cons (ps_if (pt_cmpR op_eq (pe_op op_mod (pv 1) pe_int) pe_int (nomark _)) (pss_one (ps_ret (pe_op op_add_str (pe_slice sl_str (pv 0) po_none (po_some (pv 4))) (pe_slice sl_str (pv 0) (po_some (pe_op op_add (pv 4) pe_int)) po_none)))) pss_nil)
      (pss_cons (ps_if (pt_cmpR op_eq (pe_op op_mod (pv 1) pe_int) pe_int (nomark _)) (pss_one (ps_ret (pe_op op_add_str (pe_op op_add_str (pe_slice sl_str (pv 0) po_none (po_some (pv 4))) (pv 3)) (pe_slice sl_str (pv 0) (po_some (pv 4)) po_none)))) pss_nil)
      (pss_cons (ps_if (pt_cmpR op_eq (pe_op op_mod (pv 1) pe_int) pe_int (nomark _)) (pss_one (ps_ret (pe_op op_add_str (pe_op op_add_str (pe_slice sl_str (pv 0) po_none (po_some (pv 4))) (pv 3)) (pe_slice sl_str (pv 0) (po_some (pe_op op_add (pv 4) pe_int)) po_none)))) pss_nil)
      (pss_cons (ps_if (pt_cmpR op_eq (pe_op op_mod (pv 1) pe_int) pe_int (nomark _)) (pss_one (ps_ret (pe_op op_add_str (pe_op op_add_str (pe_slice sl_str (pv 0) po_none (po_some (pv 4))) (pe_slice sl_str (pv 0) (po_some (pv 4)) (po_some (pe_op op_add (pv 4) pe_int)))) (pe_slice sl_str (pv 0) (po_some (pv 4)) po_none)))) pss_nil)
      (pss_cons (ps_if (pt_cmpR op_eq (pe_op op_mod (pv 1) pe_int) pe_int (nomark _)) (pss_one (ps_ret (pe_op op_add_str (pe_op op_add_str (pe_op op_add_str (pe_slice sl_str (pv 0) po_none (po_some (pv 4))) (pe_slice sl_str (pv 0) (po_some (pe_op op_add (pv 4) pe_int)) (po_some (pe_op op_add (pv 4) pe_int)))) (pe_slice sl_str (pv 0) (po_some (pv 4)) (po_some (pe_op op_add (pv 4) pe_int)))) (pe_slice sl_str (pv 0) (po_some (pe_op op_add (pv 4) pe_int)) po_none)))) pss_nil)
      (pss_one (ps_ret (pe_slice sl_str (pv 0) po_none (po_some (pv 4)))))))))))), ?_⟩
    try simp only [Rd.cxK, Re.cxP, Re.cxW, lit_39]
    walk_at "rn"
    refine Rd.ixSall (by decide) (Int.emod_nonneg _ (by omega)) (Int.emod_lt_of_pos _ (by decide)) (fun c hc => ?_)
    have hcc : ∀ c ∈ [40, 41, 48, 49, 50, 51, 52, 53, 54, 55, 56, 57, 58, 45, 32, 84, 70, 97], okc c = true := by decide
    have hc' := okc_iff.mp (hcc c hc)
    have hgc : GT [c] := fun x hx => by rw [List.mem_singleton.mp hx]; exact hc'
    obtain ⟨p, hp⟩ : ∃ p : Nat, (y * 31 + y / 18) % ((l.length : Int) + 1) = (p : Int) := ⟨((y * 31 + y / 18) % ((l.length : Int) + 1)).toNat, by have := Int.emod_nonneg (y * 31 + y / 18) (b := (l.length : Int) + 1) (by omega); omega⟩
    have hpl : p ≤ l.length := by have := Int.emod_lt_of_pos (y * 31 + y / 18) (b := (l.length : Int) + 1) (by omega); omega
    have t1 : (l.take p).length = p := by rw [List.length_take]; omega
    have d0 : (l.drop p).length = l.length - p := List.length_drop
    have d1 : (l.drop (p + 1)).length = l.length - (p + 1) := List.length_drop
    have d2 : (l.drop (p + 2)).length = l.length - (p + 2) := List.length_drop
    have m0 : ((l.drop p).take 1).length = min 1 (l.length - p) := by rw [List.length_take, List.length_drop]
    have m1 : ((l.drop (p + 1)).take 1).length = min 1 (l.length - (p + 1)) := by rw [List.length_take, List.length_drop]
    walk_at "rn"
    · rw [hp]
      refine slUp (b := p) rfl (by omega) ?_
      walk_at "rn"
      refine slFrom (a := p + 1) (by omega) (by omega) ?_
      walk_at "rn"
      exact k _ ((hg.take p).app (hg.drop (p + 1))) (by first | omega | (simp only [List.length_append, List.length_cons, List.length_nil]; omega))
    · rw [hp]
      refine slUp (b := p) rfl (by omega) ?_
      walk_at "rn"
      refine slFrom (a := p) (by omega) (by omega) ?_
      walk_at "rn"
      exact k _ (((hg.take p).app (hgc)).app (hg.drop p)) (by first | omega | (simp only [List.length_append, List.length_cons, List.length_nil]; omega))
    · rw [hp]
      refine slUp (b := p) rfl (by omega) ?_
      walk_at "rn"
      refine slFrom (a := p + 1) (by omega) (by omega) ?_
      walk_at "rn"
      exact k _ (((hg.take p).app (hgc)).app (hg.drop (p + 1))) (by first | omega | (simp only [List.length_append, List.length_cons, List.length_nil]; omega))
    · rw [hp]
      refine slUp (b := p) rfl (by omega) ?_
      walk_at "rn"
      refine slTwo (a := p) (b := p + 1) (by omega) (by omega) (by omega) ?_
      rw [show p + 1 - p = 1 by omega]
      walk_at "rn"
      refine slFrom (a := p) (by omega) (by omega) ?_
      walk_at "rn"
      exact k _ (((hg.take p).app ((hg.drop p).take 1)).app (hg.drop p)) (by first | omega | (simp only [List.length_append, List.length_cons, List.length_nil]; omega))
    · rw [hp]
      refine slUp (b := p) rfl (by omega) ?_
      walk_at "rn"
      refine slTwo (a := p + 1) (b := p + 2) (by omega) (by omega) (by omega) ?_
      rw [show p + 2 - (p + 1) = 1 by omega]
      walk_at "rn"
      refine slTwo (a := p) (b := p + 1) (by omega) (by omega) (by omega) ?_
      rw [show p + 1 - p = 1 by omega]
      walk_at "rn"
      refine slFrom (a := p + 2) (by omega) (by omega) ?_
      walk_at "rn"
      exact k _ ((((hg.take p).app ((hg.drop (p + 1)).take 1)).app ((hg.drop p).take 1)).app (hg.drop (p + 2))) (by first | omega | (simp only [List.length_append, List.length_cons, List.length_nil]; omega))
    · rw [hp]
      refine slUp (b := p) rfl (by omega) ?_
      walk_at "rn"
      exact k _ (hg.take p) (by first | omega | (simp only [List.length_append, List.length_cons, List.length_nil]; omega))
theorem ok_law_spoilt {f : Addr} {fd : FuncData} (mf : mg "_law_spoilt" = some (.ref f)) (F : FnP K "_law_spoilt" s_law_spoilt f fd)  (z_int : mg "int" = none) (z_len : mg "len" = none) : Cal P w K mg base "_law_spoilt" 1 ["text", "way", "number"] (sp_law_spoilt P w K) :=
  ⟨f, fd, mf, F.kp, F.bindsN fun _ _ _ _ _ _ us hl => match us, hl with | [_, _, _], _ => rfl, fn_law_spoilt F z_int z_len⟩

theorem fn_Scanner_skip {fd : FuncData} (F : FunD K "skip" "Scanner.skip" (defArgs s_Scanner_skip) (defBody s_Scanner_skip) (defScope s_Scanner_skip) [] [] (He.fAd K ("Scanner", some "skip")) fd) (C_Scanner_char : CalM P w K mg base (He.fAd K ("Scanner", some "char")) 1 ["self"] [] (sp_Scanner_char P w K))  (W_Scanner : CF_Scanner K mg) : FnOk P w K mg base CX0 2 (He.fAd K ("Scanner", some "skip")) fd ["self", "char"] (sp_Scanner_skip P w K) := by
  obtain ⟨fd_Scanner_char, b_Scanner_char, G_Scanner_char, ds_Scanner_char, dr_Scanner_char, db_Scanner_char⟩ := C_Scanner_char.ex
  have cf_Scanner := W_Scanner
  have cfc_Scanner := cf_Scanner.cls
  have cfn_Scanner_at := cf_Scanner.n_at
  refine F.ok sc_Scanner_skip (fun vs H Q E h => ?_) (fun cdv A outer s H vs Q E hr h => ?_)
  · obtain ⟨s, dx, t, i, r, c, rfl, _⟩ := h; rfl
  · obtain ⟨s, dx, t, i, r, c, rfl, hs, hr1, hl, k⟩ := h
    refine ⟨_, PSs.nox (pss_cons (ps_if (pt_cmpR op_ne (pe_meth0 (pv 0) cf_Scanner.cls cf_Scanner.mt_char G_Scanner_char (hr.mono (by decide)) b_Scanner_char .nil pass0) (pv 1) (nomark _)) (pss_one (ps_ret pe_bl)) pss_nil)
      (pss_cons (ps_fldaug (pv 0) pe_int in_add)
      (pss_one (ps_ret pe_bl)))), ?_⟩
    try simp only [Rd.cxK, Re.cxP, Re.cxW]
    obtain ⟨k1, k2⟩ := k
    walk_at "rd"
    · rename_i h
      exact k2 h
    · rename_i h
      exact k1 _ h (Adv.step0 hs (j := i + 1) rfl)
theorem ok_Scanner_skip {fd : FuncData} (F : FunD K "skip" "Scanner.skip" (defArgs s_Scanner_skip) (defBody s_Scanner_skip) (defScope s_Scanner_skip) [] [] (He.fAd K ("Scanner", some "skip")) fd) (C_Scanner_char : CalM P w K mg base (He.fAd K ("Scanner", some "char")) 1 ["self"] [] (sp_Scanner_char P w K))  (W_Scanner : CF_Scanner K mg) : CalM P w K mg base (He.fAd K ("Scanner", some "skip")) 2 ["self", "char"] [] (sp_Scanner_skip P w K) :=
  ⟨fd, F.bindsN fun _ _ _ _ _ _ us hl => match us, hl with | [_, _], _ => rfl, fn_Scanner_skip F C_Scanner_char W_Scanner, [], .nil, F.bindsN fun _ _ _ _ _ _ us hl => match us, hl with | [_, _], _ => rfl⟩

theorem fn_digits {f : Addr} {fd : FuncData} (F : FnP K "_digits" s_digits f fd) (C_Scanner_char : CalM P w K mg base (He.fAd K ("Scanner", some "char")) 1 ["self"] [] (sp_Scanner_char P w K)) (C_is_digit : Cal P w K mg base "_is_digit" 1 ["char"] (sp_is_digit P w K)) (z_int : mg "int" = none) (W_Scanner : CF_Scanner K mg) (W__MOST_DIGITS : ∃ t, mg "_MOST_DIGITS" = some (.int 60 t)) : FnOk P w K mg base CX0 2 f fd ["scanner"] (sp_digits P w K) := by
  obtain ⟨fd_Scanner_char, b_Scanner_char, G_Scanner_char, ds_Scanner_char, dr_Scanner_char, db_Scanner_char⟩ := C_Scanner_char.ex
  obtain ⟨f_is_digit, fd_is_digit, m_is_digit, k_is_digit, b_is_digit, G_is_digit⟩ := C_is_digit.ex
  have cf_Scanner := W_Scanner
  have cfc_Scanner := cf_Scanner.cls
  have cfn_Scanner_at := cf_Scanner.n_at
  have cfn_Scanner_text := cf_Scanner.n_text
  obtain ⟨t__MOST_DIGITS, g__MOST_DIGITS⟩ := W__MOST_DIGITS; have g__MOST_DIGITS_r : RelV (.int 60) (.int 60 t__MOST_DIGITS) := ⟨_, rfl⟩
  refine F.ok sc_digits (fun vs H Q E h => ?_) (fun cdv A outer s H vs Q E hr h => ?_)
  · obtain ⟨s, dx, t, i, r, rfl, _⟩ := h; rfl
  · obtain ⟨s, dx, t, i, r, rfl, hs, hr1, hl, hd, k⟩ := h
    refine ⟨_, PSs.nox (pss_cons (ps_set (i := 1) sc_digits.nd rfl (by first | exact Or.inl rfl | exact Or.inr rfl) (pe_fld (pv 0) rfl))
      (pss_cons (ps_set (i := 2) sc_digits.nd rfl (by first | exact Or.inl rfl | exact Or.inr rfl) (pe_ifExp (pt_cmpR op_eq (pe_meth0 (pv 0) cf_Scanner.cls cf_Scanner.mt_char G_Scanner_char (hr.mono (by decide)) b_Scanner_char .nil pass0) pe_str (nomark _)) pe_int (pe_glob (by rfl) g__MOST_DIGITS g__MOST_DIGITS_r)))
      (pss_cons (ps_while PassesOwn.never (PW.pt (pw_and (pt_val (pe_call G_is_digit (hr.mono (by decide)) (by rfl) m_is_digit k_is_digit b_is_digit .nil pass0 (pa_cons (pe_meth0 (pv 0) cf_Scanner.cls cf_Scanner.mt_char G_Scanner_char (hr.mono (by decide)) b_Scanner_char .nil pass0) pa_nil))) (pw_and1 (pt_cmpR op_lt (pe_fld (pv 0) rfl) (pe_op op_add (pv 1) (pv 2)) (nomark _))))) (pss_one (ps_fldaug (pv 0) pe_int in_add)))
      (pss_one (ps_ret (pe_callTy call_int_str (by rfl) z_int boot_int (pa_cons (pe_slice sl_str (pe_fld (pv 0) rfl) (po_some (pv 1)) (po_some (pe_fld (pv 0) rfl))) pa_nil))))))), ?_⟩
    try simp only [Rd.cxK, Re.cxP, Re.cxW, lit_8]
    obtain ⟨m, hD, htk⟩ := Dg.of hd
    have hmi := (numL_int hD.lt).1
    have hnd := hD.n
    have hle := nd_le r
    obtain ⟨c0, r0, he⟩ : ∃ c r', r = c :: r' := by
      cases r with
      | nil => cases hd
      | cons c r' => exact ⟨c, r', rfl⟩
    have h0 : dig c0 = true := by rw [he] at hd; exact hd
    walk_at "rnj"
    refine ⟨_, ?u1_dx, ?u1_t, ?u1_i, ?u1_r, rfl, ?u1_p0, ?u1_p1, ?u1_p2, ?_⟩
    case u1_p0 => walk_at "pre"
    case u1_p1 => walk_at "pre"
    case u1_p2 => walk_at "pre"
    rw [he, show List.take 1 (c0 :: r0) = [c0] from rfl]
    walk_at "rd1"
    walk_at "rd1"
    walk_at "rd1"
    refine iteC (fun M => (M = 1 ∧ c0 = 48) ∨ (M = 60 ∧ c0 ≠ 48)) (fun h => .inl ⟨rfl, by simpa using h⟩) (fun h => .inr ⟨rfl, fun q => h (by rw [q])⟩) fun M hM => ?_
    have hnM : (nd r : Int) ≤ M ∧ nd r ≤ tw r ∧ ((nd r : Int) = M ∨ nd r = tw r) := by
      rcases hM with ⟨rfl, q⟩ | ⟨rfl, q⟩
      · have e : nd r = 1 := by rw [he, q]; simp [Nt.nd]
        have ht : tw r = tw r0 + 1 := by rw [he]; simp [tw, h0]
        rw [e, ht]
        exact ⟨by omega, by omega, .inl rfl⟩
      · have e : nd r = min 60 (tw r) := by unfold Nt.nd; rw [if_neg (by rw [he]; simpa using q)]; rfl
        rw [e]
        omega
    refine Rd.whl (fun mm σ' H' => ∃ j : Nat, mm = nd r - j ∧ j ≤ nd r ∧ σ' = [some (.ref s), some (.int i), some (.int M)] ∧ Adv K s dx t (i + j) H H') ⟨_, 0, rfl, Nat.zero_le _, rfl, Adv.refl hs⟩ ?_
    rintro mm σ' H' ⟨j, rfl, hj, rfl, ad⟩
    have hs2 := ad.sc
    have hr2 : t.drop (i + j) = r.drop j := by rw [← List.drop_drop, hr1]
    walk_at "rnj"
    refine ⟨_, ?u2_dx, ?u2_t, ?u2_i, ?u2_r, rfl, ?u2_p0, ?u2_p1, ?u2_p2, ?_⟩
    case u2_p0 => walk_at "pre"
    case u2_p1 => walk_at "pre"
    case u2_p2 => walk_at "pre"
    walk_at "rn"
    refine ⟨_, rfl, ?_⟩
    rw [tw_drop r j (by omega)]
    by_cases hlt : j < nd r
    · rw [decide_eq_true (by omega : j < tw r)]
      walk_at "rd"
      refine ⟨_, ?_, j + 1, rfl, hlt, rfl, ad.step (by omega)⟩
      omega
    · have hj2 : j = nd r := by omega
      subst hj2
      have hb := drop_bd (hr1.trans hD.e) (TL.numL_ne m)
      have hfin : (rSlS (V.str (Rd.S t)) (some (i : Int)) (some ((i + Nt.nd r : Nat) : Int)) H' fun x H1 => Rd.IntSK [x] H1 Q) := by
        refine slS2 rfl rfl hl (by omega) ?_
        rw [show i + Nt.nd r - i = Nt.nd r by omega, hr1, htk]
        exact Rd.intS hmi (by omega) (k _ _ _ hD (by rw [hnd]; exact ad))
      by_cases hq : Nt.nd r < tw r
      · rw [decide_eq_true hq]
        walk_at "rd"
        exact hfin
      · rw [decide_eq_false hq]
        walk_at "rd"
        exact hfin
theorem ok_digits {f : Addr} {fd : FuncData} (mf : mg "_digits" = some (.ref f)) (F : FnP K "_digits" s_digits f fd) (C_Scanner_char : CalM P w K mg base (He.fAd K ("Scanner", some "char")) 1 ["self"] [] (sp_Scanner_char P w K)) (C_is_digit : Cal P w K mg base "_is_digit" 1 ["char"] (sp_is_digit P w K)) (z_int : mg "int" = none) (W_Scanner : CF_Scanner K mg) (W__MOST_DIGITS : ∃ t, mg "_MOST_DIGITS" = some (.int 60 t)) : Cal P w K mg base "_digits" 2 ["scanner"] (sp_digits P w K) :=
  ⟨f, fd, mf, F.kp, F.bindsN fun _ _ _ _ _ _ us hl => match us, hl with | [_], _ => rfl, fn_digits F C_Scanner_char C_is_digit z_int W_Scanner W__MOST_DIGITS⟩

theorem fn_law_tape {f : Addr} {fd : FuncData} (F : FnP K "_law_tape" s_law_tape f fd) (C_law_numbers : Cal P w K mg base "_law_numbers" 1 ["cell", "many"] (sp_law_numbers P w K)) (C_law_cell : Cal P w K mg base "_law_cell" 1 ["script", "k"] (sp_law_cell P w K))  : FnOk P w K mg base CX0 2 f fd ["script", "first", "others"] (sp_law_tape P w K) := by
  obtain ⟨f_law_numbers, fd_law_numbers, m_law_numbers, k_law_numbers, b_law_numbers, G_law_numbers⟩ := C_law_numbers.ex
  obtain ⟨f_law_cell, fd_law_cell, m_law_cell, k_law_cell, b_law_cell, G_law_cell⟩ := C_law_cell.ex
  refine F.ok sc_law_tape (fun vs H Q E h => ?_) (fun cdv A outer s H vs Q E hr h => ?_)
  · obtain ⟨a, ns, f, o, rfl, _⟩ := h; rfl
  · obtain ⟨a, ns, f, o, rfl, hS, h63, hbt, hf, k⟩ := h
    refine ⟨_, PSs.nox (pss_cons (ps_set (i := 3) sc_law_tape.nd rfl (by first | exact Or.inl rfl | exact Or.inr rfl) (pe_call G_law_numbers (hr.mono (by decide)) (by rfl) m_law_numbers k_law_numbers b_law_numbers .nil pass0 (pa_cons (pe_call G_law_cell (hr.mono (by decide)) (by rfl) m_law_cell k_law_cell b_law_cell .nil pass0 (pa_cons (pv 0) (pa_cons pe_int pa_nil))) (pa_cons (pv 1) pa_nil))))
      (pss_cons (ps_for PassesOwn.never rfl (pi_list (pe_slice sl_list (pv 0) (po_some pe_int) po_none)) (pg_name (i := 4) sc_law_tape.nd rfl (by first | exact Or.inl rfl | exact Or.inr rfl)) (pss_one (ps_set (i := 3) sc_law_tape.nd rfl (by first | exact Or.inl rfl | exact Or.inr rfl) (pe_op op_cat (pv 3) (pe_call G_law_numbers (hr.mono (by decide)) (by rfl) m_law_numbers k_law_numbers b_law_numbers .nil pass0 (pa_cons (pv 4) (pa_cons (pv 2) pa_nil)))))))
      (pss_one (ps_ret (pv 3))))), ?_⟩
    try simp only [Rd.cxK, Re.cxP, Re.cxW]
    walk_at "rn"
    refine ⟨_, ?u4_ns, _, rfl, ?u4_p0, ?u4_p1, ?u4_p2, fun z0 hz0 => ?_⟩
    case u4_p0 => walk_at "pre"
    case u4_p1 => walk_at "pre"
    case u4_p2 => walk_at "pre"
    walk_at "rn"
    refine ⟨_, _, rfl, ?u5_p0, fun p nums H1 s1 hp hn hl hb3 => ?_⟩
    case u5_p0 => walk_at "pre"
    obtain ⟨ms, ems, hml, hms⟩ := cut_ints (ns := ns) (lo := some 1) (hi := none)
    walk_at "rn"
    rename_i q hq
    rw [ems]
    have s2 : Same H1 (upd H1 q (.lst (ms.map V.int))) := Rd.same_new hq
    have hq1 : SqL K (upd H1 q (.lst (ms.map V.int))) q (ms.map V.int) := SqL.of upd_same
    have hn1 := s2 _ _ hn
    have hp0 := hp
    generalize upd H1 q (.lst (ms.map V.int)) = H2 at *
    refine Rd.forL (fun i σ' H' => ∃ (r : Addr) (nu : List Int), ∃ c4,  σ' = [some (.ref a), some (.int f), some (.int o), some (.ref r), c4] ∧ Same H2 H' ∧ H' r = some (.lst (nu.map V.int)) ∧ nu.length = f.toNat + i * o.toNat ∧ B3 nu ∧ H r = none) hq1 ⟨p, nums, _,  rfl, Same.refl _, hn1, by omega, hb3, hp0⟩ (fun i σ' H' _ ⟨_, _, c4,  _, h, _⟩ => h.seq hq1) ?_ ?_
    · rintro i x σ' H' hi ⟨r, nu, c4,  rfl, hs, hr, hl, hb, hr0⟩
      rw [List.getElem?_map] at hi
      obtain ⟨z, hz, rfl⟩ := Option.map_eq_some_iff.mp hi
      have hil : i < ms.length := (List.getElem?_eq_some_iff.mp hz).1
      walk_at "rn"
      refine ⟨_, _, rfl, ?u6_p0, fun p2 nu2 H3 s3 hp2 hn2 hl2 hb32 => ?_⟩
      case u6_p0 => walk_at "pre"
      have hr3 := s3 _ _ hr
      have ho : i * o.toNat ≤ 63 * 100 := Nat.mul_le_mul (by omega) (by omega)
      refine Rd.catL hr3 hn2 (by simp only [List.length_map]; omega) fun q2 hq2 => ?_
      rw [← List.map_append]
      exact ⟨q2, nu ++ nu2, _,  rfl, (hs.trans s3).trans (Rd.same_new hq2), upd_same, by rw [List.length_append, Nat.succ_mul]; omega, fun x hx => (List.mem_append.mp hx).elim (hb x) (hb32 x), ((s1.trans s2).trans (hs.trans s3)).free hq2⟩
    · rintro σ' H' ⟨r, nu, c4,  rfl, hs, hr, hl, hb, hr0⟩
      walk_at "rn"
      rw [List.length_map] at hl
      exact k r nu H' (s1.trans (s2.trans hs)) hr0 hr (by rw [hl]; exact Nat.add_le_add_left (Nat.mul_le_mul_right _ (by omega)) _) (by omega) hb
theorem ok_law_tape {f : Addr} {fd : FuncData} (mf : mg "_law_tape" = some (.ref f)) (F : FnP K "_law_tape" s_law_tape f fd) (C_law_numbers : Cal P w K mg base "_law_numbers" 1 ["cell", "many"] (sp_law_numbers P w K)) (C_law_cell : Cal P w K mg base "_law_cell" 1 ["script", "k"] (sp_law_cell P w K))  : Cal P w K mg base "_law_tape" 2 ["script", "first", "others"] (sp_law_tape P w K) :=
  ⟨f, fd, mf, F.kp, F.bindsN fun _ _ _ _ _ _ us hl => match us, hl with | [_, _, _], _ => rfl, fn_law_tape F C_law_numbers C_law_cell⟩

theorem fn_law_text {f : Addr} {fd : FuncData} (F : FnP K "_law_text" s_law_text f fd) (C_law_char : Cal P w K mg base "_law_char" 1 ["number"] (sp_law_char P w K)) (z_int : mg "int" = none) (z_range : mg "range" = none) : FnOk P w K mg base CX0 2 f fd ["number", "size"] (sp_law_text P w K) := by
  obtain ⟨f_law_char, fd_law_char, m_law_char, k_law_char, b_law_char, G_law_char⟩ := C_law_char.ex
  refine F.ok sc_law_text (fun vs H Q E h => ?_) (fun cdv A outer s H vs Q E hr h => ?_)
  · obtain ⟨i, j, rfl, _⟩ := h; rfl
  · obtain ⟨i, j, rfl, hi, hj, k⟩ := h
    refine ⟨_, PSs.nox (pss_cons (ps_if (pt_cmpR op_eq (pe_op op_mod (pv 0) pe_int) pe_int (nomark _)) (pss_one (ps_ret (Ez.pe_joinK pe_str (pe_lc (own := [("k", 2)]) (g := gName 2) (tt := tYes) rfl sc_law_text.nd (pi_range1 (by rfl) z_range (pa_cons (pv 1) pa_nil)) (blkOk_by (N := N_law_text) (sc := defScope s_law_text) (by decide +kernel)) (fun _ _ _ _ _ => pg_name (i := 2) sc_law_text.nd rfl (by first | exact Or.inl rfl | exact Or.inr rfl)) (fun _ _ _ _ _ => pts_nil) (fun _ _ _ _ _ => (pe_ix ix_str pe_str (pe_op op_mod (pe_callTy call_int1 (by rfl) z_int boot_int (pa_cons (pe_op op_add (pe_op op_fdiv (pv 0) pe_int) (pe_op op_mul (pv 2) (pe_op op_add (pe_op op_fdiv (pv 0) pe_int) pe_int))) pa_nil)) pe_int) (fun _ _ => rfl))))))) pss_nil)
      (pss_one (ps_ret (Ez.pe_joinK pe_str (pe_lc (own := [("k", 2)]) (g := gName 2) (tt := tYes) rfl sc_law_text.nd (pi_range1 (by rfl) z_range (pa_cons (pv 1) pa_nil)) (blkOk_by (N := N_law_text) (sc := defScope s_law_text) (by decide +kernel)) (fun _ _ _ _ _ => pg_name (i := 2) sc_law_text.nd rfl (by first | exact Or.inl rfl | exact Or.inr rfl)) (fun _ _ _ _ _ => pts_nil) (fun _ _ _ _ _ => (pe_call G_law_char (hr.mono (by decide)) (by rfl) m_law_char k_law_char b_law_char .nil pass0 (pa_cons (pe_op op_add (pv 0) (pe_op op_mul (pv 2) (pe_op op_add (pe_op op_fdiv (pv 0) pe_int) pe_int))) pa_nil)))))))), ?_⟩
    try simp only [Rd.cxK, Re.cxP, Re.cxW, lit_0, lit_14]
    walk_at "rn"
    · refine Rd.lcR1 (fun D i acc H' => ∃ cs : List Nat, acc = cs.map (fun c => V.str (Rd.S [c])) ∧ cs.length = i ∧ ∀ c ∈ cs, 32 ≤ c ∧ c ≤ 126 ∧ c ≠ 37) (by omega) (fun D H' _ _ _ => ⟨[], rfl, rfl, by simp⟩) ?_ ?_
      · rintro i acc D H' hD s hi hl hDl ⟨cs, rfl, hcl, hcs⟩
        walk_at "rn"
        refine Rd.ixSall (by decide) (Int.emod_nonneg _ (by omega)) (Int.emod_lt_of_pos _ (by decide)) (fun c hc => ?_)
        have hcc : 32 ≤ c ∧ c ≤ 126 ∧ c ≠ 37 := by revert c; decide
        exact Rd.lcE hD hDl s hl (by omega) ⟨cs ++ [c], by simp, by simp [hcl], fun x hx => by
          rcases List.mem_append.mp hx with h | h
          · exact hcs x h
          · rw [List.mem_singleton.mp h]; exact hcc⟩
      · rintro D acc H2 hD s hDl hal ⟨cs, rfl, hcl, hcs⟩
        have e1 : (cs.map fun c => V.str (Rd.S [c])) = (cs.map fun c => [c]).map fun y => V.str (Rd.S y) := by rw [List.map_map]; rfl
        rw [e1] at hDl
        refine joinS (SqL.of hDl) (joinOk (by omega)) ?_
        rw [joinE]; exact k cs _ s (gs_of (by omega) hcs)
    · refine Rd.lcR1 (fun D i acc H' => ∃ cs : List Nat, acc = cs.map (fun c => V.str (Rd.S [c])) ∧ cs.length = i ∧ ∀ c ∈ cs, 32 ≤ c ∧ c ≤ 126 ∧ c ≠ 37) (by omega) (fun D H' _ _ _ => ⟨[], rfl, rfl, by simp⟩) ?_ ?_
      · rintro i acc D H' hD s hi hl hDl ⟨cs, rfl, hcl, hcs⟩
        walk_at "rn"
        refine ⟨_, rfl, fun c hc => ?_⟩
        exact Rd.lcE hD hDl s hl (by omega) ⟨cs ++ [c], by simp, by simp [hcl], fun x hx => by
          rcases List.mem_append.mp hx with h | h
          · exact hcs x h
          · rw [List.mem_singleton.mp h]; exact hc⟩
      · rintro D acc H2 hD s hDl hal ⟨cs, rfl, hcl, hcs⟩
        have e1 : (cs.map fun c => V.str (Rd.S [c])) = (cs.map fun c => [c]).map fun y => V.str (Rd.S y) := by rw [List.map_map]; rfl
        rw [e1] at hDl
        refine joinS (SqL.of hDl) (joinOk (by omega)) ?_
        rw [joinE]; exact k cs _ s (gs_of (by omega) hcs)
theorem ok_law_text {f : Addr} {fd : FuncData} (mf : mg "_law_text" = some (.ref f)) (F : FnP K "_law_text" s_law_text f fd) (C_law_char : Cal P w K mg base "_law_char" 1 ["number"] (sp_law_char P w K)) (z_int : mg "int" = none) (z_range : mg "range" = none) : Cal P w K mg base "_law_text" 2 ["number", "size"] (sp_law_text P w K) :=
  ⟨f, fd, mf, F.kp, F.bindsN fun _ _ _ _ _ _ us hl => match us, hl with | [_, _], _ => rfl, fn_law_text F C_law_char z_int z_range⟩

theorem fn_law_fault {f : Addr} {fd : FuncData} (F : FnP K "_law_fault" s_law_fault f fd) (C_law_atom_end : Cal P w K mg base "_law_atom_end" 1 ["text", "at"] (sp_law_atom_end P w K)) (z_range : mg "range" = none) (z_len : mg "len" = none) : FnOk P w K mg base CX0 2 f fd ["text"] (sp_law_fault P w K) := by
  obtain ⟨f_law_atom_end, fd_law_atom_end, m_law_atom_end, k_law_atom_end, b_law_atom_end, G_law_atom_end⟩ := C_law_atom_end.ex
  refine F.ok sc_law_fault (fun vs H Q E h => ?_) (fun cdv A outer s H vs Q E hr h => ?_)
  · obtain ⟨t, rfl, _⟩ := h; rfl
  · obtain ⟨t, rfl, hl, hg, k⟩ := h
    refine ⟨_, PSs.nox (pss_cons (ps_set (i := 1) sc_law_fault.nd rfl (by first | exact Or.inl rfl | exact Or.inr rfl) pe_int)
      (pss_cons (ps_set (i := 2) sc_law_fault.nd rfl (by first | exact Or.inl rfl | exact Or.inr rfl) pe_int)
      (pss_cons (ps_for PassesOwn.never rfl (pi_range1 (by rfl) z_range (pa_cons (pe_op op_add (pe_callB call_len_str (by rfl) z_len boot_len (pa_cons (pv 0) pa_nil)) pe_int) pa_nil)) (pg_name (i := 3) sc_law_fault.nd rfl (by first | exact Or.inl rfl | exact Or.inr rfl)) (pss_cons (ps_set (i := 4) sc_law_fault.nd rfl (by first | exact Or.inl rfl | exact Or.inr rfl) (pe_cmpR op_eq (pe_slice sl_str (pv 0) (po_some (pv 1)) (po_some (pe_op op_add (pv 1) pe_int))) pe_str (nomark _)))
      (pss_cons (ps_if (PW.pt (pw_and (pt_val (pv 4)) (pw_and1 (pt_cmpR op_eq (pv 2) pe_int (nomark _))))) (pss_one (ps_ret (pv 1))) pss_nil)
      (pss_cons (ps_if (pt_val (pv 4)) (pss_cons (ps_set (i := 2) sc_law_fault.nd rfl (by first | exact Or.inl rfl | exact Or.inr rfl) (pe_op op_add (pv 2) pe_int))
      (pss_one (ps_set (i := 1) sc_law_fault.nd rfl (by first | exact Or.inl rfl | exact Or.inr rfl) (pe_op op_add (pv 1) pe_int)))) (pss_cons (ps_set (i := 6) sc_law_fault.nd rfl (by first | exact Or.inl rfl | exact Or.inr rfl) (pe_call G_law_atom_end (hr.mono (by decide)) (by rfl) m_law_atom_end k_law_atom_end b_law_atom_end .nil pass0 (pa_cons (pv 0) (pa_cons (pv 1) pa_nil))))
      (pss_cons (ps_if (pt_cmpR op_lt (pv 6) pe_int (nomark _)) (pss_one (ps_ret (pe_op op_sub (pe_un un_neg pe_int) (pv 6)))) pss_nil)
      (pss_one (ps_set (i := 1) sc_law_fault.nd rfl (by first | exact Or.inl rfl | exact Or.inr rfl) (pv 6))))))
      (pss_cons (ps_if (PW.pt (pw_and (pt_val (pv 4)) (pw_and1 (pt_cmpR op_ne (pe_slice sl_str (pv 0) (po_some (pv 1)) (po_some (pe_op op_add (pv 1) pe_int))) pe_str (nomark _))))) (pss_one ps_continue) pss_nil)
      (pss_cons (ps_for PassesOwn.never rfl (pi_range1 (by rfl) z_range (pa_cons (pv 2) pa_nil)) (pg_name (i := 5) sc_law_fault.nd rfl (by first | exact Or.inl rfl | exact Or.inr rfl)) (pss_one (ps_if (pt_cmpR op_eq (pe_slice sl_str (pv 0) (po_some (pv 1)) (po_some (pe_op op_add (pv 1) pe_int))) pe_str (nomark _)) (pss_cons (ps_set (i := 2) sc_law_fault.nd rfl (by first | exact Or.inl rfl | exact Or.inr rfl) (pe_op op_sub (pv 2) pe_int))
      (pss_one (ps_set (i := 1) sc_law_fault.nd rfl (by first | exact Or.inl rfl | exact Or.inr rfl) (pe_op op_add (pv 1) pe_int)))) pss_nil)))
      (pss_cons (ps_if (PW.pt (pw_and (pt_cmpR op_eq (pv 2) pe_int (nomark _)) (pw_and1 (pt_cmpR op_eq (pv 1) (pe_callB call_len_str (by rfl) z_len boot_len (pa_cons (pv 0) pa_nil)) (nomark _))))) (pss_one (ps_ret (pe_un un_neg pe_int))) pss_nil)
      (pss_cons (ps_if (PW.pt (pw_or (pt_cmpR op_eq (pv 2) pe_int (nomark _)) (pw_or1 (pt_cmpR op_ne (pe_slice sl_str (pv 0) (po_some (pv 1)) (po_some (pe_op op_add (pv 1) pe_int))) pe_str (nomark _))))) (pss_one (ps_ret (pv 1))) pss_nil)
      (pss_one (ps_set (i := 1) sc_law_fault.nd rfl (by first | exact Or.inl rfl | exact Or.inr rfl) (pe_op op_add (pv 1) pe_int)))))))))))
      (pss_one (ps_ret pe_int))))), ?_⟩
    try simp only [Rd.cxK, Re.cxP, Re.cxW, lit_1, lit_11, lit_9]
    walk_at "rn"
    refine Rd.rng1 (fun i σ' H' => ∃ (a d : Nat) (c3 c4 c5 c6 : Option V), σ' = [some (.str (Rd.S t)), some (.int a), some (.int d), c3, c4, c5, c6] ∧ H' = H ∧ i ≤ a ∧ a ≤ t.length ∧ d ≤ 12 ∧ ∀ r, Nt.Run t false a d r → Nt.Run t false 0 0 r) (by omega) ⟨0, 0, _, _, _, _, rfl, rfl, Nat.le_refl _, Nat.zero_le _, by omega, fun r h => h⟩ ?_ ?_
    · rintro i σ' H' hi ⟨a, d, c3, c4, c5, c6, rfl, rfl, hia, hal, hd12, hR⟩
      walk_at "rnj"
      refine slS1 (by omega) hal ?_
      obtain ⟨op, hop⟩ : ∃ op, op = decide ((t.drop a).take 1 = [40]) := ⟨_, rfl⟩
      have hopt : op = true → t[a]? = some 40 := fun q => (take1 rfl).mp (of_decide_eq_true (hop.symm.trans q))
      have hopf : op = false → t[a]? ≠ some 40 := fun q z => of_decide_eq_false (hop.symm.trans q) ((take1 rfl).mpr z)
      walk_at "rnj"
      rw [← hop]
      clear hop
      refine Rd.join (fun σ' H'' => σ' = [some (.str (Rd.S t)), some (.int a), some (.int d), some (.int i), some (.bl op), c5, c6] ∧ H'' = H' ∧ (op = true → d < 12)) ?_ ?_
      · intro N hN
        cases op with
        | true =>
          walk_at "rn"
          · rename_i h12
            have e : d = 12 := by omega
            subst e
            exact k _ (.inl ⟨a, hR _ (.deep (hopt rfl)), rfl⟩)
          · rename_i h12
            exact hN _ _ ⟨rfl, rfl, fun _ => by omega⟩
        | false =>
          walk_at "rn"
          exact hN _ _ ⟨rfl, rfl, fun q => nomatch q⟩
      rintro σ' H'' ⟨rfl, rfl, hlt12⟩
      refine Rd.join (fun σ' H3 => ∃ (a2 d2 : Nat) (c6 : Option V), σ' = [some (.str (Rd.S t)), some (.int a2), some (.int d2), some (.int i), some (.bl op), c5, c6] ∧ H3 = H'' ∧ i + 1 ≤ a2 ∧ a2 ≤ t.length ∧ d2 ≤ 12 ∧ (op = true → t[a2]? ≠ some 41 → ∀ r, Nt.Run t false a2 d2 r → Nt.Run t false 0 0 r) ∧ (op = true → t[a2]? = some 41 → ∀ r, Nt.Run t true a2 d2 r → Nt.Run t false 0 0 r) ∧ (op = false → ∀ r, Nt.Run t true a2 d2 r → Nt.Run t false 0 0 r)) ?_ ?_
      · intro N hN
        cases op with
        | true =>
          have h40 := hopt rfl
          have hd := hlt12 rfl
          have hl2 := lt_of_at h40
          walk_at "rn"
          exact hN _ _ ⟨a + 1, d + 1, _, rfl, rfl, by omega, by omega, by omega, fun _ h41 r q => hR r (.opn h40 hd h41 q), fun _ h41 r q => hR r (.opc h40 hd h41 q), fun q => nomatch q⟩
        | false =>
          have h40 := hopf rfl
          walk_at "rn"
          refine ⟨_, a, rfl, ?u8_p0, ?u8_p1, ?u8_p2, h40, fun z hz => ?_⟩
          case u8_p0 => walk_at "pre"
          case u8_p1 => walk_at "pre"
          case u8_p2 => walk_at "pre"
          walk_at "rn"
          · rename_i hz0
            show Q _ _
            rcases hz with ⟨p, ha, e⟩ | ⟨j, v, ha, e⟩
            · exact k _ (.inl ⟨p, hR _ (.bad h40 ha), by omega⟩)
            · omega
          · rename_i hz0
            rcases hz with ⟨p, ha, e⟩ | ⟨j, v, ha, e⟩
            · omega
            · subst e
              have hl2 := (ha.red hg).2.1
              exact hN _ _ ⟨j, d, _, rfl, rfl, by omega, hl2.2, hd12, (fun q => nomatch q), (fun q => nomatch q), fun _ r q => hR r (.atm h40 ha q)⟩
      rintro σ' H3 ⟨a2, d2, c6, rfl, rfl, hia2, hal2, hd2, hA, hB, hC⟩
      refine Rd.join (fun σ' H4 => σ' = [some (.str (Rd.S t)), some (.int a2), some (.int d2), some (.int i), some (.bl op), c5, c6] ∧ H4 = H3 ∧ ∀ r, Nt.Run t true a2 d2 r → Nt.Run t false 0 0 r) ?_ ?_
      · intro N hN
        cases op with
        | true =>
          walk_at "rn"
          refine slS1 (by omega) hal2 ?_
          walk_at "rn"
          · rename_i h41
            exact ⟨a2, d2, _, _, _, _, rfl, rfl, hia2, hal2, hd2, hA rfl fun q => h41 ((take1 rfl).mpr q)⟩
          · rename_i h41
            have h41 : (t.drop a2).take 1 = [41] := by simpa using h41
            exact hN _ _ ⟨rfl, rfl, hB rfl ((take1 rfl).mp h41)⟩
        | false =>
          walk_at "rn"
          exact hN _ _ ⟨rfl, rfl, hC rfl⟩
      rintro σ' H4 ⟨rfl, rfl, hR2⟩
      walk_at "rnj"
      refine Rd.rng1 (fun k' σ' H' => ∃ (a3 d3 : Nat) (c5 : Option V), σ' = [some (.str (Rd.S t)), some (.int a3), some (.int d3), some (.int i), some (.bl op), c5, c6] ∧ H' = H4 ∧ a2 ≤ a3 ∧ a3 ≤ t.length ∧ d3 ≤ d2 ∧ (d3 + k' = d2 ∨ t[a3]? ≠ some 41) ∧ ∀ r, Nt.Run t true a3 d3 r → Nt.Run t false 0 0 r) (by omega) ⟨a2, d2, _, rfl, rfl, Nat.le_refl _, hal2, Nat.le_refl _, .inl rfl, hR2⟩ ?_ ?_
      · rintro k' σ' H' hk' ⟨a3, d3, c5, rfl, rfl, ha3, hal3, hd3, hor, hR3⟩
        walk_at "rn"
        refine slS1 (by omega) hal3 ?_
        walk_at "rn"
        · rename_i h41
          have h41 := (take1 rfl).mp h41
          have hl3 := lt_of_at h41
          have e : d3 + k' = d2 := by
            rcases hor with q | q
            · exact q
            · exact absurd h41 q
          obtain ⟨d4, rfl⟩ : ∃ d4, d3 = d4 + 1 := ⟨d3 - 1, by omega⟩
          refine ⟨a3 + 1, d4, some (.int (k' : Int)), ?_, rfl, by omega, by omega, by omega, .inl (by omega), fun r q => hR3 r (.cls h41 q)⟩
          have e2 : (((d4 + 1 : Nat) : Int) - 1) = (d4 : Int) := by omega
          rw [e2]
          rfl
        · rename_i h41
          exact ⟨a3, d3, _, rfl, rfl, ha3, hal3, hd3, .inr fun q => h41 ((take1 rfl).mpr q), hR3⟩
      · rintro σ' H' ⟨a3, d3, c5, rfl, rfl, ha3, hal3, hd3, hor, hR3⟩
        have hor : d3 = 0 ∨ t[a3]? ≠ some 41 := by
          rcases hor with q | q
          · left
            have : ((d2 : Int).toNat) = d2 := rfl
            omega
          · exact .inr q
        walk_at "rn"
        · rename_i h0 ha
          have e0 : d3 = 0 := by omega
          have ea : a3 = t.length := by omega
          subst e0 ea
          exact k _ (.inr ⟨hR3 _ .fin, rfl⟩)
        · rename_i h0 ha
          have e0 : d3 = 0 := by omega
          subst e0
          exact k _ (.inl ⟨a3, hR3 _ (.more (by omega)), rfl⟩)
        · rename_i h0
          obtain ⟨d4, rfl⟩ : ∃ d4, d3 = d4 + 1 := ⟨d3 - 1, by omega⟩
          have n41 : t[a3]? ≠ some 41 := by
            rcases hor with q | q
            · omega
            · exact q
          refine slS1 (by omega) hal3 ?_
          walk_at "rn"
          · rename_i h32
            exact k _ (.inl ⟨a3, hR3 _ (.odd n41 fun q => h32 ((take1 rfl).mpr q)), rfl⟩)
          · rename_i h32
            have h32 : (t.drop a3).take 1 = [32] := by simpa using h32
            have h32' := (take1 rfl).mp h32
            have hl3 := lt_of_at h32'
            exact ⟨a3 + 1, d4 + 1, _, _, _, _, rfl, rfl, by omega, by omega, by omega, fun r q => hR3 r (.nxt h32' q)⟩
    · rintro σ' H' ⟨a, d, c3, c4, c5, c6, rfl, rfl, hia, hal, hd12, hR⟩
      omega
theorem ok_law_fault {f : Addr} {fd : FuncData} (mf : mg "_law_fault" = some (.ref f)) (F : FnP K "_law_fault" s_law_fault f fd) (C_law_atom_end : Cal P w K mg base "_law_atom_end" 1 ["text", "at"] (sp_law_atom_end P w K)) (z_range : mg "range" = none) (z_len : mg "len" = none) : Cal P w K mg base "_law_fault" 2 ["text"] (sp_law_fault P w K) :=
  ⟨f, fd, mf, F.kp, F.bindsN fun _ _ _ _ _ _ us hl => match us, hl with | [_], _ => rfl, fn_law_fault F C_law_atom_end z_range z_len⟩

theorem fn_Scanner_require {fd : FuncData} (F : FunD K "require" "Scanner.require" (defArgs s_Scanner_require) (defBody s_Scanner_require) (defScope s_Scanner_require) [] [] (He.fAd K ("Scanner", some "require")) fd) (C_KeptError___init : CalM P w K mg base (He.fAd K ("KeptError", some "__init__")) 1 ["self", "what"] [V.non] (sp_KeptError___init P w K))  (W_errs : StErr EN_ K mg) (W_Scanner : CF_Scanner K mg) : FnOk P w K mg base (L2.CX P w) 3 (He.fAd K ("Scanner", some "require")) fd ["self", "good"] (sp_Scanner_require P w K) := by
  obtain ⟨fd_KeptError___init, b_KeptError___init, G_KeptError___init, ds_KeptError___init, dr_KeptError___init, db_KeptError___init⟩ := C_KeptError___init.ex
  have We := W_errs
  have cf_Scanner := W_Scanner
  have cfc_Scanner := cf_Scanner.cls
  have cfn_Scanner_at := cf_Scanner.n_at
  refine F.ok sc_Scanner_require (fun vs H Q E h => ?_) (fun cdv A outer s H vs Q E hr h => ?_)
  · obtain ⟨s, dx, t, i, b, rfl, _⟩ := h; rfl
  · obtain ⟨s, dx, t, i, b, rfl, hs, kE, k⟩ := h
    refine ⟨_, (pss_one (ps_if (pt_not (pt_val (pv 1))) (pss_one (ps_raise rfl (takes_of rfl rfl rfl rfl) (pmk_oex (We.x "BadNotation" (by decide +kernel)).o (We.x "BadNotation" (by decide +kernel)).iC (We.x "BadNotation" (by decide +kernel)).tI G_KeptError___init (hr.mono (by decide)) b_KeptError___init .nil pass0 (by rfl) (We.m "BadNotation" (by decide +kernel)) (pa_cons (pe_fld (pv 0) rfl) pa_nil)))) pss_nil)), ?_⟩
    try simp only [Rd.cxK, Re.cxP, Re.cxW]
    cases b with
    | true =>
      walk_at "rn"
      exact k rfl
    | false =>
      walk_at "rn"
      refine mkI ?_
      walk_at "rd"
      refine ⟨by simp, fun a ha => ⟨a, He.ga K "BadNotation", _, rfl, We.x _ (by decide +kernel), upd_same, fun d hd hne => ?_⟩⟩
      have hd0 : H d = none := (upd_ne hne).symm.trans hd
      refine ⟨rfl, d, [("what", .int (i : Int))], upd_same, (upd_ne (Ne.symm hne).symm).trans upd_same, hd0, ?_⟩
      rw [del_back ha hne]
      exact kE rfl d _ (Rd.same_new hd0) hd0 upd_same
theorem ok_Scanner_require {fd : FuncData} (F : FunD K "require" "Scanner.require" (defArgs s_Scanner_require) (defBody s_Scanner_require) (defScope s_Scanner_require) [] [] (He.fAd K ("Scanner", some "require")) fd) (C_KeptError___init : CalM P w K mg base (He.fAd K ("KeptError", some "__init__")) 1 ["self", "what"] [V.non] (sp_KeptError___init P w K))  (W_errs : StErr EN_ K mg) (W_Scanner : CF_Scanner K mg) : CalMX P w K mg base (He.fAd K ("Scanner", some "require")) 3 ["self", "good"] [] (sp_Scanner_require P w K) :=
  ⟨fd, F.bindsN fun _ _ _ _ _ _ us hl => match us, hl with | [_, _], _ => rfl, fn_Scanner_require F C_KeptError___init W_errs W_Scanner, [], .nil, F.bindsN fun _ _ _ _ _ _ us hl => match us, hl with | [_, _], _ => rfl⟩

theorem fn_law_leaf {f : Addr} {fd : FuncData} (F : FnP K "_law_leaf" s_law_leaf f fd) (C_law_integer : Cal P w K mg base "_law_integer" 1 ["cell", "number"] (sp_law_integer P w K)) (C_law_text : Cal P w K mg base "_law_text" 2 ["number", "size"] (sp_law_text P w K)) (z_int : mg "int" = none) : FnOk P w K mg base CX0 3 f fd ["cell", "number"] (sp_law_leaf P w K) := by
  obtain ⟨f_law_integer, fd_law_integer, m_law_integer, k_law_integer, b_law_integer, G_law_integer⟩ := C_law_integer.ex
  obtain ⟨f_law_text, fd_law_text, m_law_text, k_law_text, b_law_text, G_law_text⟩ := C_law_text.ex
  refine F.ok sc_law_leaf (fun vs H Q E h => ?_) (fun cdv A outer s H vs Q E hr h => ?_)
  · obtain ⟨c, i, rfl, _⟩ := h; rfl
  · obtain ⟨c, i, rfl, hc, hi, k⟩ := h
    refine ⟨_, PSs.nox (pss_cons (ps_set (i := 2) sc_law_leaf.nd rfl (by first | exact Or.inl rfl | exact Or.inr rfl) (pe_op op_fdiv (pv 1) pe_int))
      (pss_cons (ps_if (pt_cmpR op_eq (pe_op op_mod (pv 1) pe_int) pe_int (nomark _)) (pss_one (ps_ret (pe_cmpR op_eq (pe_op op_mod (pv 2) pe_int) pe_int (nomark _)))) pss_nil)
      (pss_cons (ps_if (PW.pt (pw_or (pt_cmpR op_eq (pe_op op_mod (pv 1) pe_int) pe_int (nomark _)) (pw_or1 (pt_cmpR op_eq (pe_op op_mod (pv 1) pe_int) pe_int (nomark _))))) (pss_one (ps_ret (pe_call G_law_integer (hr.mono (by decide)) (by rfl) m_law_integer k_law_integer b_law_integer .nil pass0 (pa_cons (pv 0) (pa_cons (pv 1) pa_nil))))) pss_nil)
      (pss_cons (ps_set (i := 3) sc_law_leaf.nd rfl (by first | exact Or.inl rfl | exact Or.inr rfl) (pe_op op_mod (pv 2) pe_int))
      (pss_cons (ps_if (pt_cmpR op_eq (pe_op op_mod (pv 2) pe_int) pe_int (nomark _)) (pss_one (ps_set (i := 3) sc_law_leaf.nd rfl (by first | exact Or.inl rfl | exact Or.inr rfl) (pe_ix ix_list (pe_lst (pa_cons pe_int (pa_cons pe_int (pa_cons pe_int (pa_cons pe_int (pa_cons pe_int (pa_cons pe_int (pa_cons pe_int (pa_cons pe_int pa_nil))))))))) (pe_op op_mod (pe_callTy call_int1 (by rfl) z_int boot_int (pa_cons (pe_op op_fdiv (pv 2) pe_int) pa_nil)) pe_int) (fun _ _ => rfl)))) pss_nil)
      (pss_one (ps_ret (pe_call G_law_text (hr.mono (by decide)) (by rfl) m_law_text k_law_text b_law_text .nil pass0 (pa_cons (pv 1) (pa_cons (pv 3) pa_nil)))))))))), ?_⟩
    try simp only [Rd.cxK, Re.cxP, Re.cxW]
    walk_at "rn"
    · exact k _ (.bool _) H (Same.refl _) (.bl _) rfl rfl (by simp only [wr, List.length_cons, List.length_nil]; decide)
    iterate 2
      · refine ⟨_, _, rfl, ?u9_p0, ?u9_p1, fun z H1 s1 hg => ?_⟩
        case u9_p0 => walk_at "pre"
        case u9_p1 => walk_at "pre"
        exact k _ _ H1 s1 (.int z) hg rfl (Nat.le_trans (int_len hg) (by decide))
    · rename_i l hl
      refine Rd.ixLmem (i := i / 8 / 9 % 8) (xs := [V.int 0, V.int 1, V.int 9, V.int 10, V.int 99, V.int 100, V.int 999, V.int 1000]) (SqL.of upd_same) (by omega) (by show i / 8 / 9 % 8 < (8 : Int); omega) fun v hv => ?_
      have hv2 : ∃ n : Int, v = .int n ∧ 0 ≤ n ∧ n ≤ 1000 := by
        simp only [List.mem_cons, List.not_mem_nil, or_false] at hv
        rcases hv with rfl | rfl | rfl | rfl | rfl | rfl | rfl | rfl <;> exact ⟨_, rfl, by decide, by decide⟩
      obtain ⟨n, rfl, hn0, hn1⟩ := hv2
      walk_at "rn"
      refine ⟨_, _, rfl, ?u10_p0, ?u10_p1, fun l1 H1 s1 hg => ?_⟩
      case u10_p0 => walk_at "pre"
      case u10_p1 => walk_at "pre"
      exact k _ _ H1 ((Rd.same_new hl).trans s1) (.str _) (gd_str hg) rfl (str_len hg)
    · refine ⟨_, _, rfl, ?u11_p0, ?u11_p1, fun l1 H1 s1 hg => ?_⟩
      case u11_p0 => walk_at "pre"
      case u11_p1 => walk_at "pre"
      exact k _ _ H1 s1 (.str _) (gd_str hg) rfl (str_len hg)
theorem ok_law_leaf {f : Addr} {fd : FuncData} (mf : mg "_law_leaf" = some (.ref f)) (F : FnP K "_law_leaf" s_law_leaf f fd) (C_law_integer : Cal P w K mg base "_law_integer" 1 ["cell", "number"] (sp_law_integer P w K)) (C_law_text : Cal P w K mg base "_law_text" 2 ["number", "size"] (sp_law_text P w K)) (z_int : mg "int" = none) : Cal P w K mg base "_law_leaf" 3 ["cell", "number"] (sp_law_leaf P w K) :=
  ⟨f, fd, mf, F.kp, F.bindsN fun _ _ _ _ _ _ us hl => match us, hl with | [_, _], _ => rfl, fn_law_leaf F C_law_integer C_law_text z_int⟩

theorem fn_string {f : Addr} {fd : FuncData} (F : FnP K "_string" s_string f fd) (C_Scanner_require : CalMX P w K mg base (He.fAd K ("Scanner", some "require")) 3 ["self", "good"] [] (sp_Scanner_require P w K)) (z_ord : mg "ord" = none) (z_len : mg "len" = none) (W_Scanner : CF_Scanner K mg) (W__PERCENT : ∃ t, mg "_PERCENT" = some (.int 37 t)) : FnOk P w K mg base (L2.CX P w) 4 f fd ["scanner", "length"] (sp_string P w K) := by
  obtain ⟨fd_Scanner_require, b_Scanner_require, G_Scanner_require, ds_Scanner_require, dr_Scanner_require, db_Scanner_require⟩ := C_Scanner_require.ex
  have cf_Scanner := W_Scanner
  have cfc_Scanner := cf_Scanner.cls
  have cfn_Scanner_at := cf_Scanner.n_at
  have cfn_Scanner_text := cf_Scanner.n_text
  obtain ⟨t__PERCENT, g__PERCENT⟩ := W__PERCENT; have g__PERCENT_r : RelV (.int 37) (.int 37 t__PERCENT) := ⟨_, rfl⟩
  refine F.ok sc_string (fun vs H Q E h => ?_) (fun cdv A outer s H vs Q E hr h => ?_)
  · obtain ⟨s, dx, t, i, m, rfl, _⟩ := h; rfl
  · obtain ⟨s, dx, t, i, m, rfl, hs, hg, hl, hbd, hm, kE, k⟩ := h
    refine ⟨_, (pss_cons (ps_set (i := 2) sc_string.nd rfl (by first | exact Or.inl rfl | exact Or.inr rfl) (pe_slice sl_str (pe_fld (pv 0) rfl) (po_some (pe_fld (pv 0) rfl)) (po_some (pe_op op_add (pe_fld (pv 0) rfl) (pv 1)))))
      (pss_cons (ps_for (passes_of rfl) rfl (pi_str (pv 2)) (pg_name (i := 3) sc_string.nd rfl (by first | exact Or.inl rfl | exact Or.inr rfl)) (pss_cons (ps_expr (Bd.pe_methS (pv 0) cf_Scanner.cls cf_Scanner.mt_require G_Scanner_require (hr.mono (by decide)) b_Scanner_require (fun σ => passAt (takes_of rfl rfl rfl rfl) σ) (pa_cons (pe_and (pe_chain Ez.op_leS Ez.op_leS pe_str (pv 3) pe_str) (pe_one (pe_cmpR op_ne (pe_callB Ez.call_ordK (by rfl) z_ord boot_ord (pa_cons (pv 3) pa_nil)) (pe_glob (by rfl) g__PERCENT g__PERCENT_r) (nomark _)))) pa_nil)))
      (pss_one (ps_fldaug (pv 0) pe_int in_add))))
      (pss_cons (ps_expr (Bd.pe_methS (pv 0) cf_Scanner.cls cf_Scanner.mt_require G_Scanner_require (hr.mono (by decide)) b_Scanner_require (fun σ => passAt (takes_of rfl rfl rfl rfl) σ) (pa_cons (pe_cmpR op_eq (pe_callB call_len_str (by rfl) z_len boot_len (pa_cons (pv 2) pa_nil)) (pv 1) (nomark _)) pa_nil)))
      (pss_one (ps_ret (pv 2)))))), ?_⟩
    try simp only [Rd.cxK, Re.cxP, Re.cxW, lit_10, lit_9]
    walk_at "rd"
    refine slS2 rfl rfl hl hbd ?_
    rw [show i + m - i = m by omega]
    have hlt : ((t.drop i).take m).length ≤ m := List.length_take_le _ _
    have hgl : GT ((t.drop i).take m) := (hg.drop i).take m
    have hlen : ((t.drop i).take m).length = min m (t.length - i) := by rw [List.length_take, List.length_drop]
    generalize (t.drop i).take m = l at *
    walk_at "rnj"
    refine Ez.forS (fun j σ' H' => ∃ c0, σ' = [some (.ref s), some (.int m), some (.str (Rd.S l)), c0] ∧ Adv K s dx t (i + j) H H') ⟨_, rfl, Adv.refl hs⟩ ?_ ?_
    · rintro j c σ' H' hj ⟨c0, rfl, ad⟩
      have hs2 := ad.sc
      obtain ⟨h1, h2, h3⟩ := hgl c (List.mem_of_getElem? hj)
      walk_at "rnj"
      refine Bd.meS ?_
      walk_at "rnj"
      refine ⟨s, dx, t, i + j, _, rfl, hs2, fun hb => ?_, fun _ => ?_⟩
      · have e : decide ((c : Int) = 37) = true := by simpa using hb
        exact absurd (of_decide_eq_true e) (by omega)
      · walk_at "rd"
        exact ⟨_, rfl, ad.step (by omega)⟩
    · rintro σ' H' ⟨c0, rfl, ad⟩
      have hs2 := ad.sc
      walk_at "rnj"
      refine Bd.meS ?_
      walk_at "rnj"
      refine ⟨s, dx, t, i + l.length, _, rfl, hs2, fun hb => ?_, fun hb => ?_⟩
      · have e := of_decide_eq_false hb
        have q := (kE (by omega)).w ad
        rwa [show t.length = i + l.length by omega] at q
      · have e := of_decide_eq_true hb
        walk_at "rd"
        have em : l.length = m := by omega
        rw [em] at ad
        exact k (by omega) _ ad
theorem ok_string {f : Addr} {fd : FuncData} (mf : mg "_string" = some (.ref f)) (F : FnP K "_string" s_string f fd) (C_Scanner_require : CalMX P w K mg base (He.fAd K ("Scanner", some "require")) 3 ["self", "good"] [] (sp_Scanner_require P w K)) (z_ord : mg "ord" = none) (z_len : mg "len" = none) (W_Scanner : CF_Scanner K mg) (W__PERCENT : ∃ t, mg "_PERCENT" = some (.int 37 t)) : CalX P w K mg base "_string" 4 ["scanner", "length"] (sp_string P w K) :=
  ⟨f, fd, mf, F.kp, F.bindsN fun _ _ _ _ _ _ us hl => match us, hl with | [_, _], _ => rfl, fn_string F C_Scanner_require z_ord z_len W_Scanner W__PERCENT⟩

theorem fn_law_value {f : Addr} {fd : FuncData} (F : FnP K "_law_value" s_law_value f fd) (C_law_leaf : Cal P w K mg base "_law_leaf" 3 ["cell", "number"] (sp_law_leaf P w K)) (C_law_cell : Cal P w K mg base "_law_cell" 1 ["script", "k"] (sp_law_cell P w K)) (z_range : mg "range" = none) (z_len : mg "len" = none) (z_min : mg "min" = none) (z_max : mg "max" = none) (z_tuple : mg "tuple" = none) : FnOk P w K mg base CX0 4 f fd ["script", "numbers"] (sp_law_value P w K) := by
  obtain ⟨f_law_leaf, fd_law_leaf, m_law_leaf, k_law_leaf, b_law_leaf, G_law_leaf⟩ := C_law_leaf.ex
  obtain ⟨f_law_cell, fd_law_cell, m_law_cell, k_law_cell, b_law_cell, G_law_cell⟩ := C_law_cell.ex
  refine F.ok sc_law_value (fun vs H Q E h => ?_) (fun cdv A outer s H vs Q E hr h => ?_)
  · obtain ⟨a, b, ns, nums, rfl, _⟩ := h; rfl
  · obtain ⟨a, b, ns, nums, rfl, hS, hbt, hb, hb3, hl, k⟩ := h
    refine ⟨_, PSs.nox (pss_cons (ps_set (i := 2) sc_law_value.nd rfl (by first | exact Or.inl rfl | exact Or.inr rfl) (pe_lst pa_nil))
      (pss_cons (ps_set (i := 3) sc_law_value.nd rfl (by first | exact Or.inl rfl | exact Or.inr rfl) (pe_lst pa_nil))
      (pss_cons (ps_for PassesOwn.never rfl (pi_range1 (by rfl) z_range (pa_cons (pe_callB call_len_seq (by rfl) z_len boot_len (pa_cons (pv 1) pa_nil)) pa_nil)) (pg_name (i := 4) sc_law_value.nd rfl (by first | exact Or.inl rfl | exact Or.inr rfl)) (pss_cons (ps_set (i := 5) sc_law_value.nd rfl (by first | exact Or.inl rfl | exact Or.inr rfl) (pe_ix ix_list (pv 1) (pv 4) (fun _ _ => rfl)))
      (pss_cons (ps_set (i := 6) sc_law_value.nd rfl (by first | exact Or.inl rfl | exact Or.inr rfl) pe_int)
      (pss_cons (ps_if (PW.pt (pw_or (pt_cmpR op_eq (pe_op op_mod (pv 5) pe_int) pe_int (nomark _)) (pw_or1 (pt_cmpR op_eq (pe_op op_mod (pv 5) pe_int) pe_int (nomark _))))) (pss_one (ps_set (i := 6) sc_law_value.nd rfl (by first | exact Or.inl rfl | exact Or.inr rfl) (pe_callB (call_min2 rfl) (by rfl) z_min boot_min (pa_cons (pe_op op_mod (pe_op op_fdiv (pv 5) pe_int) pe_int) (pa_cons (pe_callB call_len_seq (by rfl) z_len boot_len (pa_cons (pv 2) pa_nil)) pa_nil))))) pss_nil)
      (pss_cons (ps_if (pt_cmpR op_eq (pe_op op_mod (pv 5) pe_int) pe_int (nomark _)) (pss_one (ps_set (i := 6) sc_law_value.nd rfl (by first | exact Or.inl rfl | exact Or.inr rfl) (pe_callB (call_min2 rfl) (by rfl) z_min boot_min (pa_cons pe_int (pa_cons (pe_callB call_len_seq (by rfl) z_len boot_len (pa_cons (pv 2) pa_nil)) pa_nil))))) pss_nil)
      (pss_cons (ps_set (i := 7) sc_law_value.nd rfl (by first | exact Or.inl rfl | exact Or.inr rfl) (pe_op op_add (pe_callB (cr_max rfl) (by rfl) z_max boot_max (pa_cons (pe_op op_cat (pe_lst (pa_cons pe_int pa_nil)) (pe_slice sl_list (pv 3) (po_some (pe_op op_sub (pe_callB call_len_seq (by rfl) z_len boot_len (pa_cons (pv 2) pa_nil)) (pv 6))) po_none)) pa_nil)) pe_int))
      (pss_one (ps_if (PW.pt (pw_and (pt_cmpR op_ge (pe_op op_mod (pv 5) pe_int) pe_int (nomark _)) (pw_and1 (pt_cmpR op_le (pv 7) pe_int (nomark _))))) (pss_cons (ps_set (i := 8) sc_law_value.nd rfl (by first | exact Or.inl rfl | exact Or.inr rfl) (pe_slice sl_list (pv 2) (po_some (pe_op op_sub (pe_callB call_len_seq (by rfl) z_len boot_len (pa_cons (pv 2) pa_nil)) (pv 6))) po_none))
      (pss_cons (ps_set (i := 2) sc_law_value.nd rfl (by first | exact Or.inl rfl | exact Or.inr rfl) (pe_op op_cat (pe_slice sl_list (pv 2) po_none (po_some (pe_op op_sub (pe_callB call_len_seq (by rfl) z_len boot_len (pa_cons (pv 2) pa_nil)) (pv 6)))) (pe_lst (pa_cons (pe_callTy call_tuple_of (by rfl) z_tuple boot_tuple (pa_cons (pv 8) pa_nil)) pa_nil))))
      (pss_one (ps_set (i := 3) sc_law_value.nd rfl (by first | exact Or.inl rfl | exact Or.inr rfl) (pe_op op_cat (pe_slice sl_list (pv 3) po_none (po_some (pe_op op_sub (pe_callB call_len_seq (by rfl) z_len boot_len (pa_cons (pv 3) pa_nil)) (pv 6)))) (pe_lst (pa_cons (pv 7) pa_nil))))))) (pss_cons (ps_expr (pe_bm PySem.F.plainAttrs_list PySem.F.slot_list_append PySem.F.type_list_append mt_append (pv 2) (pa_cons (pe_call G_law_leaf (hr.mono (by decide)) (by rfl) m_law_leaf k_law_leaf b_law_leaf .nil pass0 (pa_cons (pe_call G_law_cell (hr.mono (by decide)) (by rfl) m_law_cell k_law_cell b_law_cell .nil pass0 (pa_cons (pv 0) (pa_cons (pv 4) pa_nil))) (pa_cons (pv 5) pa_nil))) pa_nil)))
      (pss_one (ps_expr (pe_bm PySem.F.plainAttrs_list PySem.F.slot_list_append PySem.F.type_list_append mt_append (pv 3) (pa_cons pe_int pa_nil)))))))))))))
      (pss_cons (ps_if (pt_cmpR op_eq (pe_callB call_len_seq (by rfl) z_len boot_len (pa_cons (pv 2) pa_nil)) pe_int (nomark _)) (pss_one (ps_ret (pe_ix ix_list (pv 2) pe_int (fun _ _ => rfl)))) pss_nil)
      (pss_one (ps_ret (pe_callTy call_tuple_of (by rfl) z_tuple boot_tuple (pa_cons (pv 2) pa_nil)))))))), ?_⟩
    try simp only [Rd.cxK, Re.cxP, Re.cxW]
    walk_at "rn"
    rename_i q1 hq1 q2 hq2
    have nq : q2 ≠ q1 := fun e => by rw [e, upd_same] at hq2; cases hq2
    have s0 : Same H (upd (upd H q1 (.lst [])) q2 (.lst [])) := (Rd.same_new hq1).trans (Rd.same_new hq2)
    refine Rd.rng1 (fun i σ' H' => ∃ (q1 q2 : Addr) (xs : List V) (ds : List PyData) (es : List Int), ∃ c4 c5 c6 c7 c8,  σ' = [some (.ref a), some (.ref b), some (.ref q1), some (.ref q2), c4, c5, c6, c7, c8] ∧ Same H H' ∧ H' q1 = some (.lst xs) ∧ H' q2 = some (.lst (es.map V.int)) ∧ DpAll K H' xs ds ∧ (∀ d ∈ ds, gd d = true) ∧ Dpt ds es ∧ wt ds ≤ 1012 * i ∧ ds.length ≤ i ∧ H q1 = none ∧ H q2 = none ∧ q2 ≠ q1) (by omega) ⟨q1, q2, [], [], [], _, _, _, _, _,  rfl, s0, (upd_ne nq.symm).trans upd_same, upd_same, .nil, by simp, Dpt.nil, by rw [wt_nil]; omega, by simp, hq1, (Rd.same_new hq1).free hq2, nq⟩ ?_ ?_
    · clear hq1 hq2 nq s0
      rintro i σ' H' hi ⟨q1, q2, xs, ds, es, c4, c5, c6, c7, c8,  rfl, hs, hx, hes, hd, hg, hdt, hw, hdl, hq1, hq2, nq⟩
      have hb' := hs.seq hb
      have hxl : xs.length = ds.length := Rd.dpAll_len hd
      have hel := hdt.1
      have hebd := hdt.bd
      have hnl : nlAll ds = true := gds_nl (gds_mem.mpr hg)
      walk_at "rnj"
      rename_i v hv0 hv1
      refine Rd.join (fun σ' H2 => ∃ m : Int, ∃ c7 c8,  σ' = [some (.ref a), some (.ref b), some (.ref q1), some (.ref q2), some (.int (i : Int)), some (.int v), some (.int m), c7, c8] ∧ H' = H2 ∧ 0 ≤ m ∧ m ≤ ds.length) ?_ ?_
      · intro N hN
        walk_at "rn"
        all_goals exact hN _ _ ⟨_, _, _,  rfl, rfl, by omega, by omega⟩
      rintro σ' H2 ⟨m, c7, c8,  rfl, rfl, hm0, hm1⟩
      refine Rd.join (fun σ' H2 => ∃ m : Int, ∃ c7 c8,  σ' = [some (.ref a), some (.ref b), some (.ref q1), some (.ref q2), some (.int (i : Int)), some (.int v), some (.int m), c7, c8] ∧ H' = H2 ∧ 0 ≤ m ∧ m ≤ ds.length) ?_ ?_
      · intro N hN
        walk_at "rn"
        all_goals exact hN _ _ ⟨_, _, _,  rfl, rfl, by omega, by omega⟩
      clear hm0 hm1
      rintro σ' H2 ⟨m, c7, c8,  rfl, rfl, hm0, hm1⟩
      walk_at "rnj"
      rename_i l0 hl0 l1 hl1
      obtain ⟨n, hn, hnd⟩ : ∃ n : Nat, (xs.length : Int) - m = (n : Int) ∧ n ≤ ds.length := ⟨((xs.length : Int) - m).toNat, by omega, by omega⟩
      rw [hn, cut_dropN (by rw [List.length_map]; omega), ← List.map_drop]
      have t0 : Same H' (upd (upd H' l0 (.lst [V.int 0])) l1 (.lst ((es.drop n).map V.int))) := (Rd.same_new hl0).trans (Rd.same_new hl1)
      refine Rd.catL (xs := [V.int 0]) (ys := (es.drop n).map V.int) (Rd.same_new hl1 _ _ upd_same) upd_same (by rw [List.length_map, List.length_drop]; simp; omega) fun l2 hl2 => ?_
      rw [show [V.int 0] ++ (es.drop n).map V.int = (0 :: es.drop n).map V.int from rfl]
      have t1 := t0.trans (Rd.same_new (o := .lst ((0 :: es.drop n).map V.int)) hl2)
      have hl3 : SqL K (upd (upd (upd H' l0 (.lst [V.int 0])) l1 (.lst ((es.drop n).map V.int))) l2 (.lst ((0 :: es.drop n).map V.int))) l2 ((0 :: es.drop n).map V.int) := SqL.of upd_same
      generalize upd (upd (upd H' l0 (.lst [V.int 0])) l1 (.lst ((es.drop n).map V.int))) l2 (.lst ((0 :: es.drop n).map V.int)) = H5 at *
      walk_at "rn"
      refine maxL hl3 (by simp) fun mx hmx hmax => ?_
      have hm2 := hmax 0 (by simp)
      have hm3 : mx ≤ 11 := by
        rcases List.mem_cons.mp hmx with h | h
        · omega
        · exact (hebd mx (List.mem_of_mem_drop h)).2
      replace hdt := hdt
      have hdp := (hdt.drop n).all (m := mx) (fun e he => hmax e (List.mem_cons_of_mem _ he)) hm2
      have hS5 := (hs.trans t1).seq hS
      have s5 := hs.trans t1
      replace hx := t1 _ _ hx
      replace hes := t1 _ _ hes
      replace hd := dpAll_same t1 hd
      clear t1 t0 hl3 hmx hmax hl0 hl1 hl2 hs hb'
      have ea : cutV xs (some ((xs.length : Int) - m)) none = xs.drop n := by rw [hn]; exact cut_dropN (by omega)
      have eb : cutV xs none (some ((xs.length : Int) - m)) = xs.take n := by rw [hn, Rd.cut_take (Int.natCast_nonneg _), Int.toNat_natCast]
      have ec : cutV (es.map V.int) none (some ((es.length : Int) - m)) = (es.take n).map V.int := by
        rw [show (es.length : Int) - m = (n : Int) by omega, Rd.cut_take (Int.natCast_nonneg _), Int.toNat_natCast, List.map_take]
      walk_at "rn"
      · rename_i hca hcb l3 hl3 l4 hl4 t5 ht5 l6 hl6
        simp only [ea, eb] at hl4 ht5 hl6 ⊢
        have u1 := Rd.same_new (o := .lst (xs.drop n)) hl3
        have u2 := Rd.same_new (o := .lst (xs.take n)) hl4
        have u3 := Rd.same_new (o := .tup (xs.drop n)) ht5
        have u4 := Rd.same_new (o := .lst [V.ref t5]) hl6
        have g4 := (u3.trans u4) _ _ (upd_same (a := l4) (o := .lst (xs.take n)))
        have g5 := u4 _ _ (upd_same (a := t5) (o := .tup (xs.drop n)))
        have s6 := (u1.trans u2).trans (u3.trans u4)
        refine Rd.catL (xs := xs.take n) (ys := [V.ref t5]) g4 upd_same (by rw [List.length_take]; simp; omega) fun l7 hl7 => ?_
        have u5 := Rd.same_new (o := .lst (xs.take n ++ [V.ref t5])) hl7
        have g7 := upd_same (H := upd (upd (upd (upd H5 l3 (.lst (xs.drop n))) l4 (.lst (xs.take n))) t5 (.tup (xs.drop n))) l6 (.lst [V.ref t5])) (a := l7) (o := HO.lst (xs.take n ++ [V.ref t5]))
        replace g5 := u5 _ _ g5
        replace s6 := s6.trans u5
        have f7 := (s5.trans ((u1.trans u2).trans (u3.trans u4))).free hl7
        generalize upd (upd (upd (upd (upd H5 l3 (.lst (xs.drop n))) l4 (.lst (xs.take n))) t5 (.tup (xs.drop n))) l6 (.lst [V.ref t5])) l7 (.lst (xs.take n ++ [V.ref t5])) = H6 at *
        clear u1 u2 u3 u4 u5 g4 hl3 hl4 ht5 hl6
        replace hes := s6 _ _ hes
        replace hd := dpAll_same s6 hd
        replace s6 := s5.trans s6
        clear s5 hx hl7
        walk_at "rn"
        rename_i l8 hl8 l9 hl9
        simp only [ec] at hl9 ⊢
        have u1 := Rd.same_new (o := .lst ((es.take n).map V.int)) hl8
        have u2 := Rd.same_new (o := .lst [V.int (mx + 1)]) hl9
        refine Rd.catL (xs := (es.take n).map V.int) (ys := [V.int (mx + 1)]) (u2 _ _ upd_same) upd_same (by rw [List.length_map, List.length_take]; simp; omega) fun l10 hl10 => ?_
        rw [show (es.take n).map V.int ++ [V.int (mx + 1)] = (es.take n ++ [mx + 1]).map V.int by simp]
        have u3 := (u1.trans u2).trans (Rd.same_new (o := .lst ((es.take n ++ [mx + 1]).map V.int)) hl10)
        have hw2 := wr_wt (ds.drop n)
        have hw3 := wt_split ds n
        refine ⟨l7, l10, xs.take n ++ [V.ref t5], ds.take n ++ [.tuple (ds.drop n)], es.take n ++ [mx + 1], _, _, _, _, _,  rfl, s6.trans u3, u3 _ _ g7, upd_same, dpAll_app (dp_take n (dpAll_same u3 hd)) (dpAll_one (.tup (SqT.of (u3 _ _ g5)) (dp_drop n (dpAll_same u3 hd)))), fun d hd2 => ?_, (hdt.take n).snoc ⟨by simp only [PyData.depth]; omega, by omega, by omega⟩, by rw [wt_app, wt_cons, wt_nil]; omega, by rw [List.length_append, List.length_take]; simp; omega, f7, (s6.trans (u1.trans u2)).free hl10, fun e => by have h2 := (u1.trans u2) _ _ g7; rw [← e, hl10] at h2; cases h2⟩
        rcases List.mem_append.mp hd2 with h | h
        · exact hg d (List.mem_of_mem_take h)
        · rw [List.mem_singleton.mp h]
          exact gd_tuple (by rw [List.length_drop]; omega) fun x hx => hg x (List.mem_of_mem_drop hx)
      all_goals (
        refine ⟨_, ?u12_ns, _, rfl, ?u12_p0, ?u12_p1, ?u12_p2, fun z hz => ?_⟩
        case u12_p0 => walk_at "pre"
        case u12_p1 => walk_at "pre"
        case u12_p2 => walk_at "pre"
        walk_at "rn"
        refine ⟨_, _, rfl, ?u13_p0, ?u13_p1, fun u d H6 s6 hu hgd hdp2 hwl => ?_⟩
        case u13_p0 => walk_at "pre"
        case u13_p1 => walk_at "pre"
        have hx6 := s6 _ _ hx
        have hes6 := s6 _ _ hes
        walk_at "rn"
        refine ⟨q1, q2, xs ++ [u], ds ++ [d], es ++ [0], _, _, _, _, _,  rfl, Rd.same_mut (Rd.same_mut (s5.trans s6) hq1) hq2, (upd_ne nq.symm).trans upd_same, by rw [List.map_append]; exact upd_same, dpAll_keep (.put ((upd_ne nq).trans hes6)) (gds_nl (gds_mem.mpr fun x hx => (List.mem_append.mp hx).elim (hg x) fun h => by rw [List.mem_singleton.mp h]; exact hgd)) (push hd hnl s6 hx6 hu (gd_nl hgd)), fun x hx => (List.mem_append.mp hx).elim (hg x) fun h => by rw [List.mem_singleton.mp h]; exact hgd, hdt.snoc ⟨by omega, by omega, by omega⟩, by rw [wt_app, wt_cons, wt_nil]; omega, by rw [List.length_append, List.length_singleton]; omega, hq1, hq2, nq⟩)
    · rintro σ' H' ⟨q1, q2, xs, ds, es, c4, c5, c6, c7, c8,  rfl, hs, hx, hes, hd, hg, hdt, hw, hdl, hq1, hq2, nq⟩
      have hxl : xs.length = ds.length := Rd.dpAll_len hd
      have hil : (((nums.length : Nat) : Int)).toNat = nums.length := Int.toNat_natCast _
      rw [hil] at hw hdl
      walk_at "rn"
      · rename_i hl1
        have hl2 : ds.length = 1 := by omega
        obtain ⟨d, rfl⟩ := List.length_eq_one_iff.mp hl2
        cases hd with
        | cons h1 h2 =>
          cases h2
          refine Rd.ixL (SqL.of hx) rfl ?_
          have h3 := hdt.all11
          rw [wt_cons] at hw
          exact k _ d H' hs h1 (hg d (by simp)) (Nat.le_trans (depth_mem.mp h3 d (by simp)) (by decide)) (by omega)
      · rename_i t ht
        have h4 := wr_wt ds
        refine k _ (.tuple ds) _ (hs.trans (Rd.same_new ht)) (.tup (SqT.of upd_same) (dpAll_same (Rd.same_new ht) hd)) (gd_tuple (by omega) hg) ?_ (by omega)
        have h3 := hdt.all11
        simp only [PyData.depth]; omega
theorem ok_law_value {f : Addr} {fd : FuncData} (mf : mg "_law_value" = some (.ref f)) (F : FnP K "_law_value" s_law_value f fd) (C_law_leaf : Cal P w K mg base "_law_leaf" 3 ["cell", "number"] (sp_law_leaf P w K)) (C_law_cell : Cal P w K mg base "_law_cell" 1 ["script", "k"] (sp_law_cell P w K)) (z_range : mg "range" = none) (z_len : mg "len" = none) (z_min : mg "min" = none) (z_max : mg "max" = none) (z_tuple : mg "tuple" = none) : Cal P w K mg base "_law_value" 4 ["script", "numbers"] (sp_law_value P w K) :=
  ⟨f, fd, mf, F.kp, F.bindsN fun _ _ _ _ _ _ us hl => match us, hl with | [_, _], _ => rfl, fn_law_value F C_law_leaf C_law_cell z_range z_len z_min z_max z_tuple⟩

theorem step_law_written {f : Addr} {fd : FuncData} (F : FnP K "_law_written" s_law_written f fd) {n : Nat} (C_law_written : Cal P w K mg base "_law_written" (0 + n) ["value"] (sp_law_written P w K n))  (z_isinstance : mg "isinstance" = none) (z_bool : mg "bool" = none) (z_int : mg "int" = none) (z_str : mg "str" = none) (z_len : mg "len" = none) (z_tuple : mg "tuple" = none) : FnOk P w K mg base CX0 (0 + n + 1) f fd ["value"] (sp_law_written P w K (n + 1)) := by
  obtain ⟨f_law_written, fd_law_written, m_law_written, k_law_written, b_law_written, G_law_written⟩ := C_law_written.ex
  refine F.ok sc_law_written (fun vs H Q E h => ?_) (fun cdv A outer s H vs Q E hr h => ?_)
  · obtain ⟨v, d, rfl, _⟩ := h; rfl
  · obtain ⟨v, d, rfl, hv, hg, hl, hn, k⟩ := h
    refine ⟨_, PSs.nox (pss_cons (ps_if (pt_val (pe_callB call_isi (by rfl) z_isinstance boot_isinstance (pa_cons (pv 0) (pa_cons (pe_bltn (v := .ty "bool") (by rfl) z_bool boot_bool rfl) pa_nil)))) (pss_one (ps_ret (pe_ix ix_list (pe_lst (pa_cons pe_str (pa_cons pe_str pa_nil))) (pe_callTy call_int1 (by rfl) z_int boot_int (pa_cons (pv 0) pa_nil)) (fun _ _ => rfl)))) pss_nil)
      (pss_cons (ps_if (pt_val (pe_callB call_isi (by rfl) z_isinstance boot_isinstance (pa_cons (pv 0) (pa_cons (pe_bltn (v := .ty "int") (by rfl) z_int boot_int rfl) pa_nil)))) (pss_one (ps_ret (pe_callTy call_str_int (by rfl) z_str boot_str (pa_cons (pv 0) pa_nil)))) pss_nil)
      (pss_cons (ps_if (pt_val (pe_callB call_isi (by rfl) z_isinstance boot_isinstance (pa_cons (pv 0) (pa_cons (pe_bltn (v := .ty "str") (by rfl) z_str boot_str rfl) pa_nil)))) (pss_one (ps_ret (pe_op op_add_str (pe_op op_add_str (pe_callTy call_str_int (by rfl) z_str boot_str (pa_cons (pe_callB call_len_str (by rfl) z_len boot_len (pa_cons (pv 0) pa_nil)) pa_nil)) pe_str) (pv 0)))) pss_nil)
      (pss_cons (ps_if (pt_val (pe_callB call_isi (by rfl) z_isinstance boot_isinstance (pa_cons (pv 0) (pa_cons (pe_bltn (v := .ty "tuple") (by rfl) z_tuple boot_tuple rfl) pa_nil)))) (pss_one (ps_ret (pe_op op_add_str (pe_op op_add_str pe_str (Ez.pe_joinK pe_str (pe_lc (own := [("item", 1)]) (g := gName 1) (tt := tYes) rfl sc_law_written.nd (pi_tup (pv 0)) (blkOk_by (N := N_law_written) (sc := defScope s_law_written) (by decide +kernel)) (fun _ _ _ _ _ => pg_name (i := 1) sc_law_written.nd rfl (by first | exact Or.inl rfl | exact Or.inr rfl)) (fun _ _ _ _ _ => pts_nil) (fun _ _ _ _ _ => (pe_call G_law_written (hr.mono (by omega)) (by rfl) m_law_written k_law_written b_law_written .nil pass0 (pa_cons (pv 1) pa_nil)))))) pe_str))) pss_nil)
      (pss_one (ps_ret pe_str)))))), ?_⟩
    try simp only [Rd.cxK, Re.cxP, Re.cxW, lit_1, lit_11, lit_15, lit_3, lit_4, lit_5, lit_9]
    cases d with
    | none => simp [gw] at hg
    | list _ => simp [gw] at hg
    | dict _ => simp [gw] at hg
    | bool b =>
      cases hv
      walk_at "rn"
      cases b <;> (refine Rd.ixL Rd.slL rfl ?_; exact k _ (Rd.same_new ‹_›))
    | int z =>
      cases hv
      walk_at "rn"
      exact strI2 hg (k _ (Same.refl H))
    | str z =>
      cases hv
      have hgz : gs z.cps.toList = true := by simpa only [gw] using hg
      have hgl := gs_len hgz
      obtain ⟨l, rfl⟩ : ∃ l, z = Rd.S l := ⟨_, Rd.S_of z⟩
      rw [Rd.S_tl] at hgl
      have hw : wr (.str (Rd.S l)) = TL.numL l.length ++ 58 :: l := by simp only [wr, Rd.S_tl]
      rw [hw] at k
      have hnl := TL.numL_len (n := l.length) (k := 4) (by decide) (by omega)
      have hz : l.length < 10 ^ 60 := Nat.lt_of_le_of_lt hgl (by decide)
      walk_at "rn"
      refine strN hz ?_
      walk_at "rn"
      rw [show TL.numL l.length ++ [58] ++ l = TL.numL l.length ++ 58 :: l by simp]
      exact k _ (Same.refl H)
    | tuple ds =>
      obtain ⟨hdl, hgm1⟩ := gw_tup hg hl
      have hgm := gws_mem.mp hgm1
      simp only [wr, List.length_cons, List.length_append, List.length_nil] at hl
      simp only [PyData.depth] at hn
      have hj := join_sum (wrl ds)
      have hwl : (wrl ds).length = ds.length := by rw [wrl_map, List.length_map]
      cases hv with
      | tup h1 d1 =>
        have e1 := Rd.dpAll_len d1
        walk_at "rn"
        refine lcDT (R := ds) (fun d => d) (fun d => .str (Rd.S (wr d))) h1 (by rw [List.map_id']; exact d1) (by omega) (fun _ _ => rfl) ?_ ?_
        · rintro e x D acc H' C hD s he hx hDl hC
          have hm := join_mem (y := wr e) (ys := wrl ds) (by rw [wrl_map]; exact List.mem_map_of_mem he)
          have hd1 := depth_mem.mp (Nat.le_refl (PyData.depthAll ds)) e he
          walk_at "rn"
          refine ⟨_, e, rfl, ?u14_p0, (hgm e he), (by omega), (by omega), fun H2 s2 => ?_⟩
          case u14_p0 => walk_at "pre"
          exact hC _ _ s2 (.str _)
        · rintro D acc H' hD s hDl hacc
          have hacc2 := dp_strs hacc
          subst hacc2
          walk_at "rn"
          refine joinS (SqL.of hDl) (by rw [List.length_cons, List.length_nil]; omega) ?_
          walk_at "rn"
          have e : [40] ++ TL.joinL [32] (wrl ds) ++ [41] = wr (.tuple ds) := by simp only [wr, List.cons_append, List.nil_append]
          rw [e]
          exact k _ s
theorem fn_law_written {f : Addr} {fd : FuncData} (mf : mg "_law_written" = some (.ref f)) (F : FnP K "_law_written" s_law_written f fd)  (z_isinstance : mg "isinstance" = none) (z_bool : mg "bool" = none) (z_int : mg "int" = none) (z_str : mg "str" = none) (z_len : mg "len" = none) (z_tuple : mg "tuple" = none) : ∀ n : Nat, FnOk P w K mg base CX0 (0 + n) f fd ["value"] (sp_law_written P w K n)
  | 0 => Rd.none_left fun vs H Q E h => by obtain ⟨v, d, rfl, hv, hg, hl, hn, k⟩ := h; omega
  | n + 1 => step_law_written F ⟨f, fd, mf, F.kp, F.bindsN fun _ _ _ _ _ _ us hl => match us, hl with | [_], _ => rfl, fn_law_written mf F z_isinstance z_bool z_int z_str z_len z_tuple n⟩ z_isinstance z_bool z_int z_str z_len z_tuple
theorem ok_law_written {f : Addr} {fd : FuncData} (mf : mg "_law_written" = some (.ref f)) (F : FnP K "_law_written" s_law_written f fd)  (z_isinstance : mg "isinstance" = none) (z_bool : mg "bool" = none) (z_int : mg "int" = none) (z_str : mg "str" = none) (z_len : mg "len" = none) (z_tuple : mg "tuple" = none) : Cal P w K mg base "_law_written" 14 ["value"] (sp_law_written P w K 14) :=
  ⟨f, fd, mf, F.kp, F.bindsN fun _ _ _ _ _ _ us hl => match us, hl with | [_], _ => rfl, fn_law_written mf F z_isinstance z_bool z_int z_str z_len z_tuple 14⟩

theorem fn_law_drawn_text {f : Addr} {fd : FuncData} (F : FnP K "_law_drawn_text" s_law_drawn_text f fd) (C_law_odd : Cal P w K mg base "_law_odd" 1 ["number"] (sp_law_odd P w K)) (C_law_written : Cal P w K mg base "_law_written" 14 ["value"] (sp_law_written P w K 14)) (C_law_value : Cal P w K mg base "_law_value" 4 ["script", "numbers"] (sp_law_value P w K)) (C_law_spoilt : Cal P w K mg base "_law_spoilt" 1 ["text", "way", "number"] (sp_law_spoilt P w K)) (z_min : mg "min" = none) (z_len : mg "len" = none) (z_int : mg "int" = none) (z_range : mg "range" = none) : FnOk P w K mg base CX0 15 f fd ["script", "numbers"] (sp_law_drawn_text P w K) := by
  obtain ⟨f_law_odd, fd_law_odd, m_law_odd, k_law_odd, b_law_odd, G_law_odd⟩ := C_law_odd.ex
  obtain ⟨f_law_written, fd_law_written, m_law_written, k_law_written, b_law_written, G_law_written⟩ := C_law_written.ex
  obtain ⟨f_law_value, fd_law_value, m_law_value, k_law_value, b_law_value, G_law_value⟩ := C_law_value.ex
  obtain ⟨f_law_spoilt, fd_law_spoilt, m_law_spoilt, k_law_spoilt, b_law_spoilt, G_law_spoilt⟩ := C_law_spoilt.ex
  refine F.ok sc_law_drawn_text (fun vs H Q E h => ?_) (fun cdv A outer s H vs Q E hr h => ?_)
  · obtain ⟨a, b, ns, nums, rfl, _⟩ := h; rfl
  · obtain ⟨a, b, ns, nums, rfl, hS, hbt, hb, hb3, hl, k⟩ := h
    refine ⟨_, PSs.nox (pss_cons (ps_if (pt_cmpR op_eq (pe_op op_mod (pe_ix ix_list (pv 1) pe_int (fun _ _ => rfl)) pe_int) pe_int (nomark _)) (pss_one (ps_ret (pe_call G_law_odd (hr.mono (by decide)) (by rfl) m_law_odd k_law_odd b_law_odd .nil pass0 (pa_cons (pe_ix ix_list (pv 1) pe_int (fun _ _ => rfl)) pa_nil)))) pss_nil)
      (pss_cons (ps_if (pt_cmpR op_eq (pe_op op_mod (pe_ix ix_list (pv 1) pe_int (fun _ _ => rfl)) pe_int) pe_int (nomark _)) (pss_cons (ps_set (i := 4) sc_law_drawn_text.nd rfl (by first | exact Or.inl rfl | exact Or.inr rfl) (pe_callB (call_min2 rfl) (by rfl) z_min boot_min (pa_cons (pe_op op_mod (pe_ix ix_list (pv 1) pe_int (fun _ _ => rfl)) pe_int) (pa_cons (pe_op op_sub (pe_callB call_len_seq (by rfl) z_len boot_len (pa_cons (pv 1) pa_nil)) pe_int) pa_nil))))
      (pss_one (ps_ret (Ez.pe_joinK pe_str (pe_lc (own := [("k", 3)]) (g := gName 3) (tt := tYes) rfl sc_law_drawn_text.nd (pi_range1 (by rfl) z_range (pa_cons (pv 4) pa_nil)) (blkOk_by (N := N_law_drawn_text) (sc := defScope s_law_drawn_text) (by decide +kernel)) (fun _ _ _ _ _ => pg_name (i := 3) sc_law_drawn_text.nd rfl (by first | exact Or.inl rfl | exact Or.inr rfl)) (fun _ _ _ _ _ => pts_nil) (fun _ _ _ _ _ => (pe_ix ix_str pe_str (pe_op op_mod (pe_callTy call_int1 (by rfl) z_int boot_int (pa_cons (pe_ix (Rb.ix_listK (K := K) rfl) (pv 1) (pe_op op_add (pv 3) pe_int) (fun _ _ => rfl)) pa_nil)) pe_int) (fun _ _ => rfl)))))))) pss_nil)
      (pss_cons (ps_set (i := 2) sc_law_drawn_text.nd rfl (by first | exact Or.inl rfl | exact Or.inr rfl) (pe_call G_law_written (hr.mono (by decide)) (by rfl) m_law_written k_law_written b_law_written .nil pass0 (pa_cons (pe_call G_law_value (hr.mono (by decide)) (by rfl) m_law_value k_law_value b_law_value .nil pass0 (pa_cons (pv 0) (pa_cons (pe_slice sl_list (pv 1) (po_some pe_int) po_none) pa_nil))) pa_nil)))
      (pss_cons (ps_if (pt_cmpR op_eq (pe_op op_mod (pe_ix ix_list (pv 1) pe_int (fun _ _ => rfl)) pe_int) pe_int (nomark _)) (pss_one (ps_set (i := 2) sc_law_drawn_text.nd rfl (by first | exact Or.inl rfl | exact Or.inr rfl) (pe_op op_add_str (pe_op op_add_str (pe_op Rd.op_mulS pe_str (pe_op op_add (pe_op op_mod (pe_ix ix_list (pv 1) pe_int (fun _ _ => rfl)) pe_int) pe_int)) (pv 2)) (pe_op Rd.op_mulS pe_str (pe_op op_add (pe_op op_mod (pe_ix ix_list (pv 1) pe_int (fun _ _ => rfl)) pe_int) pe_int))))) pss_nil)
      (pss_cons (ps_for PassesOwn.never rfl (pi_range1 (by rfl) z_range (pa_cons (pe_op op_mod (pe_ix ix_list (pv 1) pe_int (fun _ _ => rfl)) pe_int) pa_nil)) (pg_name (i := 3) sc_law_drawn_text.nd rfl (by first | exact Or.inl rfl | exact Or.inr rfl)) (pss_one (ps_set (i := 2) sc_law_drawn_text.nd rfl (by first | exact Or.inl rfl | exact Or.inr rfl) (pe_call G_law_spoilt (hr.mono (by decide)) (by rfl) m_law_spoilt k_law_spoilt b_law_spoilt .nil pass0 (pa_cons (pv 2) (pa_cons (pe_ix ix_list (pv 1) (pe_op op_add pe_int (pv 3)) (fun _ _ => rfl)) (pa_cons (pe_ix ix_list (pv 1) (pe_op op_add pe_int (pv 3)) (fun _ _ => rfl)) pa_nil)))))))
      (pss_one (ps_ret (pv 2)))))))), ?_⟩
    try simp only [Rd.cxK, Re.cxP, Re.cxW, lit_0, lit_1, lit_11, lit_39]
    have hbs := SqL.of (K := K) hb
    walk_at "rnj"
    refine Rd.join (fun σ' H' => σ' = [some (.ref a), some (.ref b), none, none, none] ∧ H' = H) ?_ ?_
    · intro N hN
      walk_at "rn"
      · exact ⟨_, rfl, fun l H' s hg hl => k l H' s hg (by omega)⟩
      · exact hN _ _ ⟨rfl, rfl⟩
    rintro σ' H' ⟨rfl, rfl⟩
    refine Rd.join (fun σ' H'' => σ' = [some (.ref a), some (.ref b), none, none, none] ∧ H'' = H') ?_ ?_
    · intro N hN
      walk_at "rn"
      · rename_i v0 h00 h01 h02 v1 h10 h11 m hm1 hm2 hm3
        refine Rd.lcR1 (fun D i acc H' => ∃ cs : List Nat, acc = cs.map (fun c => V.str (Rd.S [c])) ∧ cs.length = i ∧ ∀ c ∈ cs, 32 ≤ c ∧ c ≤ 126 ∧ c ≠ 37) (by omega) (fun D H' _ _ _ => ⟨[], rfl, rfl, by simp⟩) ?_ ?_
        · rintro i acc D H2 hD s hi hl2 hDl ⟨cs, rfl, hcl, hcs⟩
          have hbs2 := SqL.of (K := K) (s _ _ hb)
          walk_at "rn"
          refine Rd.ixSall (by decide) (Int.emod_nonneg _ (by omega)) (Int.emod_lt_of_pos _ (by decide)) (fun c hc => ?_)
          have hcc : 32 ≤ c ∧ c ≤ 126 ∧ c ≠ 37 := by revert c; decide
          exact Rd.lcE hD hDl s hl2 (by omega) ⟨cs ++ [c], by simp, by simp [hcl], fun x hx => by
            rcases List.mem_append.mp hx with h | h
            · exact hcs x h
            · rw [List.mem_singleton.mp h]; exact hcc⟩
        · rintro D acc H2 hD s hDl hal ⟨cs, rfl, hcl, hcs⟩
          have e1 : (cs.map fun c => V.str (Rd.S [c])) = (cs.map fun c => [c]).map fun y => V.str (Rd.S y) := by rw [List.map_map]; rfl
          rw [e1] at hDl
          refine joinS (SqL.of hDl) (joinOk (by omega)) ?_
          rw [joinE]; exact k cs _ s hcs (by omega)
      · exact hN _ _ ⟨rfl, rfl⟩
    rintro σ' H'' ⟨rfl, rfl⟩
    walk_at "rn"
    rename_i c hc
    have hcut : cutV (nums.map V.int) (some 9) none = (nums.drop 9).map V.int := by
      rw [show (some 9 : Option Int) = some ((9 : Nat) : Int) from rfl, Bd.cut_drop (by rw [List.length_map]; omega), List.map_drop]
    rw [hcut]
    have sc := Rd.same_new (o := .lst ((nums.drop 9).map V.int)) hc
    refine ⟨a, c, ns, nums.drop 9, rfl, sc.seq hS, hbt, SqL.of upd_same, fun x hx => hb3 x (List.mem_of_mem_drop hx), by rw [List.length_drop]; omega, fun v d H2 s2 hv hgd hdd hwl => ?_⟩
    walk_at "rn"
    refine ⟨v, d, rfl, hv, gd_gw hgd, by omega, by omega, fun H3 s3 => ?_⟩
    have s3' := (sc.trans s2).trans s3
    have hb3' := s3' _ _ hb
    have hbs3 := SqL.of (K := K) hb3'
    show tSeq (tIfS _ _ _) _ _ _ _
    have hgw := gt_wr (gd_gw hgd)
    refine Rd.join (fun σ' H4 => ∃ l : List Nat, σ' = [some (.ref a), some (.ref b), some (.str (Rd.S l)), none, none] ∧ H4 = H3 ∧ GT l ∧ l.length ≤ 80100) ?_ ?_
    · intro N hN
      walk_at "rn"
      · rename_i v0 h00 h01 h02 v1 h10 h11 v2 h20 h21
        exact hN _ _ ⟨_, rfl, rfl, ((GT.rep _ (by decide)).app hgw).app (GT.rep _ (by decide)), by simp only [List.length_append, List.length_replicate]; omega⟩
      · exact hN _ _ ⟨wr d, rfl, rfl, hgw, by omega⟩
    rintro σ' H4 ⟨l, rfl, rfl, hgl, hll⟩
    walk_at "rn"
    refine Rd.rng1 (fun i σ' H' => ∃ (l : List Nat) (c3 : Option V), σ' = [some (.ref a), some (.ref b), some (.str (Rd.S l)), c3, none] ∧ H' = H4 ∧ GT l ∧ l.length ≤ 80100 + i) (by omega) ⟨l, none, rfl, rfl, hgl, by omega⟩ ?_ ?_
    · rintro i σ' H' hi ⟨l, c3, rfl, rfl, hgl, hll⟩
      walk_at "rn"
      rename_i v0 h00 h01 v1 h10 h11
      exact ⟨l, _, _, rfl, by omega, hgl, ⟨h00, h01⟩, ⟨h10, h11⟩, fun m hm hml => ⟨m, _, rfl, rfl, hm, by omega⟩⟩
    · rintro σ' H' ⟨l, c3, rfl, rfl, hgl, hll⟩
      walk_at "rn"
      exact k l _ s3' hgl (by omega)
theorem ok_law_drawn_text {f : Addr} {fd : FuncData} (mf : mg "_law_drawn_text" = some (.ref f)) (F : FnP K "_law_drawn_text" s_law_drawn_text f fd) (C_law_odd : Cal P w K mg base "_law_odd" 1 ["number"] (sp_law_odd P w K)) (C_law_written : Cal P w K mg base "_law_written" 14 ["value"] (sp_law_written P w K 14)) (C_law_value : Cal P w K mg base "_law_value" 4 ["script", "numbers"] (sp_law_value P w K)) (C_law_spoilt : Cal P w K mg base "_law_spoilt" 1 ["text", "way", "number"] (sp_law_spoilt P w K)) (z_min : mg "min" = none) (z_len : mg "len" = none) (z_int : mg "int" = none) (z_range : mg "range" = none) : Cal P w K mg base "_law_drawn_text" 15 ["script", "numbers"] (sp_law_drawn_text P w K) :=
  ⟨f, fd, mf, F.kp, F.bindsN fun _ _ _ _ _ _ us hl => match us, hl with | [_, _], _ => rfl, fn_law_drawn_text F C_law_odd C_law_written C_law_value C_law_spoilt z_min z_len z_int z_range⟩


theorem fn_tuple {f : Addr} {fd : FuncData} (F : FnP K "_tuple" s_tuple f fd) {n : Nat} (C_value : CalX P w K mg base "_value" (4 + 2 * n) ["scanner", "deep"] (sp_value P w K n)) (C_Scanner_skip : CalM P w K mg base (He.fAd K ("Scanner", some "skip")) 2 ["self", "char"] [] (sp_Scanner_skip P w K)) (C_Scanner_require : CalMX P w K mg base (He.fAd K ("Scanner", some "require")) 3 ["self", "good"] [] (sp_Scanner_require P w K)) (z_tuple : mg "tuple" = none) (W_Scanner : CF_Scanner K mg) : FnOk P w K mg base (L2.CX P w) (4 + 2 * n + 1) f fd ["scanner", "deep"] (sp_tuple P w K n) := by
  obtain ⟨fd_Scanner_skip, b_Scanner_skip, G_Scanner_skip, ds_Scanner_skip, dr_Scanner_skip, db_Scanner_skip⟩ := C_Scanner_skip.ex
  obtain ⟨fd_Scanner_require, b_Scanner_require, G_Scanner_require, ds_Scanner_require, dr_Scanner_require, db_Scanner_require⟩ := C_Scanner_require.ex
  obtain ⟨f_value, fd_value, m_value, k_value, b_value, G_value⟩ := C_value.ex
  have cf_Scanner := W_Scanner
  have cfc_Scanner := cf_Scanner.cls
  have cfn_Scanner_at := cf_Scanner.n_at
  refine F.ok sc_tuple (fun vs H Q E h => ?_) (fun cdv A outer s H vs Q E hr h => ?_)
  · obtain ⟨s, dx, t, i, dp, rfl, _⟩ := h; rfl
  · obtain ⟨s, dx, t, i, dp, rfl, hs, hg, hl, h40, hdp, hn, kE, k⟩ := h
    refine ⟨_, (pss_cons (ps_fldaug (pv 0) pe_int in_add)
      (pss_cons (ps_if (pt_val (pe_meth (pv 0) cf_Scanner.cls cf_Scanner.mt_skip G_Scanner_skip (hr.mono (by omega)) b_Scanner_skip .nil pass0 (pa_cons pe_str pa_nil))) (pss_one (ps_ret (pe_tup pa_nil))) pss_nil)
      (pss_cons (ps_set (i := 2) sc_tuple.nd rfl (by first | exact Or.inl rfl | exact Or.inr rfl) (pe_lst (pa_cons (pe_callS G_value (hr.mono (by omega)) (by rfl) m_value k_value b_value (fun σ => passAt (takes_of rfl rfl rfl rfl) σ) (pa_cons (pv 0) (pa_cons (pv 1) pa_nil))) pa_nil)))
      (pss_cons (ps_while (passes_of rfl) (pt_val (pe_meth (pv 0) cf_Scanner.cls cf_Scanner.mt_skip G_Scanner_skip (hr.mono (by omega)) b_Scanner_skip .nil pass0 (pa_cons pe_str pa_nil))) (pss_one (ps_expr (pe_bm PySem.F.plainAttrs_list PySem.F.slot_list_append PySem.F.type_list_append mt_append (pv 2) (pa_cons (pe_callS G_value (hr.mono (by omega)) (by rfl) m_value k_value b_value (fun σ => passAt (takes_of rfl rfl rfl rfl) σ) (pa_cons (pv 0) (pa_cons (pv 1) pa_nil))) pa_nil)))))
      (pss_cons (ps_expr (Bd.pe_methS (pv 0) cf_Scanner.cls cf_Scanner.mt_require G_Scanner_require (hr.mono (by omega)) b_Scanner_require (fun σ => passAt (takes_of rfl rfl rfl rfl) σ) (pa_cons (pe_meth (pv 0) cf_Scanner.cls cf_Scanner.mt_skip G_Scanner_skip (hr.mono (by omega)) b_Scanner_skip .nil pass0 (pa_cons pe_str pa_nil)) pa_nil)))
      (pss_one (ps_ret (pe_callTy call_tuple_of (by rfl) z_tuple boot_tuple (pa_cons (pv 2) pa_nil))))))))), ?_⟩
    try simp only [Rd.cxK, Re.cxP, Re.cxW, lit_11, lit_9]
    walk_at "rn"
    have ad1 : Adv K s dx t (i + 1) H (upd H s (scO K dx t ((i : Int) + 1))) := Adv.step0 hs (j := i + 1) rfl
    have hs1 := ad1.sc
    obtain ⟨r, hr1⟩ : ∃ r, t.drop (i + 1) = r := ⟨_, rfl⟩
    refine ⟨_, ?u15_dx, ?u15_t, ?u15_i, ?u15_r, _, rfl, ?u15_p0, ?u15_p1, ?u15_p2, ?_⟩
    case u15_p0 => walk_at "pre"
    case u15_p1 => walk_at "pre"
    case u15_p2 => walk_at "pre"
    refine ⟨fun H2 hq ad2 => ?_, fun hq => ?_⟩
    · have h41 := (take1 hr1).mp hq
      walk_at "rn"
      rename_i p hp
      exact k _ _ _ _ ((ad1.trans ad2).new hp) (.tup (SqT.of upd_same) .nil) (Red.unit h40 h41 hdp)
    · have h41 : t[i + 1]? ≠ some 41 := fun q => hq ((take1 hr1).mpr q)
      have hi1 := lt_of_at h40
      walk_at "rn"
      refine clS ?_
      walk_at "rn"
      refine ⟨s, dx, t, i + 1, dp + 1, rfl, hs1, hg, hl, hi1, by omega, by omega, fun p hp => (kE p (.opn h40 hdp h41 hp)).adv ad1, fun v d j H3 ad3 hv hR => ?_⟩
      walk_at "rn"
      rename_i p hp
      have hp1 := ad3.free hp
      have hp0 := ad1.free hp1
      have ad4 := (ad1.trans ad3).new (o := .lst [v]) hp
      have hnl := gw_nl hR.g
      have O := Opn.one h40 h41 hdp hR
      refine Rd.whl (fun mm σ' H' => ∃ (es : List PyData) (vs : List V) (q : Nat), mm = t.length - q ∧ σ' = [some (.ref s), some (.int ((dp + 1 : Nat) : Int)), some (.ref p)] ∧ H' p = some (.lst vs) ∧ DpAll K H' vs (d :: es) ∧ vs.length ≤ q ∧ Opn t i dp q d es ∧ Adv K s dx t q H H')
          ⟨_, [], [v], j, rfl, rfl, upd_same, dpAll_one (dp_keep (.of (Rd.same_new hp)) hnl hv), by have := hR.l; simp; omega, O, ad4⟩ ?_
      rintro mm σ' H5 ⟨es, vs, q, rfl, rfl, hp5, hvs, hvl, O5, ad5⟩
      have hs5 := ad5.sc
      obtain ⟨r5, hr5⟩ : ∃ r, t.drop q = r := ⟨_, rfl⟩
      walk_at "rn"
      refine ⟨_, dx, t, q, r5, _, rfl, ?u16_p0, hr5, ?u16_p2, ?_⟩
      case u16_p0 => walk_at "pre"
      case u16_p2 => walk_at "pre"
      refine ⟨fun H6 hq6 ad6 => ?_, fun hq6 => ?_⟩
      · have h32 := (take1 hr5).mp hq6
        have hs6 := ad6.sc
        have hp6 := ad6.at hs5 hp5
        have hq1 := lt_of_at h32
        walk_at "rn"
        refine clS ?_
        walk_at "rn"
        refine ⟨s, dx, t, q + 1, dp + 1, rfl, hs6, hg, hl, hq1, by omega, by omega, fun p hp => (kE p (O5.r _ (.nxt h32 hp))).adv (ad5.trans ad6), fun v2 d2 j2 H7 ad7 hv2 hR2 => ?_⟩
        have hp7 := ad7.at hs6 hp6
        have hvs7 := ad7.dpAll hs6 (ad6.dpAll hs5 hvs)
        have hl2 := hR2.l
        walk_at "rn"
        have O7 := O5.more h32 hR2
        refine ⟨_, ?_, es ++ [d2], vs ++ [v2], j2, rfl, rfl, upd_same, ?_, by simp; omega, O7, ((ad5.trans ad6).trans ad7).mut hp0 hs⟩
        · omega
        · exact dpAll_app (dpAll_keep (.put hp7) (gws_nl O5.g) hvs7) (dpAll_one (dp_keep (.put hp7) (gw_nl hR2.g) hv2))
      · have h32 : t[q]? ≠ some 32 := fun z => hq6 ((take1 hr5).mpr z)
        walk_at "rn"
        refine Bd.meS ?_
        walk_at "rn"
        refine ⟨_, dx, t, q, r5, _, rfl, ?u17_p0, hr5, ?u17_p2, ?_⟩
        case u17_p0 => walk_at "pre"
        case u17_p2 => walk_at "pre"
        refine ⟨fun H6 hq7 ad6 => ?_, fun hq7 => ?_⟩
        · have h41' := (take1 hr5).mp hq7
          have hs6 := ad6.sc
          have hp6 := ad6.at hs5 hp5
          walk_at "rn"
          refine ⟨s, dx, t, q + 1, true, rfl, hs6, (fun q => nomatch q), fun _ => ?_⟩
          walk_at "rn"
          rename_i p2 hp2
          have ad7 := (ad5.trans ad6).new (o := .tup vs) hp2
          exact k _ _ _ _ ad7 (.tup (SqT.of upd_same) (dpAll_same (Rd.same_new hp2) (ad6.dpAll hs5 hvs))) (O5.close h40 h41')
        · have h41' : t[q]? ≠ some 41 := fun z => hq7 ((take1 hr5).mpr z)
          walk_at "rn"
          exact ⟨s, dx, t, q, false, rfl, hs5, (fun _ => (kE q (O5.r _ (.odd h41' h32))).w ad5), (fun q => nomatch q)⟩
theorem step_value {f : Addr} {fd : FuncData} (F : FnP K "_value" s_value f fd) {n : Nat} (C_tuple : CalX P w K mg base "_tuple" (4 + 2 * n + 1) ["scanner", "deep"] (sp_tuple P w K n)) (C_Scanner_char : CalM P w K mg base (He.fAd K ("Scanner", some "char")) 1 ["self"] [] (sp_Scanner_char P w K)) (C_Scanner_require : CalMX P w K mg base (He.fAd K ("Scanner", some "require")) 3 ["self", "good"] [] (sp_Scanner_require P w K)) (C_digits : Cal P w K mg base "_digits" 2 ["scanner"] (sp_digits P w K)) (C_is_digit : Cal P w K mg base "_is_digit" 1 ["char"] (sp_is_digit P w K)) (C_Scanner_skip : CalM P w K mg base (He.fAd K ("Scanner", some "skip")) 2 ["self", "char"] [] (sp_Scanner_skip P w K)) (C_string : CalX P w K mg base "_string" 4 ["scanner", "length"] (sp_string P w K))  (W_Scanner : CF_Scanner K mg) (W__MOST_DEPTH : ∃ t, mg "_MOST_DEPTH" = some (.int 12 t)) (W__LONGEST_STRING : ∃ t, mg "_LONGEST_STRING" = some (.int 1000 t)) : FnOk P w K mg base (L2.CX P w) (4 + 2 * n + 2) f fd ["scanner", "deep"] (sp_value P w K (n + 1)) := by
  obtain ⟨fd_Scanner_char, b_Scanner_char, G_Scanner_char, ds_Scanner_char, dr_Scanner_char, db_Scanner_char⟩ := C_Scanner_char.ex
  obtain ⟨fd_Scanner_require, b_Scanner_require, G_Scanner_require, ds_Scanner_require, dr_Scanner_require, db_Scanner_require⟩ := C_Scanner_require.ex
  obtain ⟨f_digits, fd_digits, m_digits, k_digits, b_digits, G_digits⟩ := C_digits.ex
  obtain ⟨f_is_digit, fd_is_digit, m_is_digit, k_is_digit, b_is_digit, G_is_digit⟩ := C_is_digit.ex
  obtain ⟨fd_Scanner_skip, b_Scanner_skip, G_Scanner_skip, ds_Scanner_skip, dr_Scanner_skip, db_Scanner_skip⟩ := C_Scanner_skip.ex
  obtain ⟨f_string, fd_string, m_string, k_string, b_string, G_string⟩ := C_string.ex
  obtain ⟨f_tuple, fd_tuple, m_tuple, k_tuple, b_tuple, G_tuple⟩ := C_tuple.ex
  have cf_Scanner := W_Scanner
  have cfc_Scanner := cf_Scanner.cls
  have cfn_Scanner_at := cf_Scanner.n_at
  obtain ⟨t__MOST_DEPTH, g__MOST_DEPTH⟩ := W__MOST_DEPTH; have g__MOST_DEPTH_r : RelV (.int 12) (.int 12 t__MOST_DEPTH) := ⟨_, rfl⟩
  obtain ⟨t__LONGEST_STRING, g__LONGEST_STRING⟩ := W__LONGEST_STRING; have g__LONGEST_STRING_r : RelV (.int 1000) (.int 1000 t__LONGEST_STRING) := ⟨_, rfl⟩
  refine F.ok sc_value (fun vs H Q E h => ?_) (fun cdv A outer s H vs Q E hr h => ?_)
  · obtain ⟨s, dx, t, i, dp, rfl, _⟩ := h; rfl
  · obtain ⟨s, dx, t, i, dp, rfl, hs, hg, hl, hbd, hdp, hn, kE, k⟩ := h
    refine ⟨_, (pss_cons (ps_set (i := 2) sc_value.nd rfl (by first | exact Or.inl rfl | exact Or.inr rfl) (pe_meth0 (pv 0) cf_Scanner.cls cf_Scanner.mt_char G_Scanner_char (hr.mono (by omega)) b_Scanner_char .nil pass0))
      (pss_cons (ps_if (pt_cmpR op_eq (pv 2) pe_str (nomark _)) (pss_cons (ps_expr (Bd.pe_methS (pv 0) cf_Scanner.cls cf_Scanner.mt_require G_Scanner_require (hr.mono (by omega)) b_Scanner_require (fun σ => passAt (takes_of rfl rfl rfl rfl) σ) (pa_cons (pe_cmpR op_lt (pv 1) (pe_glob (by rfl) g__MOST_DEPTH g__MOST_DEPTH_r) (nomark _)) pa_nil)))
      (pss_one (ps_ret (pe_callS G_tuple (hr.mono (by omega)) (by rfl) m_tuple k_tuple b_tuple (fun σ => passAt (takes_of rfl rfl rfl rfl) σ) (pa_cons (pv 0) (pa_cons (pe_op op_add (pv 1) pe_int) pa_nil)))))) pss_nil)
      (pss_cons (ps_if (PW.pt (pw_or (pt_cmpR op_eq (pv 2) pe_str (nomark _)) (pw_or1 (pt_cmpR op_eq (pv 2) pe_str (nomark _))))) (pss_cons (ps_fldaug (pv 0) pe_int in_add)
      (pss_one (ps_ret (pe_cmpR op_eq (pv 2) pe_str (nomark _))))) pss_nil)
      (pss_cons (ps_if (pt_cmpR op_eq (pv 2) pe_str (nomark _)) (pss_cons (ps_fldaug (pv 0) pe_int in_add)
      (pss_cons (ps_expr (Bd.pe_methS (pv 0) cf_Scanner.cls cf_Scanner.mt_require G_Scanner_require (hr.mono (by omega)) b_Scanner_require (fun σ => passAt (takes_of rfl rfl rfl rfl) σ) (pa_cons (pe_chain Ez.op_leS Ez.op_leS pe_str (pe_meth0 (pv 0) cf_Scanner.cls cf_Scanner.mt_char G_Scanner_char (hr.mono (by omega)) b_Scanner_char .nil pass0) pe_str) pa_nil)))
      (pss_one (ps_ret (pe_un un_neg (pe_call G_digits (hr.mono (by omega)) (by rfl) m_digits k_digits b_digits .nil pass0 (pa_cons (pv 0) pa_nil))))))) pss_nil)
      (pss_cons (ps_expr (Bd.pe_methS (pv 0) cf_Scanner.cls cf_Scanner.mt_require G_Scanner_require (hr.mono (by omega)) b_Scanner_require (fun σ => passAt (takes_of rfl rfl rfl rfl) σ) (pa_cons (pe_call G_is_digit (hr.mono (by omega)) (by rfl) m_is_digit k_is_digit b_is_digit .nil pass0 (pa_cons (pv 2) pa_nil)) pa_nil)))
      (pss_cons (ps_set (i := 3) sc_value.nd rfl (by first | exact Or.inl rfl | exact Or.inr rfl) (pe_call G_digits (hr.mono (by omega)) (by rfl) m_digits k_digits b_digits .nil pass0 (pa_cons (pv 0) pa_nil)))
      (pss_cons (ps_if (PW.pt (pw_and (pt_cmpR op_le (pv 3) (pe_glob (by rfl) g__LONGEST_STRING g__LONGEST_STRING_r) (nomark _)) (pw_and1 (pt_val (pe_meth (pv 0) cf_Scanner.cls cf_Scanner.mt_skip G_Scanner_skip (hr.mono (by omega)) b_Scanner_skip .nil pass0 (pa_cons pe_str pa_nil)))))) (pss_one (ps_ret (pe_callS G_string (hr.mono (by omega)) (by rfl) m_string k_string b_string (fun σ => passAt (takes_of rfl rfl rfl rfl) σ) (pa_cons (pv 0) (pa_cons (pv 3) pa_nil))))) pss_nil)
      (pss_one (ps_ret (pv 3)))))))))), ?_⟩
    try simp only [Rd.cxK, Re.cxP, Re.cxW, lit_1, lit_2, lit_3, lit_4, lit_5, lit_6, lit_7]
    walk_at "rn"
    obtain ⟨r, hr1⟩ : ∃ r, t.drop i = r := ⟨_, rfl⟩
    refine ⟨_, ?u18_dx, ?u18_t, ?u18_i, ?u18_r, rfl, ?u18_p0, ?u18_p1, ?u18_p2, ?_⟩
    case u18_p0 => walk_at "pre"
    case u18_p1 => walk_at "pre"
    case u18_p2 => walk_at "pre"
    walk_at "rn"
    · rename_i hq
      have h40 := (take1 hr1).mp hq
      refine Bd.meS ?_
      walk_at "rn"
      refine ⟨s, dx, t, i, _, rfl, hs, fun hb => ?_, fun hb => ?_⟩
      · have e : dp = 12 := by have := of_decide_eq_false hb; omega
        subst e
        exact (kE i (.deep h40)).w (Adv.refl hs)
      · have e := of_decide_eq_true hb
        walk_at "rn"
        refine clS ?_
        walk_at "rn"
        exact ⟨s, dx, t, i, dp, rfl, hs, hg, hl, h40, by omega, by omega, kE, k⟩
    · rename_i h1 h2
      have h84 := (take1 hr1).mp h2
      rw [decide_eq_true h2]
      exact k (.bl true) (.bool true) (i + 1) _ (Adv.step0 hs rfl) (.bl true) (Red.atom hg (by rw [h84]; decide) hdp (.tr h84))
    · rename_i h1 h2 h3
      have h70 := (take1 hr1).mp h3
      rw [decide_eq_false h2]
      exact k (.bl false) (.bool false) (i + 1) _ (Adv.step0 hs rfl) (.bl false) (Red.atom hg (by rw [h70]; decide) hdp (.fa h70))
    · rename_i h1 h2 h3 h4
      have h45 := (take1 hr1).mp h4
      have ad1 : Adv K s dx t (i + 1) H (upd H s (scO K dx t ((i : Int) + 1))) := Adv.step0 hs rfl
      have hs1 := ad1.sc
      obtain ⟨r2, hr2⟩ : ∃ r, t.drop (i + 1) = r := ⟨_, rfl⟩
      refine Bd.meS ?_
      walk_at "rn"
      refine ⟨_, dx, t, i + 1, r2, rfl, ?u19_p0, hr2, ?u19_p2, ?_⟩
      case u19_p0 => walk_at "pre"
      case u19_p2 => walk_at "pre"
      have n40 : t[i]? ≠ some 40 := by rw [h45]; decide
      cases r2 with
      | nil =>
        have hno : ∀ c, t[i + 1]? = some c → ¬ (49 ≤ c ∧ c ≤ 57) := fun c hc => by rw [drop1 hc] at hr2; cases hr2
        rw [List.take_nil]
        walk_at "rn"
        all_goals first
          | exact ⟨s, dx, t, i + 1, false, rfl, hs1, fun _ => (kE (i + 1) (.bad n40 (.ngx h45 hno))).w ad1, fun q => nomatch q⟩
          | (rename_i h; exact absurd lt01 h)
      | cons c r3 =>
        have hc := (head_at hr2).1
        rw [show List.take 1 (c :: r3) = [c] from rfl]
        walk_at "rn"
        · rename_i hlo
          rw [lt11] at hlo
          refine ⟨s, dx, t, i + 1, _, rfl, hs1, fun hb => ?_, fun hb => ?_⟩
          · have e : decide (([57] : List Nat) < [c]) = true := by simpa using hb
            have e2 := lt11.mp (of_decide_eq_true e)
            exact (kE (i + 1) (.bad n40 (.ngx h45 fun c' hc' => by rw [hc] at hc'; cases hc'; omega))).w ad1
          · have e : decide (([57] : List Nat) < [c]) = false := by simpa using hb
            have e2 : ¬ 57 < c := fun q => of_decide_eq_false e (lt11.mpr q)
            have hd : isd (c :: r3) = true := dig_iff.mpr ⟨by omega, by omega⟩
            walk_at "rn"
            refine ⟨_, dx, t, i + 1, c :: r3, rfl, ?u20_p0, hr2, ?u20_p2, hd, fun m u H2 hD ad2 => ?_⟩
            case u20_p0 => walk_at "pre"
            case u20_p2 => walk_at "pre"
            have hm : 0 < m := by
              rcases Nat.eq_zero_or_pos m with q | q
              · subst q
                have e3 : c :: r3 = 48 :: u := hD.e
                have e4 := (List.cons.inj e3).1
                omega
              · exact q
            walk_at "rn"
            exact k _ _ _ _ (ad1.trans ad2) (.int _) (Red.atom hg n40 hdp (.neg h45 (by rw [hr2]; exact hD) hm))
        · rename_i hlo
          rw [lt11] at hlo
          exact ⟨s, dx, t, i + 1, false, rfl, hs1, (fun _ => (kE (i + 1) (.bad n40 (.ngx h45 fun c' hc' => by rw [hc] at hc'; cases hc'; omega))).w ad1), fun q => nomatch q⟩
    · rename_i h1 h2 h3 h4
      have n40 : t[i]? ≠ some 40 := fun q => h1 ((take1 hr1).mpr q)
      refine Bd.meS ?_
      walk_at "rn"
      refine ⟨_, rfl, ?_⟩
      walk_at "rn"
      refine ⟨s, dx, t, i, _, rfl, hs, fun hb => ?_, fun hb => ?_⟩
      · refine (kE i (.bad n40 (.bad fun c hc => ?_))).w (Adv.refl hs)
        rw [← hr1] at hb
        exact ⟨isd_no hb c hc, fun q => h2 ((take1 hr1).mpr (by rw [hc, q])), fun q => h3 ((take1 hr1).mpr (by rw [hc, q])), fun q => h4 ((take1 hr1).mpr (by rw [hc, q]))⟩
      · walk_at "rn"
        refine ⟨_, dx, t, i, r, rfl, ?u22_p0, hr1, ?u22_p2, hb, fun m u H2 hD ad => ?_⟩
        case u22_p0 => walk_at "pre"
        case u22_p2 => walk_at "pre"
        have hs2 := ad.sc
        have hu := drop_app (hr1.trans hD.e)
        have hjb := drop_bd (hr1.trans hD.e) (TL.numL_ne m)
        have hid : isd (t.drop i) = true := by rw [hr1]; exact hb
        have hD' : Dg (t.drop i) m u := by rw [hr1]; exact hD
        walk_at "rn"
        · rename_i hm
          refine ⟨_, dx, t, i + (TL.numL m).length, u, _, rfl, ?u23_p0, hu, ?u23_p2, ?_⟩
          case u23_p0 => walk_at "pre"
          case u23_p2 => walk_at "pre"
          refine ⟨fun H3 hq ad3 => ?_, fun hq => ?_⟩
          · have h58 := (take1 hu).mp hq
            have hj1 := lt_of_at h58
            obtain ⟨u', rfl⟩ : ∃ u', u = 58 :: u' := ⟨_, by rw [← hu, drop1 h58]⟩
            have hu' := (head_at hu).2.2
            have hul : u'.length = t.length - (i + (TL.numL m).length + 1) := by rw [← hu', List.length_drop]
            walk_at "rn"
            refine clS ?_
            walk_at "rn"
            refine ⟨s, dx, t, i + (TL.numL m).length + 1, m, rfl, ad3.sc, hg, by omega, by omega, by omega, fun hlt => ?_, fun hle H4 ad4 => ?_⟩
            · exact (kE _ (.bad n40 (.sho hD' (by omega) (by omega) hid))).adv (ad.trans ad3)
            · rw [hu']
              exact k _ _ _ _ ((ad.trans ad3).trans ad4) (.str _) (Red.atom hg n40 hdp (.str hD' (by omega) (by omega) hid))
          · walk_at "rn"
            exact k _ _ _ _ ad (.int _) (Red.atom hg n40 hdp (.num hD' (.inr fun q => hq (by cases u with
              | nil => cases q
              | cons a u => cases q; rfl)) hid))
        · rename_i hm
          exact k _ _ _ _ ad (.int _) (Red.atom hg n40 hdp (.num hD' (.inl (by omega)) hid))
theorem fn_value {f : Addr} {fd : FuncData} (mf : mg "_value" = some (.ref f)) (F : FnP K "_value" s_value f fd) {f2 : Addr} {fd2 : FuncData} (mf2 : mg "_tuple" = some (.ref f2)) (F2 : FnP K "_tuple" s_tuple f2 fd2) (C_Scanner_char : CalM P w K mg base (He.fAd K ("Scanner", some "char")) 1 ["self"] [] (sp_Scanner_char P w K)) (C_Scanner_require : CalMX P w K mg base (He.fAd K ("Scanner", some "require")) 3 ["self", "good"] [] (sp_Scanner_require P w K)) (C_digits : Cal P w K mg base "_digits" 2 ["scanner"] (sp_digits P w K)) (C_is_digit : Cal P w K mg base "_is_digit" 1 ["char"] (sp_is_digit P w K)) (C_Scanner_skip : CalM P w K mg base (He.fAd K ("Scanner", some "skip")) 2 ["self", "char"] [] (sp_Scanner_skip P w K)) (C_string : CalX P w K mg base "_string" 4 ["scanner", "length"] (sp_string P w K))  (W_Scanner : CF_Scanner K mg) (W__MOST_DEPTH : ∃ t, mg "_MOST_DEPTH" = some (.int 12 t)) (W__LONGEST_STRING : ∃ t, mg "_LONGEST_STRING" = some (.int 1000 t)) (z_tuple : mg "tuple" = none) : ∀ n : Nat, FnOk P w K mg base (L2.CX P w) (4 + 2 * n) f fd ["scanner", "deep"] (sp_value P w K n)
  | 0 => Zr.none_leftX fun vs H Q E h => by obtain ⟨s, dx, t, i, dp, rfl, hs, hg, hl, hbd, hdp, hn, kE, k⟩ := h; omega
  | n + 1 => step_value F ⟨f2, fd2, mf2, F2.kp, F2.bindsN fun _ _ _ _ _ _ us hl => match us, hl with | [_, _], _ => rfl, fn_tuple F2 ⟨f, fd, mf, F.kp, F.bindsN fun _ _ _ _ _ _ us hl => match us, hl with | [_, _], _ => rfl, fn_value mf F mf2 F2 C_Scanner_char C_Scanner_require C_digits C_is_digit C_Scanner_skip C_string W_Scanner W__MOST_DEPTH W__LONGEST_STRING z_tuple n⟩ C_Scanner_skip C_Scanner_require z_tuple W_Scanner⟩ C_Scanner_char C_Scanner_require C_digits C_is_digit C_Scanner_skip C_string W_Scanner W__MOST_DEPTH W__LONGEST_STRING
theorem ok_value {f : Addr} {fd : FuncData} (mf : mg "_value" = some (.ref f)) (F : FnP K "_value" s_value f fd) {f2 : Addr} {fd2 : FuncData} (mf2 : mg "_tuple" = some (.ref f2)) (F2 : FnP K "_tuple" s_tuple f2 fd2) (C_Scanner_char : CalM P w K mg base (He.fAd K ("Scanner", some "char")) 1 ["self"] [] (sp_Scanner_char P w K)) (C_Scanner_require : CalMX P w K mg base (He.fAd K ("Scanner", some "require")) 3 ["self", "good"] [] (sp_Scanner_require P w K)) (C_digits : Cal P w K mg base "_digits" 2 ["scanner"] (sp_digits P w K)) (C_is_digit : Cal P w K mg base "_is_digit" 1 ["char"] (sp_is_digit P w K)) (C_Scanner_skip : CalM P w K mg base (He.fAd K ("Scanner", some "skip")) 2 ["self", "char"] [] (sp_Scanner_skip P w K)) (C_string : CalX P w K mg base "_string" 4 ["scanner", "length"] (sp_string P w K))  (W_Scanner : CF_Scanner K mg) (W__MOST_DEPTH : ∃ t, mg "_MOST_DEPTH" = some (.int 12 t)) (W__LONGEST_STRING : ∃ t, mg "_LONGEST_STRING" = some (.int 1000 t)) (z_tuple : mg "tuple" = none) : CalX P w K mg base "_value" 32 ["scanner", "deep"] (sp_value P w K 14) :=
  ⟨f, fd, mf, F.kp, F.bindsN fun _ _ _ _ _ _ us hl => match us, hl with | [_, _], _ => rfl, fn_value mf F mf2 F2 C_Scanner_char C_Scanner_require C_digits C_is_digit C_Scanner_skip C_string W_Scanner W__MOST_DEPTH W__LONGEST_STRING z_tuple 14⟩

theorem fn_read {f : Addr} {fd : FuncData} (F : FnP K "read" s_read f fd) (C_Scanner___init : CalM P w K mg base (He.fAd K ("Scanner", some "__init__")) 1 ["self", "text"] [] (sp_Scanner___init P w K)) (C_value : CalX P w K mg base "_value" 32 ["scanner", "deep"] (sp_value P w K 14)) (C_Scanner_require : CalMX P w K mg base (He.fAd K ("Scanner", some "require")) 3 ["self", "good"] [] (sp_Scanner_require P w K)) (C_Scanner_char : CalM P w K mg base (He.fAd K ("Scanner", some "char")) 1 ["self"] [] (sp_Scanner_char P w K))  (W_Scanner : CF_Scanner K mg) : FnOk P w K mg base (L2.CX P w) 33 f fd ["text"] (sp_read P w K) := by
  obtain ⟨fd_Scanner___init, b_Scanner___init, G_Scanner___init, ds_Scanner___init, dr_Scanner___init, db_Scanner___init⟩ := C_Scanner___init.ex
  obtain ⟨f_value, fd_value, m_value, k_value, b_value, G_value⟩ := C_value.ex
  obtain ⟨fd_Scanner_require, b_Scanner_require, G_Scanner_require, ds_Scanner_require, dr_Scanner_require, db_Scanner_require⟩ := C_Scanner_require.ex
  obtain ⟨fd_Scanner_char, b_Scanner_char, G_Scanner_char, ds_Scanner_char, dr_Scanner_char, db_Scanner_char⟩ := C_Scanner_char.ex
  have cf_Scanner := W_Scanner
  have cfc_Scanner := cf_Scanner.cls
  refine F.ok sc_read (fun vs H Q E h => ?_) (fun cdv A outer s H vs Q E hr h => ?_)
  · obtain ⟨t, rfl, _⟩ := h; rfl
  · obtain ⟨t, rfl, hg, hl, kE, k⟩ := h
    refine ⟨_, (pss_cons (ps_set (i := 1) sc_read.nd rfl (by first | exact Or.inl rfl | exact Or.inr rfl) (pe_make cf_Scanner.mkr G_Scanner___init (hr.mono (by decide)) (by rfl) cf_Scanner.m b_Scanner___init .nil pass0 (pa_cons (pv 0) pa_nil)))
      (pss_cons (ps_set (i := 2) sc_read.nd rfl (by first | exact Or.inl rfl | exact Or.inr rfl) (pe_callS G_value (hr.mono (by decide)) (by rfl) m_value k_value b_value (fun σ => passAt (takes_of rfl rfl rfl rfl) σ) (pa_cons (pv 1) (pa_cons pe_int pa_nil))))
      (pss_cons (ps_expr (Bd.pe_methS (pv 1) cf_Scanner.cls cf_Scanner.mt_require G_Scanner_require (hr.mono (by decide)) b_Scanner_require (fun σ => passAt (takes_of rfl rfl rfl rfl) σ) (pa_cons (pe_cmpR op_eq (pe_meth0 (pv 1) cf_Scanner.cls cf_Scanner.mt_char G_Scanner_char (hr.mono (by decide)) b_Scanner_char .nil pass0) pe_str (nomark _)) pa_nil)))
      (pss_one (ps_ret (pv 2)))))), ?_⟩
    try simp only [Rd.cxK, Re.cxP, Re.cxW, lit_0]
    walk_at "rn"
    intro s dx hs0 hd0 hne
    refine ⟨s, dx, t, rfl, upd_same, fun H1 hb1 hs1 => ⟨rfl, ?_⟩⟩
    have hB : ∀ a o, H a = some o → H1 a = some o := fun a o e => hb1 a o (fun q => by rw [q, hs0] at e; cases e) ((upd_ne (fun q => by rw [q, hs0] at e; cases e)).trans ((upd_ne (fun q => by rw [q, hd0] at e; cases e)).trans e))
    have kA : ∀ p, Nt.Run t false 0 0 (some p) → ErrA K s dx t p H1 E := fun p hp d H' hk hd hx => kE p hp d H' (fun a o e => hk a o (fun q => by rw [q, hs0] at e; cases e) (hB a o e)) (by
      cases e : H d with
      | none => rfl
      | some o => rw [hB d o e] at hd; cases hd) hx
    walk_at "rn"
    refine clS ?_
    walk_at "rn"
    refine ⟨s, dx, t, 0, 0, rfl, hs1, hg, hl, Nat.zero_le _, by omega, by omega, kA, fun v d j H2 ad hv hR => ?_⟩
    have hs2 := ad.sc
    obtain ⟨r, hr⟩ : ∃ r, t.drop j = r := ⟨_, rfl⟩
    walk_at "rn"
    refine Bd.meS ?_
    walk_at "rn"
    refine ⟨_, dx, t, j, r, rfl, ?u24_p0, hr, ?u24_p2, ?_⟩
    case u24_p0 => walk_at "pre"
    case u24_p2 => walk_at "pre"
    walk_at "rn"
    refine ⟨s, dx, t, j, _, rfl, hs2, fun hb => ?_, fun hb => ?_⟩
    · have e := of_decide_eq_false hb
      refine (kA j (hR.r _ (.more fun q => ?_))).w ad
      rw [q, List.drop_length] at hr
      subst hr
      exact e rfl
    · have e := of_decide_eq_true hb
      have ej : j = t.length := by
        have h2 := hR.l
        cases r with
        | nil =>
          have := congrArg List.length hr
          rw [List.length_drop] at this
          simp only [List.length_nil] at this
          omega
        | cons a r => simp at e
      subst ej
      walk_at "rn"
      refine k v d _ (hR.r _ .fin) (by have := hR.e; rwa [List.drop_length, List.append_nil, List.drop_zero] at this) hR.g (by have := hR.p; omega) (fun a o e => ad.keep a o (fun q => by rw [q, hs0] at e; cases e) (hB a o e)) hv
theorem ok_read {f : Addr} {fd : FuncData} (mf : mg "read" = some (.ref f)) (F : FnP K "read" s_read f fd) (C_Scanner___init : CalM P w K mg base (He.fAd K ("Scanner", some "__init__")) 1 ["self", "text"] [] (sp_Scanner___init P w K)) (C_value : CalX P w K mg base "_value" 32 ["scanner", "deep"] (sp_value P w K 14)) (C_Scanner_require : CalMX P w K mg base (He.fAd K ("Scanner", some "require")) 3 ["self", "good"] [] (sp_Scanner_require P w K)) (C_Scanner_char : CalM P w K mg base (He.fAd K ("Scanner", some "char")) 1 ["self"] [] (sp_Scanner_char P w K))  (W_Scanner : CF_Scanner K mg) : CalX P w K mg base "read" 33 ["text"] (sp_read P w K) :=
  ⟨f, fd, mf, F.kp, F.bindsN fun _ _ _ _ _ _ us hl => match us, hl with | [_], _ => rfl, fn_read F C_Scanner___init C_value C_Scanner_require C_Scanner_char W_Scanner⟩

theorem fn_law_raises_base {f : Addr} {fd : FuncData} (F : FnP K "_law_raises_base" s_law_raises_base f fd) (C_read : CalX P w K mg base "read" 33 ["text"] (sp_read P w K)) (z_isinstance : mg "isinstance" = none) (z_ValueError : mg "ValueError" = none) (W_errs : StErr EN_ K mg) (W_VErr : vErrs K = true) : FnOk P w K mg base CX0 34 f fd ["text"] (sp_law_raises_base P w K) := by
  obtain ⟨f_read, fd_read, m_read, k_read, b_read, G_read⟩ := C_read.ex
  have We := W_errs
  have hVE := W_VErr
  refine F.ok sc_law_raises_base (fun vs H Q E h => ?_) (fun cdv A outer s H vs Q E hr h => ?_)
  · obtain ⟨t, p, rfl, _⟩ := h; rfl
  · obtain ⟨t, p, rfl, hg, hl, hrun, k⟩ := h
    refine ⟨_, PSs.nox (pss_cons (ps_try_as (i := 1) rfl rfl sc_law_raises_base.nd rfl rfl ⟨rfl, by decide, .inl (We.m "RecordError" (by decide +kernel))⟩ takes0 (fun W pn xe tk _ => (pss_one (ps_expr (pe_callS G_read (hr.mono (by decide)) (by rfl) m_read k_read b_read (fun σ => passAt tk σ) (pa_cons (pv 0) pa_nil)))))
      (fun a oe cls d pn hz hf => (pss_cons (ps_if (PW.pt (pw_or (pt_val (pe_callB (Bd.call_isG hz hf) (by rfl) z_isinstance boot_isinstance (pa_cons (pv 1) (pa_cons (pe_glob (v := .ref (He.ga K "BadLine")) (by rfl) (We.m "BadLine" (by decide +kernel)) rfl) pa_nil)))) (pw_or1 (pt_val (pe_callB (Bd.call_isG hz hf) (by rfl) z_isinstance boot_isinstance (pa_cons (pv 1) (pa_cons (pe_glob (v := .ref (He.ga K "BadRecord")) (by rfl) (We.m "BadRecord" (by decide +kernel)) rfl) pa_nil))))))) (pss_one (ps_ret pe_bl)) pss_nil)
      (pss_one (ps_ret (pe_and (pe_callB (Bd.call_isG hz hf) (by rfl) z_isinstance boot_isinstance (pa_cons (pv 1) (pa_cons (pe_glob (v := .ref (He.ga K "KeptError")) (by rfl) (We.m "KeptError" (by decide +kernel)) rfl) pa_nil))) (pe_one (pe_callB (Bd.call_isG hz hf) (by rfl) z_isinstance boot_isinstance (pa_cons (pv 1) (pa_cons (pe_bltn (v := .ty "ValueError") (by rfl) z_ValueError boot_ValueError rfl) pa_nil))))))))))
      (pss_one (ps_ret pe_bl))), ?_⟩
    try simp only [Rd.cxK, Re.cxP, Re.cxW]
    walk_at "rn"
    refine clS ?_
    walk_at "rn"
    refine ⟨t, rfl, hg, hl, fun q hq d H2 s2 hd hd2 => ?_, fun v d H2 hn _ _ _ _ _ => ?_⟩
    · refine ⟨true, (We.kit "BadNotation" "RecordError" (by decide +kernel) (by decide +kernel)).2, fun _ a ha => ?_, (fun q => nomatch q)⟩
      walk_at "rn"
      refine isiE We (by decide +kernel) (by decide +kernel) false (by decide +kernel) hd2 ?_
      walk_at "rn"
      refine isiE We (by decide +kernel) (by decide +kernel) false (by decide +kernel) hd2 ?_
      walk_at "rn"
      refine isiE We (by decide +kernel) (by decide +kernel) true (by decide +kernel) hd2 ?_
      walk_at "rn"
      refine isiV We hVE hd2 ?_
      show Q _ _
      exact k H2 s2
    · exact absurd (hn.det hrun) (by simp)
theorem ok_law_raises_base {f : Addr} {fd : FuncData} (mf : mg "_law_raises_base" = some (.ref f)) (F : FnP K "_law_raises_base" s_law_raises_base f fd) (C_read : CalX P w K mg base "read" 33 ["text"] (sp_read P w K)) (z_isinstance : mg "isinstance" = none) (z_ValueError : mg "ValueError" = none) (W_errs : StErr EN_ K mg) (W_VErr : vErrs K = true) : Cal P w K mg base "_law_raises_base" 34 ["text"] (sp_law_raises_base P w K) :=
  ⟨f, fd, mf, F.kp, F.bindsN fun _ _ _ _ _ _ us hl => match us, hl with | [_], _ => rfl, fn_law_raises_base F C_read z_isinstance z_ValueError W_errs W_VErr⟩

theorem fn_law {f : Addr} {fd : FuncData} (F : FnP K "law" s_law f fd) (C_law_tape : Cal P w K mg base "_law_tape" 2 ["script", "first", "others"] (sp_law_tape P w K)) (C_law_drawn_text : Cal P w K mg base "_law_drawn_text" 15 ["script", "numbers"] (sp_law_drawn_text P w K)) (C_law_fault : Cal P w K mg base "_law_fault" 2 ["text"] (sp_law_fault P w K)) (C_read : CalX P w K mg base "read" 33 ["text"] (sp_read P w K)) (C_law_written : Cal P w K mg base "_law_written" 14 ["value"] (sp_law_written P w K 14)) (C_law_raises_base : Cal P w K mg base "_law_raises_base" 34 ["text"] (sp_law_raises_base P w K)) (z_isinstance : mg "isinstance" = none) (z_bool : mg "bool" = none) (z_int : mg "int" = none) (z_str : mg "str" = none) (z_len : mg "len" = none) (z_tuple : mg "tuple" = none) (W_errs : StErr EN_ K mg) : FnOk P w K mg base CX0 35 f fd ["script"] (sp_law P w K) := by
  obtain ⟨f_law_tape, fd_law_tape, m_law_tape, k_law_tape, b_law_tape, G_law_tape⟩ := C_law_tape.ex
  obtain ⟨f_law_drawn_text, fd_law_drawn_text, m_law_drawn_text, k_law_drawn_text, b_law_drawn_text, G_law_drawn_text⟩ := C_law_drawn_text.ex
  obtain ⟨f_law_fault, fd_law_fault, m_law_fault, k_law_fault, b_law_fault, G_law_fault⟩ := C_law_fault.ex
  obtain ⟨f_read, fd_read, m_read, k_read, b_read, G_read⟩ := C_read.ex
  obtain ⟨f_law_written, fd_law_written, m_law_written, k_law_written, b_law_written, G_law_written⟩ := C_law_written.ex
  obtain ⟨f_law_raises_base, fd_law_raises_base, m_law_raises_base, k_law_raises_base, b_law_raises_base, G_law_raises_base⟩ := C_law_raises_base.ex
  have We := W_errs
  refine F.ok sc_law (fun vs H Q E h => ?_) (fun cdv A outer s H vs Q E hr h => ?_)
  · obtain ⟨a, ns, rfl, _⟩ := h; rfl
  · obtain ⟨a, ns, rfl, hS, h63, hbt, k⟩ := h
    refine ⟨_, PSs.nox (pss_cons (ps_set (i := 1) sc_law.nd rfl (by first | exact Or.inl rfl | exact Or.inr rfl) (pe_call G_law_tape (hr.mono (by decide)) (by rfl) m_law_tape k_law_tape b_law_tape .nil pass0 (pa_cons (pv 0) (pa_cons pe_int (pa_cons pe_int pa_nil)))))
      (pss_cons (ps_set (i := 2) sc_law.nd rfl (by first | exact Or.inl rfl | exact Or.inr rfl) (pe_call G_law_drawn_text (hr.mono (by decide)) (by rfl) m_law_drawn_text k_law_drawn_text b_law_drawn_text .nil pass0 (pa_cons (pv 0) (pa_cons (pv 1) pa_nil))))
      (pss_cons (ps_set (i := 3) sc_law.nd rfl (by first | exact Or.inl rfl | exact Or.inr rfl) (pe_call G_law_fault (hr.mono (by decide)) (by rfl) m_law_fault k_law_fault b_law_fault .nil pass0 (pa_cons (pv 2) pa_nil)))
      (pss_cons (ps_set (i := 4) sc_law.nd rfl (by first | exact Or.inl rfl | exact Or.inr rfl) pe_non)
      (pss_cons (ps_set (i := 5) sc_law.nd rfl (by first | exact Or.inl rfl | exact Or.inr rfl) pe_non)
      (pss_cons (ps_set (i := 6) sc_law.nd rfl (by first | exact Or.inl rfl | exact Or.inr rfl) pe_bl)
      (pss_cons (ps_try_as (i := 7) rfl rfl sc_law.nd rfl rfl ⟨rfl, by decide, .inl (We.m "BadNotation" (by decide +kernel))⟩ takes0 (fun W pn xe tk _ => (pss_one (ps_set (i := 5) sc_law.nd rfl (by first | exact Or.inl rfl | exact Or.inr rfl) (pe_callS G_read (hr.mono (by decide)) (by rfl) m_read k_read b_read (fun σ => passAt tk σ) (pa_cons (pv 2) pa_nil)))))
      (fun a oe cls d pn hz hf => (pss_cons (ps_set (i := 6) sc_law.nd rfl (by first | exact Or.inl rfl | exact Or.inr rfl) pe_bl)
      (pss_one (ps_set (i := 4) sc_law.nd rfl (by first | exact Or.inl rfl | exact Or.inr rfl) (Bd.pe_xg hz hf (pv 7)))))))
      (pss_cons (ps_if (PW.pt (pw_and (pt_cmpR op_lt (pv 3) pe_int (nomark _)) (pw_and1 (PW.pt (pw_or (pt_val (pv 6)) (pw_or1 (pt_cmpR op_ne (pe_call G_law_written (hr.mono (by decide)) (by rfl) m_law_written k_law_written b_law_written .nil pass0 (pa_cons (pv 5) pa_nil)) (pv 2) (nomark _)))))))) (pss_one (ps_ret pe_bl)) pss_nil)
      (pss_cons (ps_if (PW.pt (pw_and (pt_cmpR op_ge (pv 3) pe_int (nomark _)) (pw_and1 (PW.pt (pw_or (pt_not (pt_val (pv 6))) (pw_or (pt_not (pt_val (pe_callB call_isi (by rfl) z_isinstance boot_isinstance (pa_cons (pv 4) (pa_cons (pe_bltn (v := .ty "int") (by rfl) z_int boot_int rfl) pa_nil))))) (pw_or (pt_val (pe_callB call_isi (by rfl) z_isinstance boot_isinstance (pa_cons (pv 4) (pa_cons (pe_bltn (v := .ty "bool") (by rfl) z_bool boot_bool rfl) pa_nil)))) (pw_or1 (pt_cmpR op_ne (pv 4) (pv 3) (nomark _)))))))))) (pss_one (ps_ret pe_bl)) pss_nil)
      (pss_cons (ps_if (PW.pt (pw_and (pt_cmpR op_ge (pv 3) pe_int (nomark _)) (pw_and1 (pt_not (pt_val (pe_call G_law_raises_base (hr.mono (by decide)) (by rfl) m_law_raises_base k_law_raises_base b_law_raises_base .nil pass0 (pa_cons (pv 2) pa_nil))))))) (pss_one (ps_ret pe_bl)) pss_nil)
      (pss_cons (ps_set (i := 8) sc_law.nd rfl (by first | exact Or.inl rfl | exact Or.inr rfl) (pe_op op_add_str (pe_op op_add_str (pe_op op_add_str (pe_op op_add_str pe_str (pe_callTy call_str_int (by rfl) z_str boot_str (pa_cons (pe_callB call_len_str (by rfl) z_len boot_len (pa_cons (pv 2) pa_nil)) pa_nil))) pe_str) (pv 2)) pe_str))
      (pss_cons (ps_if (pt_cmpR op_gt (pe_callB call_len_str (by rfl) z_len boot_len (pa_cons (pv 2) pa_nil)) pe_int (nomark _)) (pss_one (ps_set (i := 8) sc_law.nd rfl (by first | exact Or.inl rfl | exact Or.inr rfl) pe_str)) pss_nil)
      (pss_cons (ps_set (i := 9) sc_law.nd rfl (by first | exact Or.inl rfl | exact Or.inr rfl) (pe_callS G_read (hr.mono (by decide)) (by rfl) m_read k_read b_read (fun _ => Fa.passNo) (pa_cons (pv 8) pa_nil)))
      (pss_one (ps_ret (pe_and (pe_callB call_isi (by rfl) z_isinstance boot_isinstance (pa_cons (pv 9) (pa_cons (pe_bltn (v := .ty "tuple") (by rfl) z_tuple boot_tuple rfl) pa_nil))) (pe_one (pe_cmpR op_eq (pe_call G_law_written (hr.mono (by decide)) (by rfl) m_law_written k_law_written b_law_written .nil pass0 (pa_cons (pv 9) pa_nil)) (pv 8) (nomark _))))))))))))))))))), ?_⟩
    try simp only [Rd.cxK, Re.cxP, Re.cxW, lit_1, lit_40, lit_41, lit_5]
    walk_at "rn"
    refine ⟨_, ?u25_ns, _, _, rfl, ?u25_p0, ?u25_p1, ?u25_p2, ?u25_p3, fun p nums H1 s1 hp0 hp hl1 hl2 hb3 => ?_⟩
    case u25_p0 => walk_at "pre"
    case u25_p1 => walk_at "pre"
    case u25_p2 => walk_at "pre"
    case u25_p3 => walk_at "pre"
    walk_at "rn"
    refine ⟨a, p, ns, nums, rfl, s1.seq hS, hbt, hp, hb3, ⟨hl2, hl1⟩, fun l H2 s2 hg hl => ?_⟩
    have hS2 := (s1.trans s2).seq hS
    walk_at "rn"
    refine ⟨_, rfl, ?u26_p0, ?u26_p1, fun z hz => ?_⟩
    case u26_p0 => walk_at "pre"
    case u26_p1 => walk_at "pre"
    repeat ((fail_if_success (with_reducible show tSeq (fun D σ H => tAsg (tCallS _ _ _) _ D σ H) _ _ _ _)); walk_at "rd1")
    refine Rd.join (fun σ' H' => ∃ (pl vl : V) (rs : Bool), σ' = [some (.ref a), some (.ref p), some (.str (Rd.S l)), some (.int z), some pl, some vl, some (.bl rs), none, none, none] ∧ ((rs = false ∧ Nt.Run l false 0 0 none ∧ ∃ d, Dp K H' vl d ∧ l = wr d ∧ gw d = true ∧ PyData.depth d ≤ 12) ∨ (rs = true ∧ ∃ q : Nat, pl = .int q ∧ Nt.Run l false 0 0 (some q)))) ?_ ?_
    · intro N hN
      refine clS ?_
      walk_at "rn"
      refine ⟨l, rfl, hg, by omega, fun q hq d H3 s3 hd hd2 => ?_, fun v d H3 hn he hgd hdd s3 hv => ?_⟩
      · refine ⟨true, (We.kit "BadNotation" "BadNotation" (by decide +kernel) (by decide +kernel)).2, fun _ a' ha => ?_, (fun q => nomatch q)⟩
        walk_at "rn"
        refine xgE We (by decide +kernel) rfl hd2 ?_
        show N _ _
        exact hN _ _ ⟨.int q, .non, true, rfl, .inr ⟨rfl, q, rfl, hq⟩⟩
      · walk_at "rn"
        exact hN _ _ ⟨.non, v, false, rfl, .inl ⟨rfl, hn, d, hv, he, hgd, hdd⟩⟩
    rintro σ' H3 ⟨pl, vl, rs, rfl, hc⟩
    refine Rd.join (fun σ' H' => σ' = [some (.ref a), some (.ref p), some (.str (Rd.S l)), some (.int z), some pl, some vl, some (.bl rs), none, none, none]) ?_ ?_
    · intro N hN
      rcases hc with ⟨rfl, hn, d, hv, he, hgd, hdd⟩ | ⟨rfl, q, rfl, hq⟩
      · rcases hz with ⟨p2, h1, _⟩ | ⟨_, rfl⟩
        · exact absurd (h1.det hn) (by simp)
        · subst he
          walk_at "rn"
          refine ⟨vl, d, rfl, hv, hgd, by omega, by omega, fun H4 s4 => ?_⟩
          walk_at "rn"
          all_goals first | exact hN _ _ rfl | (rename_i h; exact absurd rfl h)
      · rcases hz with ⟨p2, h1, rfl⟩ | ⟨h1, _⟩
        · walk_at "rn"
          exact hN _ _ rfl
        · exact absurd (h1.det hq) (by simp)
    have hc : (rs = false ∧ z = -1) ∨ (rs = true ∧ pl = .int z ∧ 0 ≤ z ∧ ∃ q : Nat, Nt.Run l false 0 0 (some q)) := by
      rcases hc with ⟨h0, hn, _⟩ | ⟨h0, q, h1, hq⟩
      · rcases hz with ⟨p2, h2, _⟩ | ⟨_, h2⟩
        · exact absurd (h2.det hn) (by simp)
        · exact .inl ⟨h0, h2⟩
      · rcases hz with ⟨p2, h2, h3⟩ | ⟨h2, _⟩
        · cases h2.det hq
          exact .inr ⟨h0, by rw [h1, h3], by omega, q, hq⟩
        · exact absurd (h2.det hq) (by simp)
    rintro σ' H4 rfl
    refine Rd.join (fun σ' H' => σ' = [some (.ref a), some (.ref p), some (.str (Rd.S l)), some (.int z), some pl, some vl, some (.bl rs), none, none, none]) ?_ ?_
    · intro N hN
      rcases hc with ⟨rfl, rfl⟩ | ⟨rfl, rfl, h0, q, hq⟩
      · walk_at "rn"
        exact hN _ _ rfl
      · walk_at "rn"
        exact hN _ _ rfl
    rintro σ' H5 rfl
    refine Rd.join (fun σ' H' => σ' = [some (.ref a), some (.ref p), some (.str (Rd.S l)), some (.int z), some pl, some vl, some (.bl rs), none, none, none]) ?_ ?_
    · intro N hN
      rcases hc with ⟨rfl, rfl⟩ | ⟨rfl, rfl, h0, q, hq⟩
      · walk_at "rn"
        exact hN _ _ rfl
      · walk_at "rn"
        refine ⟨l, q, rfl, hg, by omega, hq, fun H5 s5 => ?_⟩
        walk_at "rn"
        exact hN _ _ rfl
    rintro σ' H6 rfl
    walk_at "rnj"
    have hn60 : l.length < 10 ^ 60 := Nat.lt_of_le_of_lt hl (by decide)
    have hnl := TL.numL_len (n := l.length) (k := 5) (by decide) (by omega)
    refine Ez.strN hn60 ?_
    walk_at "rnj"
    refine Rd.join (fun σ' H' => ∃ l' : List Nat, σ' = [some (.ref a), some (.ref p), some (.str (Rd.S l)), some (.int z), some pl, some vl, some (.bl rs), none, some (.str (Rd.S (good l'))), none] ∧ l'.length ≤ 1000 ∧ GT l') ?_ ?_
    · intro N hN
      walk_at "rn"
      · rename_i h
        exact hN _ _ ⟨[], rfl, by decide, fun c hc => by simp at hc⟩
      · rename_i h
        exact hN _ _ ⟨l, by simp [good], by omega, hg⟩
    rintro σ' H7 ⟨l', rfl, hl', hg'⟩
    have hgl := good_len l'
    have hnl' := TL.numL_len (n := l'.length) (k := 4) (by decide) (by omega)
    walk_at "rn"
    refine clS ?_
    walk_at "rn"
    refine ⟨good l', rfl, good_gt hg', by omega, fun p hp => absurd (hp.det (good_run hl')) (by simp), fun v d H8 hn he hgd hdd s8 hv => ?_⟩
    obtain ⟨ds, rfl⟩ := wr_brk hgd (r := TL.numL l'.length ++ 58 :: (l' ++ [32, 53, 41])) he.symm
    have hlw : (wr (.tuple ds)).length ≤ 90000 := by rw [← he]; omega
    rw [he]
    cases hv with
    | tup h1 d1 =>
      walk_at "rn"
      refine ⟨_, .tuple ds, rfl, .tup h1 d1, hgd, hlw, by omega, fun H9 s9 => ?_⟩
      walk_at "rn"
      first | exact k _ | (rw [decide_eq_true rfl]; exact k _) | (simpa using k _)
theorem ok_law {f : Addr} {fd : FuncData} (mf : mg "law" = some (.ref f)) (F : FnP K "law" s_law f fd) (C_law_tape : Cal P w K mg base "_law_tape" 2 ["script", "first", "others"] (sp_law_tape P w K)) (C_law_drawn_text : Cal P w K mg base "_law_drawn_text" 15 ["script", "numbers"] (sp_law_drawn_text P w K)) (C_law_fault : Cal P w K mg base "_law_fault" 2 ["text"] (sp_law_fault P w K)) (C_read : CalX P w K mg base "read" 33 ["text"] (sp_read P w K)) (C_law_written : Cal P w K mg base "_law_written" 14 ["value"] (sp_law_written P w K 14)) (C_law_raises_base : Cal P w K mg base "_law_raises_base" 34 ["text"] (sp_law_raises_base P w K)) (z_isinstance : mg "isinstance" = none) (z_bool : mg "bool" = none) (z_int : mg "int" = none) (z_str : mg "str" = none) (z_len : mg "len" = none) (z_tuple : mg "tuple" = none) (W_errs : StErr EN_ K mg) : Cal P w K mg base "law" 35 ["script"] (sp_law P w K) :=
  ⟨f, fd, mf, F.kp, F.bindsN fun _ _ _ _ _ _ us hl => match us, hl with | [_], _ => rfl, fn_law F C_law_tape C_law_drawn_text C_law_fault C_read C_law_written C_law_raises_base z_isinstance z_bool z_int z_str z_len z_tuple W_errs⟩

end
theorem facts {P : Program} {w : World} {K : PySem.W.Frag} {h : Heap} {mg : Str → Option Value} {f : Addr} (X : K.In h) (G : h.Ns mainGlobals mg) (hfa : mg ("law" : Str) = some (.ref f)) (cx : ex K = true) (c : He.SaysD fa fn K) :
    ∃ fd : FuncData, (∀ (s : Shared) (v : Value), BindsTo s fd ⟨[v], []⟩ [("script", v)]) ∧ ∀ base : Heap, K.In base → base.Ns mainGlobals mg → FnOk P w K mg base CX0 35 f fd ["script"] (sp_law P w K) := by
  obtain ⟨fd_KeptError___init, F_KeptError___init⟩ := c.def_ 0 (d := d_KeptError___init) rfl
  obtain ⟨fd_Scanner___init, F_Scanner___init⟩ := c.def_ 1 (d := d_Scanner___init) rfl
  obtain ⟨fd_Scanner_char, F_Scanner_char⟩ := c.def_ 2 (d := d_Scanner_char) rfl
  obtain ⟨fd_is_digit, F_is_digit⟩ := c.def_ 3 (d := d_is_digit) rfl
  have m_is_digit := He.glo_ok X G (c.fact 0 (f := .glo "_is_digit") rfl)
  obtain ⟨fd_law_cell, F_law_cell⟩ := c.def_ 4 (d := d_law_cell) rfl
  have m_law_cell := He.glo_ok X G (c.fact 1 (f := .glo "_law_cell") rfl)
  obtain ⟨fd_law_numbers, F_law_numbers⟩ := c.def_ 5 (d := d_law_numbers) rfl
  have m_law_numbers := He.glo_ok X G (c.fact 2 (f := .glo "_law_numbers") rfl)
  obtain ⟨fd_law_char, F_law_char⟩ := c.def_ 6 (d := d_law_char) rfl
  have m_law_char := He.glo_ok X G (c.fact 3 (f := .glo "_law_char") rfl)
  obtain ⟨fd_law_integer, F_law_integer⟩ := c.def_ 7 (d := d_law_integer) rfl
  have m_law_integer := He.glo_ok X G (c.fact 4 (f := .glo "_law_integer") rfl)
  obtain ⟨fd_law_atom_end, F_law_atom_end⟩ := c.def_ 8 (d := d_law_atom_end) rfl
  have m_law_atom_end := He.glo_ok X G (c.fact 5 (f := .glo "_law_atom_end") rfl)
  obtain ⟨fd_law_odd, F_law_odd⟩ := c.def_ 9 (d := d_law_odd) rfl
  have m_law_odd := He.glo_ok X G (c.fact 6 (f := .glo "_law_odd") rfl)
  obtain ⟨fd_law_spoilt, F_law_spoilt⟩ := c.def_ 10 (d := d_law_spoilt) rfl
  have m_law_spoilt := He.glo_ok X G (c.fact 7 (f := .glo "_law_spoilt") rfl)
  obtain ⟨fd_Scanner_skip, F_Scanner_skip⟩ := c.def_ 11 (d := d_Scanner_skip) rfl
  obtain ⟨fd_digits, F_digits⟩ := c.def_ 12 (d := d_digits) rfl
  have m_digits := He.glo_ok X G (c.fact 8 (f := .glo "_digits") rfl)
  obtain ⟨fd_law_tape, F_law_tape⟩ := c.def_ 13 (d := d_law_tape) rfl
  have m_law_tape := He.glo_ok X G (c.fact 9 (f := .glo "_law_tape") rfl)
  obtain ⟨fd_law_text, F_law_text⟩ := c.def_ 14 (d := d_law_text) rfl
  have m_law_text := He.glo_ok X G (c.fact 10 (f := .glo "_law_text") rfl)
  obtain ⟨fd_law_fault, F_law_fault⟩ := c.def_ 15 (d := d_law_fault) rfl
  have m_law_fault := He.glo_ok X G (c.fact 11 (f := .glo "_law_fault") rfl)
  obtain ⟨fd_Scanner_require, F_Scanner_require⟩ := c.def_ 16 (d := d_Scanner_require) rfl
  obtain ⟨fd_law_leaf, F_law_leaf⟩ := c.def_ 17 (d := d_law_leaf) rfl
  have m_law_leaf := He.glo_ok X G (c.fact 12 (f := .glo "_law_leaf") rfl)
  obtain ⟨fd_string, F_string⟩ := c.def_ 18 (d := d_string) rfl
  have m_string := He.glo_ok X G (c.fact 13 (f := .glo "_string") rfl)
  obtain ⟨fd_law_value, F_law_value⟩ := c.def_ 19 (d := d_law_value) rfl
  have m_law_value := He.glo_ok X G (c.fact 14 (f := .glo "_law_value") rfl)
  obtain ⟨fd_law_written, F_law_written⟩ := c.def_ 20 (d := d_law_written) rfl
  have m_law_written := He.glo_ok X G (c.fact 15 (f := .glo "_law_written") rfl)
  obtain ⟨fd_law_drawn_text, F_law_drawn_text⟩ := c.def_ 21 (d := d_law_drawn_text) rfl
  have m_law_drawn_text := He.glo_ok X G (c.fact 16 (f := .glo "_law_drawn_text") rfl)
  obtain ⟨fd_tuple, F_tuple⟩ := c.def_ 22 (d := d_tuple) rfl
  have m_tuple := He.glo_ok X G (c.fact 17 (f := .glo "_tuple") rfl)
  obtain ⟨fd_value, F_value⟩ := c.def_ 23 (d := d_value) rfl
  have m_value := He.glo_ok X G (c.fact 18 (f := .glo "_value") rfl)
  obtain ⟨fd_read, F_read⟩ := c.def_ 24 (d := d_read) rfl
  have m_read := He.glo_ok X G (c.fact 19 (f := .glo "read") rfl)
  obtain ⟨fd_law_raises_base, F_law_raises_base⟩ := c.def_ 25 (d := d_law_raises_base) rfl
  have m_law_raises_base := He.glo_ok X G (c.fact 20 (f := .glo "_law_raises_base") rfl)
  obtain ⟨fd_law, F_law⟩ := c.def_ 26 (d := d_law) rfl
  have m_law := He.glo_ok X G (c.fact 21 (f := .glo "law") rfl)
  have z_ValueError := He.free_ok X G (c.fact 22 (f := .free "ValueError") rfl)
  have z_abs := He.free_ok X G (c.fact 23 (f := .free "abs") rfl)
  have z_bool := He.free_ok X G (c.fact 24 (f := .free "bool") rfl)
  have z_int := He.free_ok X G (c.fact 25 (f := .free "int") rfl)
  have z_isinstance := He.free_ok X G (c.fact 26 (f := .free "isinstance") rfl)
  have z_len := He.free_ok X G (c.fact 27 (f := .free "len") rfl)
  have z_max := He.free_ok X G (c.fact 28 (f := .free "max") rfl)
  have z_min := He.free_ok X G (c.fact 29 (f := .free "min") rfl)
  have z_ord := He.free_ok X G (c.fact 30 (f := .free "ord") rfl)
  have z_range := He.free_ok X G (c.fact 31 (f := .free "range") rfl)
  have z_str := He.free_ok X G (c.fact 32 (f := .free "str") rfl)
  have z_tuple := He.free_ok X G (c.fact 33 (f := .free "tuple") rfl)
  have y0 := Bool.and_eq_true_iff.mp cx
  have x0 := y0.1
  have y1 := Bool.and_eq_true_iff.mp y0.2
  have x1 := y1.1
  have W_Scanner : CF_Scanner K mg := ⟨He.cls_ok (c.fact 34 (f := .cls "Scanner") rfl), He.glo_ok X G (c.fact 35 (f := .glo "Scanner") rfl), He.mkr_ok (c.fact 36 (f := .mkr "Scanner") rfl), He.meth_ok (c.fact 37 (f := .meth "Scanner" "char") rfl), He.meth_ok (c.fact 38 (f := .meth "Scanner" "require") rfl), He.meth_ok (c.fact 39 (f := .meth "Scanner" "skip") rfl), He.noat_ok (c.fact 40 (f := .noat "Scanner" "at") rfl), He.noat_ok (c.fact 41 (f := .noat "Scanner" "text") rfl)⟩
  have W_VErr : vErrs K = true := x0
  have W__LONGEST_STRING : ∃ t, mg "_LONGEST_STRING" = some (.int 1000 t) := He.int_ok X G (c.fact 43 (f := .int "_LONGEST_STRING" 1000) rfl)
  have W__MOST_DEPTH : ∃ t, mg "_MOST_DEPTH" = some (.int 12 t) := He.int_ok X G (c.fact 44 (f := .int "_MOST_DEPTH" 12) rfl)
  have W__MOST_DIGITS : ∃ t, mg "_MOST_DIGITS" = some (.int 60 t) := He.int_ok X G (c.fact 45 (f := .int "_MOST_DIGITS" 60) rfl)
  have W__PERCENT : ∃ t, mg "_PERCENT" = some (.int 37 t) := He.int_ok X G (c.fact 46 (f := .int "_PERCENT" 37) rfl)
  have W_errs : StErr EN_ K mg := ⟨glo6 (And.intro (He.glo_ok X G (c.fact 47 (f := .glo "KeptError") rfl)) (And.intro (He.glo_ok X G (c.fact 48 (f := .glo "RecordError") rfl)) (And.intro (He.glo_ok X G (c.fact 49 (f := .glo "BadNotation") rfl)) (And.intro (He.glo_ok X G (c.fact 50 (f := .glo "BadRecord") rfl)) (And.intro (He.glo_ok X G (c.fact 51 (f := .glo "BadLine") rfl)) (True.intro)))))), x1⟩
  have e := hfa.symm.trans m_law
  cases e
  have b := FunD.bindsA (ps := ["script"]) F_law fun _ _ _ _ _ _ us hl => match us, hl with | [_], _ => rfl
  refine ⟨fd_law, fun s v => b s [v] rfl, fun base _ _ => ?_⟩
  have C_KeptError___init := ok_KeptError___init (P := P) (w := w) (mg := mg) (base := base) F_KeptError___init 
  have C_Scanner___init := ok_Scanner___init (P := P) (w := w) (mg := mg) (base := base) F_Scanner___init W_Scanner
  have C_Scanner_char := ok_Scanner_char (P := P) (w := w) (mg := mg) (base := base) F_Scanner_char z_len W_Scanner
  have C_is_digit := ok_is_digit (P := P) (w := w) (mg := mg) (base := base) m_is_digit F_is_digit 
  have C_law_cell := ok_law_cell (P := P) (w := w) (mg := mg) (base := base) m_law_cell F_law_cell z_len
  have C_law_numbers := ok_law_numbers (P := P) (w := w) (mg := mg) (base := base) m_law_numbers F_law_numbers z_abs z_range z_int
  have C_law_char := ok_law_char (P := P) (w := w) (mg := mg) (base := base) m_law_char F_law_char z_int
  have C_law_integer := ok_law_integer (P := P) (w := w) (mg := mg) (base := base) m_law_integer F_law_integer z_int z_abs
  have C_law_atom_end := ok_law_atom_end (P := P) (w := w) (mg := mg) (base := base) m_law_atom_end F_law_atom_end z_range z_len z_int
  have C_law_odd := ok_law_odd (P := P) (w := w) (mg := mg) (base := base) m_law_odd F_law_odd z_int
  have C_law_spoilt := ok_law_spoilt (P := P) (w := w) (mg := mg) (base := base) m_law_spoilt F_law_spoilt z_int z_len
  have C_Scanner_skip := ok_Scanner_skip (P := P) (w := w) (mg := mg) (base := base) F_Scanner_skip C_Scanner_char W_Scanner
  have C_digits := ok_digits (P := P) (w := w) (mg := mg) (base := base) m_digits F_digits C_Scanner_char C_is_digit z_int W_Scanner W__MOST_DIGITS
  have C_law_tape := ok_law_tape (P := P) (w := w) (mg := mg) (base := base) m_law_tape F_law_tape C_law_numbers C_law_cell
  have C_law_text := ok_law_text (P := P) (w := w) (mg := mg) (base := base) m_law_text F_law_text C_law_char z_int z_range
  have C_law_fault := ok_law_fault (P := P) (w := w) (mg := mg) (base := base) m_law_fault F_law_fault C_law_atom_end z_range z_len
  have C_Scanner_require := ok_Scanner_require (P := P) (w := w) (mg := mg) (base := base) F_Scanner_require C_KeptError___init W_errs W_Scanner
  have C_law_leaf := ok_law_leaf (P := P) (w := w) (mg := mg) (base := base) m_law_leaf F_law_leaf C_law_integer C_law_text z_int
  have C_string := ok_string (P := P) (w := w) (mg := mg) (base := base) m_string F_string C_Scanner_require z_ord z_len W_Scanner W__PERCENT
  have C_law_value := ok_law_value (P := P) (w := w) (mg := mg) (base := base) m_law_value F_law_value C_law_leaf C_law_cell z_range z_len z_min z_max z_tuple
  have C_law_written := ok_law_written (P := P) (w := w) (mg := mg) (base := base) m_law_written F_law_written z_isinstance z_bool z_int z_str z_len z_tuple
  have C_law_drawn_text := ok_law_drawn_text (P := P) (w := w) (mg := mg) (base := base) m_law_drawn_text F_law_drawn_text C_law_odd C_law_written C_law_value C_law_spoilt z_min z_len z_int z_range
  have C_value := ok_value (P := P) (w := w) (mg := mg) (base := base) m_value F_value m_tuple F_tuple C_Scanner_char C_Scanner_require C_digits C_is_digit C_Scanner_skip C_string W_Scanner W__MOST_DEPTH W__LONGEST_STRING z_tuple
  have C_read := ok_read (P := P) (w := w) (mg := mg) (base := base) m_read F_read C_Scanner___init C_value C_Scanner_require C_Scanner_char W_Scanner
  have C_law_raises_base := ok_law_raises_base (P := P) (w := w) (mg := mg) (base := base) m_law_raises_base F_law_raises_base C_read z_isinstance z_ValueError W_errs W_VErr
  exact fn_law (P := P) (w := w) (mg := mg) (base := base) F_law C_law_tape C_law_drawn_text C_law_fault C_read C_law_written C_law_raises_base z_isinstance z_bool z_int z_str z_len z_tuple W_errs
end NK73
open PySem PySem.W PySem.Calls PyProof.Rows
set_option maxRecDepth 100000 in
set_option maxHeartbeats 0 in
theorem PySem.Challenge.cw_keptcoin_k73_strict_reading_holds : PySem.Challenge.rw_keptcoin_k73_strict_reading.Holds := by
  w_on; o_law
  refine HandSHeadRun.head_any (r := OpenLaw.row PySem.Challenge.rw_keptcoin_k73_strict_reading) (q := view (OpenLaw.row PySem.Challenge.rw_keptcoin_k73_strict_reading).prog [34]) (H := NK73.hk) (ob := NK73.ob) (M := 20000) (loose := [("KeptError" : PySem.Str), ("RecordError" : PySem.Str), ("BadNotation" : PySem.Str), ("BadRecord" : PySem.Str), ("BadLine" : PySem.Str), ("_MOST_DEPTH" : PySem.Str), ("_MOST_DIGITS" : PySem.Str), ("_LONGEST_STRING" : PySem.Str), ("_PERCENT" : PySem.Str), ("Scanner" : PySem.Str), ("read" : PySem.Str), ("_value" : PySem.Str), ("_is_digit" : PySem.Str), ("_digits" : PySem.Str), ("_string" : PySem.Str), ("_tuple" : PySem.Str), ("_law_cell" : PySem.Str), ("_law_numbers" : PySem.Str), ("_law_tape" : PySem.Str), ("_law_char" : PySem.Str), ("_law_text" : PySem.Str), ("_law_integer" : PySem.Str), ("_law_leaf" : PySem.Str), ("_law_value" : PySem.Str), ("_law_written" : PySem.Str), ("_law_atom_end" : PySem.Str), ("_law_fault" : PySem.Str), ("_law_odd" : PySem.Str), ("_law_spoilt" : PySem.Str), ("_law_drawn_text" : PySem.Str), ("_law_raises_base" : PySem.Str)]) (d := HandSHeadRun.topDef (OpenLaw.row PySem.Challenge.rw_keptcoin_k73_strict_reading).prog 34) (kwd := []) NK73.ob_eq
    (by kernel_rfl) (fun s => by kernel_rfl) NK73.run (by kernel_rfl) (by kernel_rfl) (by kernel_rfl) (by rfl) (by first | assumption | decide +kernel) (by decide +kernel) ⟨rfl, rfl, rfl, rfl, rfl, by decide +kernel⟩ ?hw ?hc
  case hw => w_witness2
  case hc =>
    refine L2.walk_ofEB (l := PySem.Challenge.rw_keptcoin_k73_strict_reading) (n := 63) (k := 35) (x := "script") (CX := L2.CX0) rfl (by decide) (by kernel_rfl) ⟨rfl, by decide, by decide⟩ ?F (fun _ _ _ _ z => z)
    intro w mg fa h Y G hmg0
    obtain ⟨K, KX, c⟩ := Y
    have hmg : mg ("law" : PySem.Str) = some (.ref fa) := by
      have e : (HandSHeadRun.topDef (OpenLaw.row PySem.Challenge.rw_keptcoin_k73_strict_reading).prog 34).name = ("law" : PySem.Str) := by kernel_rfl
      rw [← e]
      exact hmg0
    obtain ⟨fd, hb, hF⟩ := NK73.facts (P := (PySem.Challenge.rw_keptcoin_k73_strict_reading).prog) (w := w) KX G hmg c.more c.t.d
    exact ⟨K, fd, NK73.sp_law (PySem.Challenge.rw_keptcoin_k73_strict_reading).prog w K, KX, hb, fun H a ns hl hbits _ hS => ⟨a, ns, rfl, hS, hl, hbits, fun _ => rfl⟩, hF⟩


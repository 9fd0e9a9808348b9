import PyProof.Rows.All
import Wide.All
import OpenK.AllK
import Wide.FinOn
import KE.KStateDown
import HandS.Base
import HandS.Call
import HandS.List
import HandS.Comp
import HandS.Ends
import HandS.Dict
import HandS.Iter
import HandS.Text
import HandS.More
import HandS.Words
import HandS.WordsList
import HandS.WordsExc
import HandS.Defaults
import HandS.Wide
import HandS.IsInst
import HandS.Flow
import HandS.TupAny
import HandS.Head0
import HandS.Head1
import HandS.Head2
import HandS.HeadEnd
import HandS.HeadHook1
import HandS.HeadHook2
import HandS.HeadHook3
import HandS.HeadHook4
import HandS.Style
import HandS.Steps
import KE.KOpsOwn
import HandS.OwnEq
import HandS.SortOrd
import HandS.DictTup
import HandS.DictComp
import HandS.Conv
import PyProof.TupleOfGen
import HandS.Deep
import PyProof.InstNe
import HandS.Codes
import KE.KOwnIter
import HandS.IterVal
import KE.KTupTruth
import PyProof.Rows.Range3
import HandS.ClsMeth
import HandS.HeadNt
import HandS.Property
import HandS.FStr
import PyProof.DictMoreH
import KE.KDictCopyH
import KE.KDictWalk
import HandS.ListItems
import HandS.SetBool
import HandS.Strs
import KE.KAssignIn
import HandS.Star
import HandS.SortInts
import HandS.CallLocal
import HandS.Exc
import KE.KExcIs
import KE.KIsAll
import HandS.ExcOwn
import HandS.ExcInit
import HandS.ExcIs
import HandS.ExcField
import HandS.MakeKwOnly
import HandS.TryMany
import HandS.Lambda
import PySem.Challenge.RW_keptcoin_k44_one_change_at_a_time
set_option Elab.async false
set_option linter.all false
set_option maxRecDepth 100000
/-! Reading rules: each reading of the hand layer as one step towards what follows. -/
namespace Rd
open PySem PySem.Spec PyProof.Rows L2

/-! ### heaps -/
theorem same_new {H : Hp} {p : Addr} {o : HO} (h : H p = none) : Same H (upd H p o) := fun b x e => by
  rw [upd_ne (ne_of_none e h)]
  exact e
/-- an object that H does not know may change -/
theorem same_mut {H H' : Hp} {p : Addr} {o : HO} (e : Same H H') (h : H p = none) : Same H (upd H' p o) := fun a u ha => by
  rw [upd_ne (ne_of_none ha h)]
  exact e a u ha
theorem same_tup {K : PySem.W.Frag} {H H' : Hp} {a : Addr} {xs : List V} (e : Same H H') (h : SqT K H a xs) : SqT K H' a xs := by
  rcases h with (h | ⟨o, h⟩) | h
  · exact .inl (.inl (e _ _ h))
  · exact .inl (.inr ⟨o, e _ _ h⟩)
  · exact .inr h
theorem nl {K : PySem.W.Frag} {H : Hp} {p a : Addr} {o : HO} {xs : List V} (hp : H p = none) (h : SqL K H a xs) : SqL K (upd H p o) a xs := (same_new hp).seq h
theorem nt {K : PySem.W.Frag} {H : Hp} {p a : Addr} {o : HO} {xs : List V} (hp : H p = none) (h : SqT K H a xs) : SqT K (upd H p o) a xs := same_tup (same_new hp) h
theorem nh {H : Hp} {p a : Addr} {o u : HO} (hp : H p = none) (h : H a = some u) : upd H p o a = some u := same_new hp _ _ h
theorem slT {K : PySem.W.Frag} {H : Hp} {p : Addr} {xs : List V} : SqT K (upd H p (.tup xs)) p xs := SqT.of upd_same
theorem slL {K : PySem.W.Frag} {H : Hp} {p : Addr} {xs : List V} : SqL K (upd H p (.lst xs)) p xs := SqL.of upd_same
theorem small {n : Nat} (h : n ≤ 100000) : n ≤ sizeLine := Nat.le_trans h (by decide)
theorem smallT {n : Nat} (h : n < 100000) : n < sizeLine := Nat.lt_of_lt_of_le h (by decide)

theorem ul {K : PySem.W.Frag} {H : Hp} {p a : Addr} {o : HO} {xs : List V} (hp : a ≠ p) (h : SqL K H a xs) : SqL K (upd H p o) a xs := by
  rcases h with (h | ⟨u, h⟩) | h
  · exact .inl (.inl ((upd_ne hp).trans h))
  · exact .inl (.inr ⟨u, (upd_ne hp).trans h⟩)
  · exact .inr h
theorem ut {K : PySem.W.Frag} {H : Hp} {p a : Addr} {o : HO} {xs : List V} (hp : a ≠ p) (h : SqT K H a xs) : SqT K (upd H p o) a xs := by
  rcases h with (h | ⟨u, h⟩) | h
  · exact .inl (.inl ((upd_ne hp).trans h))
  · exact .inl (.inr ⟨u, (upd_ne hp).trans h⟩)
  · exact .inr h
theorem uh {H : Hp} {p a : Addr} {o u : HO} (hp : a ≠ p) (h : H a = some u) : upd H p o a = some u := (upd_ne hp).trans h
/-! ### expressions -/
section
variable {σ : L2.St} {H : Hp} {Q : VK} {ta tb te tc : TE} {K : PySem.W.Frag}
theorem var {i : Nat} {v : V} (h : σ[i]? = some (some v)) (k : Q v H) : tVar i σ H Q := ⟨v, h, k⟩
theorem cst {v : V} (k : Q v H) : tC v σ H Q := k
theorem op {r : R2} (k : ta σ H fun x H1 => tb σ H1 fun y H2 => r x y H2 Q) : tOp r ta tb σ H Q := k
theorem un {r : V → Hp → VK → Prop} (k : ta σ H fun x H1 => r x H1 Q) : tUn r ta σ H Q := k
theorem opI0 {g : Int → Int → V} {i j : Int} (k : Q (g i j) H) : rI0 g (.int i) (.int j) H Q := ⟨i, j, rfl, rfl, k⟩
theorem opI {C : Int → Int → Prop} {g : Int → Int → V} {i j : Int} (c : C i j) (k : Q (g i j) H) : rI C g (.int i) (.int j) H Q := ⟨i, j, rfl, rfl, c, k⟩
theorem opU {g : Int → V} {i : Int} (k : Q (g i) H) : rU g (.int i) H Q := ⟨i, rfl, k⟩
theorem eqI {i j : Int} (k : Q (.bl (decide (i = j))) H) : rEq (.int i) (.int j) H Q := ⟨rfl, by
  have e : decide (V.int i = V.int j) = decide (i = j) := by simp
  rw [e]; exact k⟩
theorem neI {i j : Int} (k : Q (.bl (!decide (i = j))) H) : rNe (.int i) (.int j) H Q := ⟨rfl, by
  have e : decide (V.int i = V.int j) = decide (i = j) := by simp
  rw [e]; exact k⟩
theorem eqS {i j : Str} (k : Q (.bl (decide (i = j))) H) : rEq (.str i) (.str j) H Q := ⟨rfl, by
  have e : decide (V.str i = V.str j) = decide (i = j) := by simp
  rw [e]; exact k⟩
theorem neS {i j : Str} (k : Q (.bl (!decide (i = j))) H) : rNe (.str i) (.str j) H Q := ⟨rfl, by
  have e : decide (V.str i = V.str j) = decide (i = j) := by simp
  rw [e]; exact k⟩
theorem eqB {i j : Bool} (k : Q (.bl (decide (i = j))) H) : rEq (.bl i) (.bl j) H Q := ⟨rfl, by
  have e : decide (V.bl i = V.bl j) = decide (i = j) := by simp
  rw [e]; exact k⟩
theorem neB {i j : Bool} (k : Q (.bl (!decide (i = j))) H) : rNe (.bl i) (.bl j) H Q := ⟨rfl, by
  have e : decide (V.bl i = V.bl j) = decide (i = j) := by simp
  rw [e]; exact k⟩
theorem chain {r r' : R2} (k : ta σ H fun x H1 => tb σ H1 fun y H2 => r x y H2 fun z H3 => ∃ k, z = .bl k ∧ (if k = true then tc σ H3 fun w' H4 => r' y w' H4 Q else Q (.bl false) H3)) : tChain r r' ta tb tc σ H Q := k
theorem bl {b : Bool} {P : Bool → Prop} (k : P b) : ∃ c, V.bl b = V.bl c ∧ P c := ⟨b, rfl, k⟩
theorem andV (k : ta σ H fun x H1 => ∃ c, x = .bl c ∧ if c = true then tb σ H1 Q else Q (.bl false) H1) : tAndV ta tb σ H Q := k
theorem orV (k : ta σ H fun x H1 => ∃ c, x = .bl c ∧ if c = true then Q (.bl true) H1 else tb σ H1 Q) : tOrV ta tb σ H Q := k
theorem notV (k : ta σ H fun x H1 => ∃ c, x = .bl c ∧ Q (.bl (!c)) H1) : tNotV ta σ H Q := k
theorem ifE {t : TT} (k : t σ H fun c H1 => if c = true then ta σ H1 Q else tb σ H1 Q) : tIf t ta tb σ H Q := k
theorem nil {Q : List V → Hp → Prop} (k : Q [] H) : tNil σ H Q := k
theorem cons {tr : TA} {Q : List V → Hp → Prop} (k : ta σ H fun x H1 => tr σ H1 fun xs H2 => Q (x :: xs) H2) : tCons ta tr σ H Q := k
theorem callN {sp : Sp} {E : XK} {t : TA} (k : t σ H fun vs H1 => sp vs H1 Q E) : tCall sp [] E t σ H Q := by
  unfold tCall
  simp only [List.append_nil]
  exact k
theorem cb {r : List V → Hp → VK → Prop} {t : TA} (k : t σ H fun vs H1 => r vs H1 Q) : tCB r t σ H Q := k
theorem tup {t : TA} (k : t σ H fun xs H1 => xs.length ≤ sizeLine ∧ ∀ p, H1 p = none → Q (.ref p) (upd H1 p (.tup xs))) : tTup t σ H Q := k
theorem lst {t : TA} (k : t σ H fun xs H1 => xs.length ≤ sizeLine ∧ ∀ p, H1 p = none → Q (.ref p) (upd H1 p (.lst xs))) : tLst t σ H Q := k
theorem ixL {p : Addr} {xs : List V} {i : Int} {v : V} (h : SqL K H p xs) (a : atI xs i = some v) (k : Q v H) : rIxL K (.ref p) (.int i) H Q := ⟨p, xs, i, v, rfl, rfl, h, a, k⟩
theorem ixT {p : Addr} {xs : List V} {i : Int} {v : V} (h : SqT K H p xs) (a : atI xs i = some v) (k : Q v H) : rIxT K (.ref p) (.int i) H Q := ⟨p, xs, i, v, rfl, rfl, h, a, k⟩
theorem sl {r : V → Option Int → Option Int → Hp → VK → Prop} {tl th : TO} (k : te σ H fun x H1 => tl σ H1 fun lo H2 => th σ H2 fun hi H3 => r x lo hi H3 Q) : tSl r te tl th σ H Q := k
/-! built-ins whose readings are written out: each by a name -/
def LenK (K : PySem.W.Frag) (xs : List V) (H : Hp) (Q : VK) : Prop := ∃ p ys, xs = [.ref p] ∧ (SqL K H p ys ∨ SqT K H p ys) ∧ Q (.int ys.length) H
def LenSK (xs : List V) (H : Hp) (Q : VK) : Prop := ∃ z : Str, xs = [.str z] ∧ z.length ≤ sizeLine ∧ Q (.int z.length) H
def IntK (xs : List V) (H : Hp) (Q : VK) : Prop := (∃ i, xs = [.int i] ∧ Q (.int i) H) ∨ ∃ k, xs = [.bl k] ∧ Q (.int (if k then 1 else 0)) H
def AbsK (xs : List V) (H : Hp) (Q : VK) : Prop := ∃ i, xs = [.int i] ∧ Q (.int (if i < 0 then -i else i)) H
def StrIK (xs : List V) (H : Hp) (Q : VK) : Prop := ∃ i, xs = [.int i] ∧ i.natAbs.log2 < 1920 ∧ Q (.str (toString i)) H
def LstK (K : PySem.W.Frag) (xs : List V) (H : Hp) (Q : VK) : Prop := ∃ p ys, xs = [.ref p] ∧ (SqL K H p ys ∨ SqT K H p ys) ∧ ∀ l, H l = none → Q (.ref l) (upd H l (.lst ys))
def TupK (K : PySem.W.Frag) (xs : List V) (H : Hp) (Q : VK) : Prop := ∃ p ys, xs = [.ref p] ∧ ((SqL K H p ys ∧ ∀ l, H l = none → Q (.ref l) (upd H l (.tup ys))) ∨ (SqT K H p ys ∧ Q (.ref p) H))
def Max2K (xs : List V) (H : Hp) (Q : VK) : Prop := ∃ i j, xs = [.int i, .int j] ∧ Q (.int (if j > i then j else i)) H
def Min2K (xs : List V) (H : Hp) (Q : VK) : Prop := ∃ i j, xs = [.int i, .int j] ∧ Q (.int (if j < i then j else i)) H
theorem cbLen {t : TA} (k : t σ H fun vs H1 => LenK K vs H1 Q) : tCB (fun xs H Q => ∃ p ys, xs = [V.ref p] ∧ (SqL K H p ys ∨ SqT K H p ys) ∧ Q (.int ys.length) H) t σ H Q := k
theorem cbLenS {t : TA} (k : t σ H fun vs H1 => LenSK vs H1 Q) : tCB (fun xs H Q => ∃ z, xs = [V.str z] ∧ z.length ≤ sizeLine ∧ Q (.int z.length) H) t σ H Q := k
theorem cbInt {t : TA} (k : t σ H fun vs H1 => IntK vs H1 Q) : tCB (fun xs H Q => (∃ i, xs = [V.int i] ∧ Q (.int i) H) ∨ ∃ k, xs = [V.bl k] ∧ Q (.int (if k then 1 else 0)) H) t σ H Q := k
theorem cbAbs {t : TA} (k : t σ H fun vs H1 => AbsK vs H1 Q) : tCB (fun xs H Q => ∃ i, xs = [V.int i] ∧ Q (.int (if i < 0 then -i else i)) H) t σ H Q := k
theorem cbStrI {t : TA} (k : t σ H fun vs H1 => StrIK vs H1 Q) : tCB (fun xs H Q => ∃ i, xs = [V.int i] ∧ i.natAbs.log2 < 1920 ∧ Q (.str (toString i)) H) t σ H Q := k
theorem cbLst {t : TA} (k : t σ H fun vs H1 => LstK K vs H1 Q) : tCB (fun xs H Q => ∃ p ys, xs = [V.ref p] ∧ (SqL K H p ys ∨ SqT K H p ys) ∧ ∀ l, H l = none → Q (.ref l) (upd H l (.lst ys))) t σ H Q := k
theorem cbTup {t : TA} (k : t σ H fun vs H1 => TupK K vs H1 Q) : tCB (fun xs H Q => ∃ p ys, xs = [V.ref p] ∧ ((SqL K H p ys ∧ ∀ l, H l = none → Q (.ref l) (upd H l (.tup ys))) ∨ (SqT K H p ys ∧ Q (.ref p) H))) t σ H Q := k
theorem cbMax2 {t : TA} (k : t σ H fun vs H1 => Max2K vs H1 Q) : tCB (fun xs H Q => ∃ i j, xs = [V.int i, V.int j] ∧ Q (.int (if j > i then j else i)) H) t σ H Q := k
theorem cbMin2 {t : TA} (k : t σ H fun vs H1 => Min2K vs H1 Q) : tCB (fun xs H Q => ∃ i j, xs = [V.int i, V.int j] ∧ Q (.int (if j < i then j else i)) H) t σ H Q := k
def IsNK (x y : V) (H : Hp) (Q : VK) : Prop := y = .non ∧ Q (.bl (decide (x = .non))) H
def NotNK (x y : V) (H : Hp) (Q : VK) : Prop := y = .non ∧ Q (.bl (!decide (x = .non))) H
def AddSK (x y : V) (H : Hp) (Q : VK) : Prop := ∃ i j, x = .str i ∧ y = .str j ∧ i.length + j.length ≤ sizeLine ∧ Q (.str (i ++ j)) H
theorem opIsN (k : ta σ H fun x H1 => tb σ H1 fun y H2 => IsNK x y H2 Q) : tOp (fun x y H Q => y = V.non ∧ Q (.bl (decide (x = .non))) H) ta tb σ H Q := k
theorem opNotN (k : ta σ H fun x H1 => tb σ H1 fun y H2 => NotNK x y H2 Q) : tOp (fun x y H Q => y = V.non ∧ Q (.bl (!decide (x = .non))) H) ta tb σ H Q := k
theorem opAddS (k : ta σ H fun x H1 => tb σ H1 fun y H2 => AddSK x y H2 Q) : tOp (fun x y H Q => ∃ i j, x = V.str i ∧ y = V.str j ∧ i.length + j.length ≤ sizeLine ∧ Q (.str (i ++ j)) H) ta tb σ H Q := k
theorem addS {i j : Str} (h : i.length + j.length ≤ 100000) (k : Q (.str (i ++ j)) H) : AddSK (.str i) (.str j) H Q := ⟨i, j, rfl, rfl, small h, k⟩
theorem isN' {x : V} (k : Q (.bl (decide (x = .non))) H) : IsNK x .non H Q := ⟨rfl, k⟩
theorem notN' {x : V} (k : Q (.bl (!decide (x = .non))) H) : NotNK x .non H Q := ⟨rfl, k⟩
theorem lenS {z : Str} (h : z.length ≤ 100000) (k : Q (.int z.length) H) : LenSK [.str z] H Q := ⟨z, rfl, small h, k⟩
theorem intB {b : Bool} (k : Q (.int (if b then 1 else 0)) H) : IntK [.bl b] H Q := .inr ⟨b, rfl, k⟩
theorem lstL {p : Addr} {ys : List V} (h : SqL K H p ys) (k : ∀ l, H l = none → Q (.ref l) (upd H l (.lst ys))) : LstK K [.ref p] H Q := ⟨p, ys, rfl, .inl h, k⟩
theorem lstT {p : Addr} {ys : List V} (h : SqT K H p ys) (k : ∀ l, H l = none → Q (.ref l) (upd H l (.lst ys))) : LstK K [.ref p] H Q := ⟨p, ys, rfl, .inr h, k⟩
theorem tupL {p : Addr} {ys : List V} (h : SqL K H p ys) (k : ∀ l, H l = none → Q (.ref l) (upd H l (.tup ys))) : TupK K [.ref p] H Q := ⟨p, ys, rfl, .inl ⟨h, k⟩⟩
theorem tupT {p : Addr} {ys : List V} (h : SqT K H p ys) (k : Q (.ref p) H) : TupK K [.ref p] H Q := ⟨p, ys, rfl, .inr ⟨h, k⟩⟩
theorem max2 {i j : Int} (k : ∀ z : Int, i ≤ z → j ≤ z → (z = i ∨ z = j) → Q (.int z) H) : Max2K [.int i, .int j] H Q := ⟨i, j, rfl, k _ (by split <;> omega) (by split <;> omega) (by split <;> omega)⟩
theorem min2 {i j : Int} (k : ∀ z : Int, z ≤ i → z ≤ j → (z = i ∨ z = j) → Q (.int z) H) : Min2K [.int i, .int j] H Q := ⟨i, j, rfl, k _ (by split <;> omega) (by split <;> omega) (by split <;> omega)⟩
theorem lenL {p : Addr} {ys : List V} {n : Nat} (h : SqL K H p ys) (e : ys.length = n) (k : Q (.int n) H) : LenK K [.ref p] H Q := ⟨p, ys, rfl, .inl h, by rw [e]; exact k⟩
theorem lenT {p : Addr} {ys : List V} {n : Nat} (h : SqT K H p ys) (e : ys.length = n) (k : Q (.int n) H) : LenK K [.ref p] H Q := ⟨p, ys, rfl, .inr h, by rw [e]; exact k⟩
theorem int1 {i : Int} (k : Q (.int i) H) : IntK [.int i] H Q := .inl ⟨i, rfl, k⟩
theorem abs1 {i : Int} (k : ∀ z : Int, 0 ≤ z → (z = i ∨ z = -i) → Q (.int z) H) : AbsK [.int i] H Q := ⟨i, rfl, k _ (by split <;> omega) (by split <;> omega)⟩
theorem len {xs : List V} {P : Prop} (h : xs.length ≤ 100000) (k : P) : xs.length ≤ sizeLine ∧ P := ⟨small h, k⟩
theorem pw {a e z : Int} (c : CPow a e) (h : a ^ e.toNat = z) (k : Q (.int z) H) : rI CPow (fun i j => .int (i ^ j.toNat)) (.int a) (.int e) H Q := ⟨a, e, rfl, rfl, c, by subst h; exact k⟩
theorem isi {x c : V} {t u : Value} {b : Bool} (hc : ClsV c u) (ht : TyX K H x t) (e : PySem.W.kitOne K t u = some b) (k : Q (.bl b) H) : rIsi K [x, c] H Q := ⟨x, c, t, u, b, rfl, hc, ht, e, k⟩
/-- a new value of a kind at the end of a derivation -/
theorem fresh {P : Addr → Hp → Prop} {o : HO} (k : ∀ p H', H p = none → H' = upd H p o → P p H') : ∀ p, H p = none → P p (upd H p o) := fun p hp => k p _ hp rfl
end

/-! ### tests, statements -/
section
variable {σ : L2.St} {H : Hp} {n b c : L2.St → Hp → Prop} {r : VK} {ta te : TE} {t u : TS} {D : Ends} {tc td : TT}
theorem tst {Q : Bool → Hp → Prop} (k : te σ H fun x H' => ∃ c, x = .bl c ∧ Q c H') : tTest te σ H Q := k
theorem tB_ {Q : Bool → Hp → Prop} (k : te σ H fun x H' => ∃ c, x = .bl c ∧ Q c H') : tB te σ H Q := k
theorem and_ {Q : Bool → Hp → Prop} (k : tc σ H fun c H1 => if c = true then td σ H1 Q else Q false H1) : tAnd tc td σ H Q := k
theorem or_ {Q : Bool → Hp → Prop} (k : tc σ H fun c H1 => if c = true then Q true H1 else td σ H1 Q) : tOr tc td σ H Q := k
theorem not_ {Q : Bool → Hp → Prop} (k : tc σ H fun c H1 => Q (!c) H1) : tNot tc σ H Q := k
theorem seq (k : t ⟨u ⟨n, r, b, c⟩, r, b, c⟩ σ H) : tSeq t u ⟨n, r, b, c⟩ σ H := k
theorem asg {i : Nat} (k : te σ H fun x H1 => n (σ.set i (some x)) H1) : tAsg te (gName i) ⟨n, r, b, c⟩ σ H := k
theorem asgS {to ti : TE} {ts : TSet} (k : te σ H fun x H1 => to σ H1 fun o H2 => ti σ H2 fun i H3 => ts o i x H3 fun H4 => n σ H4) : tAsg te (gSub to ti ts) ⟨n, r, b, c⟩ σ H := k
theorem ret (k : te σ H r) : tRet te ⟨n, r, b, c⟩ σ H := k
theorem retN (k : r .non H) : tRetN ⟨n, r, b, c⟩ σ H := k
theorem drop (k : te σ H fun _ H1 => n σ H1) : tDrop te ⟨n, r, b, c⟩ σ H := k
theorem next (k : n σ H) : tNext ⟨n, r, b, c⟩ σ H := k
theorem brk (k : b σ H) : tBreak ⟨n, r, b, c⟩ σ H := k
theorem cont (k : c σ H) : tCont ⟨n, r, b, c⟩ σ H := k
theorem ifS (k : tc σ H fun x H1 => if x = true then t D σ H1 else u D σ H1) : tIfS tc t u D σ H := k
theorem aug {i : Nat} {ti : TIp} {x : V} (h : σ[i]? = some (some x)) (k : te σ H fun y H1 => ti x y H1 fun z H2 => n (σ.set i (some z)) H2) : tAug i te ti ⟨n, r, b, c⟩ σ H := ⟨x, h, k⟩
theorem augI {f : Int → Int → Int} {i j : Int} {Q : VK} (k : Q (.int (f i j)) H) : ipI f (.int i) (.int j) H Q := ⟨i, j, rfl, rfl, k⟩
theorem iteT {A B : Prop} (h : A) : if true = true then A else B := by rw [if_pos rfl]; exact h
theorem iteF {A B : Prop} (h : B) : if false = true then A else B := by rw [if_neg Bool.false_ne_true]; exact h
theorem iteD {p : Prop} [Decidable p] {A B : Prop} (h1 : p → A) (h2 : ¬ p → B) : if decide p = true then A else B := by
  by_cases h : p
  · rw [decide_eq_true h]; exact iteT (h1 h)
  · rw [decide_eq_false h]; exact iteF (h2 h)
theorem iteN {p : Prop} [Decidable p] {A B : Prop} (h1 : ¬ p → A) (h2 : p → B) : if (!decide p) = true then A else B := by
  by_cases h : p
  · rw [decide_eq_true h]; exact iteF (h2 h)
  · rw [decide_eq_false h]; exact iteT (h1 h)
theorem iteB {x : Bool} {A B : Prop} (h1 : x = true → A) (h2 : x = false → B) : if x = true then A else B := by
  cases x
  · exact iteF (h2 rfl)
  · exact iteT (h1 rfl)
/-- xs.append(v) -/
theorem app {K : PySem.W.Frag} {to : TE} {t : TA} {Q : VK} (k : to σ H fun x H1 => tyV K "list" x H1 ∧ t σ H1 fun xs H2 => rAppend x xs H2 Q) : tBM K "list" rAppend to t σ H Q := k
theorem tyL {K : PySem.W.Frag} {p : Addr} {xs : List V} {P : Prop} (h : H p = some (.lst xs)) (k : P) : tyV K "list" (.ref p) H ∧ P := ⟨.inl ⟨rfl, _, SqL.of h⟩, k⟩
theorem appd {l : Addr} {xs : List V} {v : V} {Q : VK} (h : H l = some (.lst xs)) (hz : xs.length < 100000) (k : Q .non (upd H l (.lst (xs ++ [v])))) : rAppend (.ref l) [v] H Q := ⟨l, xs, v, rfl, rfl, h, smallT hz, k⟩
theorem setL {p : Addr} {xs : List V} {i : Int} {j : Nat} {v : V} {Q : Hp → Prop} (h : H p = some (.lst xs)) (e : ixN xs.length i = some j) (k : Q (upd H p (.lst (xs.set j v)))) : rSetL (.ref p) (.int i) v H Q := ⟨p, xs, i, j, rfl, rfl, h, e, k⟩
theorem ixN_nat {n j : Nat} (hj : j < n) : ixN n (j : Int) = some j := by
  unfold ixN
  rw [if_pos (by omega), if_pos (by omega)]
  simp
theorem ixN_lit {n : Nat} {i : Int} (h0 : 0 ≤ i) (h : i < n) : ixN n i = some i.toNat := by
  have := @ixN_nat n i.toNat (by omega)
  rwa [Int.toNat_of_nonneg h0] at this
theorem atI_of {α : Type} {xs : List α} {i : Int} {v : α} (h0 : 0 ≤ i) (h : xs[i.toNat]? = some v) : atI xs i = some v := by
  have e := atI_nat (xs := xs) (j := i.toNat) h
  rwa [Int.toNat_of_nonneg h0] at e

theorem atI_ints {ns : List Int} {i : Int} (h0 : 0 ≤ i) (h : i < (ns.length : Int)) : atI (ns.map V.int) i = some (.int (ns.getD i.toNat 0)) := atI_of h0 (by
  have h1 : i.toNat < ns.length := by omega
  rw [List.getElem?_map, List.getD_eq_getElem?_getD, List.getElem?_eq_getElem h1]
  rfl)
theorem getD_bd {ns : List Int} {i : Nat} {lo hi : Int} (hb : ∀ x ∈ ns, lo ≤ x ∧ x < hi) (h : i < ns.length) : lo ≤ ns.getD i 0 ∧ ns.getD i 0 < hi := by
  rw [List.getD_eq_getElem?_getD, List.getElem?_eq_getElem h]
  exact hb _ (List.getElem_mem h)
theorem bd_app {ns : List Int} {x lo hi : Int} (hb : ∀ x ∈ ns, lo ≤ x ∧ x < hi) (hx : lo ≤ x ∧ x < hi) : ∀ y ∈ ns ++ [x], lo ≤ y ∧ y < hi := fun y hy => by
  rcases List.mem_append.mp hy with h | h
  · exact hb y h
  · rw [List.mem_singleton.mp h]; exact hx
theorem cxK {CX : CXT} {P : Program} {w : World} {K : PySem.W.Frag} {mg : Str → Option Value} {base : Heap} {N : List Str} {q : Str} {sc : Scope} {f : Addr} {cdv : Value} {A : Around} {outer : List Env} {s : Shared} {H : Hp} {E : XK} : (cxOf CX P w K mg base N q sc f cdv A outer s H E).K = K := rfl

theorem finT {p : Prop} [Decidable p] {Q : VK} {H : Hp} (k : Q (.bl true) H) (hp : p) : Q (.bl (decide p)) H := by rw [decide_eq_true hp]; exact k
theorem pushInts {H' : Hp} {p : Addr} {nums : List Int} {x : Int} : upd H' p (.lst (nums.map V.int ++ [.int x])) p = some (.lst ((nums ++ [x]).map V.int)) := by rw [upd_same, List.map_append]; rfl

/-! ### loops -/
/-- what a for asks of what it walks -/
def ForJ (g : TG) (tb : TS) (D : Ends) (σ : L2.St) (J : It) (H1 : Hp) : Prop := ∃ W : Nat → Nat → L2.St → Hp → Prop, (∃ m, W 0 m σ H1) ∧ ∀ i m σ H, W i m σ H →
  (J.stop i H ∧ D.nx σ H) ∨ (J.go i H ∧ ∃ N : L2.St → Hp → Prop, (∀ σ' H', N σ' H' → ∃ m', m' < m ∧ W (i + 1) m' σ' H') ∧ ∀ x H', J.yld i H x H' → g x σ H' fun σ2 H2 => tb { D with nx := N, ct := N, bk := D.nx } σ2 H2)
theorem for_ {wi : TI} {g : TG} {tb : TS} (k : wi σ H fun J H1 => ForJ g tb D σ J H1) : tFor wi g tb D σ H := k
theorem iR1 {tl : TA} {R : It → Hp → Prop} (k : tl σ H fun vs H1 => ∃ j : Int, vs = [.int j] ∧ -(2 ^ 62) ≤ j ∧ j < 2 ^ 62 ∧ R (Itr 0 j.toNat) H1) : iRng1 tl σ H R := k
theorem iR2 {tl : TA} {R : It → Hp → Prop} (k : tl σ H fun vs H1 => ∃ i j : Int, vs = [.int i, .int j] ∧ (-(2 ^ 62) ≤ i ∧ i < 2 ^ 62 ∧ -(2 ^ 62) ≤ j ∧ j < 2 ^ 62) ∧ R (Itr i (j - i).toNat) H1) : iRng2 tl σ H R := k
theorem iL {K : PySem.W.Frag} {tl : TE} {R : It → Hp → Prop} (k : tl σ H fun x H1 => ∃ a, x = .ref a ∧ (∃ xs, SqL K H1 a xs) ∧ R (Itl K a) H1) : iList K tl σ H R := k
theorem iT {K : PySem.W.Frag} {tl : TE} {R : It → Hp → Prop} (k : tl σ H fun x H1 => ∃ a, x = .ref a ∧ (∃ xs, SqT K H1 a xs) ∧ R (Itt K a) H1) : iTup K tl σ H R := k
/-- for name in range(m), the argument known -/
theorem rng1 {m : Int} {tb : TS} {j : Nat} (Pv : Nat → L2.St → Hp → Prop) (hb : -1000000 ≤ m ∧ m ≤ 1000000) (h0 : Pv 0 σ H)
    (hs : ∀ (i : Nat) (σ' : L2.St) (H' : Hp), (i : Int) < m → Pv i σ' H' → tb ⟨Pv (i + 1), r, n, Pv (i + 1)⟩ (σ'.set j (some (.int (i : Int)))) H') (hd : ∀ σ' H', Pv m.toNat σ' H' → n σ' H') :
    ∃ q : Int, [V.int m] = [V.int q] ∧ -(2 ^ 62) ≤ q ∧ q < 2 ^ 62 ∧ ForJ (gName j) tb ⟨n, r, b, c⟩ σ (Itr 0 q.toNat) H := by
  obtain ⟨hb1, hb2⟩ := hb
  have p62 : (2 : Int) ^ 62 = 4611686018427387904 := by decide
  refine ⟨m, rfl, by omega, by omega, for_range (lo := 0) (n := m.toNat) Pv h0 (fun i σ' H' hi p => ?_) hd⟩
  have e0 : (0 : Int) + (i : Int) = (i : Int) := Int.zero_add _
  show tb _ (σ'.set j (some (.int ((0 : Int) + (i : Int))))) H'
  rw [e0]
  exact hs i σ' H' (by omega) p
theorem rng2 {lo m : Int} {tb : TS} {j : Nat} (Pv : Nat → L2.St → Hp → Prop) (hb : -1000000 ≤ lo ∧ lo ≤ 1000000 ∧ -1000000 ≤ m ∧ m ≤ 1000000) (h0 : Pv 0 σ H)
    (hs : ∀ (i : Nat) (σ' : L2.St) (H' : Hp), lo + (i : Int) < m → Pv i σ' H' → tb ⟨Pv (i + 1), r, n, Pv (i + 1)⟩ (σ'.set j (some (.int (lo + (i : Int))))) H') (hd : ∀ σ' H', Pv (m - lo).toNat σ' H' → n σ' H') :
    ∃ p q : Int, [V.int lo, V.int m] = [V.int p, V.int q] ∧ (-(2 ^ 62) ≤ p ∧ p < 2 ^ 62 ∧ -(2 ^ 62) ≤ q ∧ q < 2 ^ 62) ∧ ForJ (gName j) tb ⟨n, r, b, c⟩ σ (Itr p (q - p).toNat) H := by
  obtain ⟨hb1, hb2, hb3, hb4⟩ := hb
  have p62 : (2 : Int) ^ 62 = 4611686018427387904 := by decide
  refine ⟨lo, m, rfl, ⟨by omega, by omega, by omega, by omega⟩, for_range (lo := lo) (n := (m - lo).toNat) Pv h0 (fun i σ' H' hi p => ?_) hd⟩
  exact hs i σ' H' (by omega) p
/-- for .. in a list, a tuple -/
theorem forL {K : PySem.W.Frag} {a : Addr} {xs : List V} {g : TG} {tb : TS} (Pv : Nat → L2.St → Hp → Prop) (h : SqL K H a xs) (h0 : Pv 0 σ H) (hl : ∀ i σ H, i ≤ xs.length → Pv i σ H → SqL K H a xs)
    (hs : ∀ (i : Nat) (x : V) (σ' : L2.St) (H' : Hp), xs[i]? = some x → Pv i σ' H' → g x σ' H' fun σ2 H2 => tb ⟨Pv (i + 1), r, n, Pv (i + 1)⟩ σ2 H2) (hd : ∀ σ' H', Pv xs.length σ' H' → n σ' H') :
    ∃ p, V.ref a = V.ref p ∧ (∃ ys, SqL K H p ys) ∧ ForJ g tb ⟨n, r, b, c⟩ σ (Itl K p) H := ⟨a, rfl, ⟨_, h⟩, for_list Pv h0 hl hs hd⟩
theorem forT {K : PySem.W.Frag} {a : Addr} {xs : List V} {g : TG} {tb : TS} (Pv : Nat → L2.St → Hp → Prop) (h : SqT K H a xs) (h0 : Pv 0 σ H) (hl : ∀ i σ H, i ≤ xs.length → Pv i σ H → SqT K H a xs)
    (hs : ∀ (i : Nat) (x : V) (σ' : L2.St) (H' : Hp), xs[i]? = some x → Pv i σ' H' → g x σ' H' fun σ2 H2 => tb ⟨Pv (i + 1), r, n, Pv (i + 1)⟩ σ2 H2) (hd : ∀ σ' H', Pv xs.length σ' H' → n σ' H') :
    ∃ p, V.ref a = V.ref p ∧ (∃ ys, SqT K H p ys) ∧ ForJ g tb ⟨n, r, b, c⟩ σ (Itt K p) H := ⟨a, rfl, ⟨_, h⟩, for_tup Pv h0 hl hs hd⟩
/-- what a list comprehension asks of what it walks -/
def LcJ (g : TG) (tt : TT) (te : TE) (vs : List Nat) (σ : L2.St) (Q : VK) (J : It) (H1 : Hp) : Prop := ∀ D, H1 D = none → ∃ W : Nat → Nat → Hp → Prop, (∃ m, W 0 m (upd H1 D (.lst []))) ∧ ∀ i m H, W i m H →
  (J.stop i H ∧ Q (.ref D) H) ∨ (J.go i H ∧ ∃ Nx : Hp → Prop, (∀ H', Nx H' → ∃ m', m' < m ∧ W (i + 1) m' H') ∧ ∀ x H', J.yld i H x H' → g x (wipe σ vs) H' fun σ2 H2 => wipe σ2 vs = wipe σ vs ∧ tt σ2 H2 fun b H3 =>
    if b = true then te σ2 H3 fun y H4 => ∃ acc, H4 D = some (.lst acc) ∧ acc.length < sizeLine ∧ Nx (upd H4 D (.lst (acc ++ [y]))) else Nx H3)
theorem lc_ {wi : TI} {g : TG} {tt : TT} {te : TE} {vs : List Nat} {Q : VK} (k : wi σ H fun J H1 => LcJ g tt te vs σ Q J H1) : tLc wi g tt te vs σ H Q := k
theorem itrLc {lo : Int} {k : Nat} {g : TG} {tt : TT} {te : TE} {vs : List Nat} {Q : VK} {D : Addr} (Pv : Nat → Hp → Prop) (h0 : Pv 0 (upd H D (.lst [])))
    (hs : ∀ i H, i < k → Pv i H → g (.int (lo + i)) (wipe σ vs) H fun σ2 H2 => wipe σ2 vs = wipe σ vs ∧ tt σ2 H2 fun b H3 =>
      if b = true then te σ2 H3 fun y H4 => ∃ acc, H4 D = some (.lst acc) ∧ acc.length < sizeLine ∧ Pv (i + 1) (upd H4 D (.lst (acc ++ [y]))) else Pv (i + 1) H3) (hd : ∀ H, Pv k H → Q (.ref D) H) :
    ∃ W : Nat → Nat → Hp → Prop, (∃ m, W 0 m (upd H D (.lst []))) ∧ ∀ i m H, W i m H →
      ((Itr lo k).stop i H ∧ Q (.ref D) H) ∨ ((Itr lo k).go i H ∧ ∃ Nx : Hp → Prop, (∀ H', Nx H' → ∃ m', m' < m ∧ W (i + 1) m' H') ∧ ∀ x H', (Itr lo k).yld i H x H' → g x (wipe σ vs) H' fun σ2 H2 => wipe σ2 vs = wipe σ vs ∧ tt σ2 H2 fun b H3 =>
        if b = true then te σ2 H3 fun y H4 => ∃ acc, H4 D = some (.lst acc) ∧ acc.length < sizeLine ∧ Nx (upd H4 D (.lst (acc ++ [y]))) else Nx H3) := by
  refine ⟨fun i m H => m = k - i ∧ i ≤ k ∧ Pv i H, ⟨k, by simp, Nat.zero_le _, h0⟩, ?_⟩
  rintro i m H ⟨rfl, hi, p⟩
  by_cases hlt : i < k
  · refine .inr ⟨hlt, Pv (i + 1), fun H' p' => ⟨k - (i + 1), by omega, rfl, hlt, p'⟩, fun x H' y => ?_⟩
    obtain ⟨e, rfl⟩ := y
    subst e
    exact hs i _ hlt p
  · have e : i = k := by omega
    subst e
    exact .inl ⟨Nat.le_refl _, hd H p⟩
/-- the end of a comprehension's turn: what is made so far, and the invariant -/
def LcE (H : Hp) (D : Addr) (i : Nat) (Pv : Addr → Nat → List V → Hp → Prop) : VK := fun y H4 => ∃ acc, H4 D = some (.lst acc) ∧ acc.length < sizeLine ∧
  ∃ ac, Same H (upd H4 D (.lst (acc ++ [y]))) ∧ ac.length = i + 1 ∧ upd H4 D (.lst (acc ++ [y])) D = some (.lst ac) ∧ Pv D (i + 1) ac (upd H4 D (.lst (acc ++ [y])))
theorem lcE {H H4 : Hp} {D : Addr} {i : Nat} {Pv : Addr → Nat → List V → Hp → Prop} {acc : List V} {y : V} (hD : H D = none) (h : H4 D = some (.lst acc)) (s : Same H H4) (e : acc.length = i) (hi : i < 100000) (k : Pv D (i + 1) (acc ++ [y]) (upd H4 D (.lst (acc ++ [y])))) : LcE H D i Pv y H4 :=
  ⟨acc, h, smallT (by omega), acc ++ [y], same_mut s hD, by simp [e], upd_same, k⟩
/-- [.. for name in range(m)] without a test: Pv i acc H: acc what is made -/
theorem lcR1 {m : Int} {j : Nat} {te : TE} {Q : VK} (Pv : Addr → Nat → List V → Hp → Prop) (hb : -100000 ≤ m ∧ m ≤ 100000) (h0 : ∀ D H', H D = none → Same H H' → H' D = some (.lst []) → Pv D 0 [] H')
    (hs : ∀ (i : Nat) (acc : List V) (D : Addr) (H' : Hp), H D = none → Same H H' → (i : Int) < m → acc.length = i → H' D = some (.lst acc) → Pv D i acc H' → te (σ.set j (some (.int (i : Int)))) H' (LcE H D i Pv))
    (hd : ∀ D acc H', H D = none → Same H H' → H' D = some (.lst acc) → acc.length = m.toNat → Pv D m.toNat acc H' → Q (.ref D) H') :
    ∃ q : Int, [V.int m] = [V.int q] ∧ -(2 ^ 62) ≤ q ∧ q < 2 ^ 62 ∧ LcJ (gName j) tYes te [j] σ Q (Itr 0 q.toNat) H := by
  obtain ⟨hb1, hb2⟩ := hb
  have p62 : (2 : Int) ^ 62 = 4611686018427387904 := by decide
  refine ⟨m, rfl, by omega, by omega, fun D hD => ?_⟩
  refine itrLc (fun i H' => ∃ acc, Same H H' ∧ acc.length = i ∧ H' D = some (.lst acc) ∧ Pv D i acc H') ⟨[], same_new hD, rfl, upd_same, h0 D _ hD (same_new hD) upd_same⟩ ?_ ?_
  · rintro i H' hi ⟨acc, s, e, hD', p⟩
    have e0 : (0 : Int) + (i : Int) = (i : Int) := Int.zero_add _
    rw [e0]
    refine ⟨show wipe ((wipe σ [j]).set j (some (.int (i : Int)))) [j] = wipe σ [j] by simp [wipe], ?_⟩
    show te ((wipe σ [j]).set j (some (.int (i : Int)))) H' (LcE H D i Pv)
    have ew : (wipe σ [j]).set j (some (.int (i : Int))) = σ.set j (some (.int (i : Int))) := by simp [wipe]
    rw [ew]
    exact hs i acc D H' hD s (by omega) e hD' p
  · rintro H' ⟨acc, s, e, hD', p⟩
    exact hd D acc H' hD s hD' e p
/-- [.. for name in a list] without a test -/
theorem lcL {K : PySem.W.Frag} {a : Addr} {xs : List V} {j : Nat} {te : TE} {Q : VK} (Pv : Addr → Nat → List V → Hp → Prop) (h : SqL K H a xs) (hl : xs.length ≤ 100000) (h0 : ∀ D H', H D = none → Same H H' → H' D = some (.lst []) → Pv D 0 [] H')
    (hs : ∀ (i : Nat) (x : V) (acc : List V) (D : Addr) (H' : Hp), H D = none → Same H H' → xs[i]? = some x → acc.length = i → H' D = some (.lst acc) → Pv D i acc H' → te (σ.set j (some x)) H' (LcE H D i Pv))
    (hd : ∀ D acc H', H D = none → Same H H' → H' D = some (.lst acc) → acc.length = xs.length → Pv D xs.length acc H' → Q (.ref D) H') :
    ∃ p, V.ref a = V.ref p ∧ (∃ ys, SqL K H p ys) ∧ LcJ (gName j) tYes te [j] σ Q (Itl K p) H := by
  refine ⟨a, rfl, ⟨_, h⟩, fun D hD => ?_⟩
  refine lc_list (xs := xs) (fun i H' => ∃ acc, Same H H' ∧ acc.length = i ∧ H' D = some (.lst acc) ∧ Pv D i acc H') ⟨[], same_new hD, rfl, upd_same, h0 D _ hD (same_new hD) upd_same⟩ (fun i H' _ ⟨acc, s, _⟩ => s.seq h) ?_ ?_
  · rintro i x H' hi ⟨acc, s, e, hD', p⟩
    refine ⟨show wipe ((wipe σ [j]).set j (some x)) [j] = wipe σ [j] by simp [wipe], ?_⟩
    show te ((wipe σ [j]).set j (some x)) H' (LcE H D i Pv)
    have ew : (wipe σ [j]).set j (some x) = σ.set j (some x) := by simp [wipe]
    rw [ew]
    exact hs i x acc D H' hD s hi e hD' p
  · rintro H' ⟨acc, s, e, hD', p⟩
    exact hd D acc H' hD s hD' e p
end
section
variable {X : Cx}
/-- // by a divisor of either sign below 2 ^ 9000 -/
def CDivX (_ j : Int) : Prop := j ≠ 0 ∧ j.natAbs.log2 < 9000
theorem op_fdivX : OpR X (binaryOp .FloorDiv) (rI CDivX fun i j => .int (i.fdiv j)) := L2.opI fun i j _ _ _ _ _ hc q =>
  floordiv_int hc.1 q (.inl (PyProof.noPylong_of_log2 hc.2))
end
theorem cdivX' {i j : Int} (h : j ≠ 0) (hb : -(2 ^ 64) < j ∧ j < 2 ^ 64) : CDivX i j := ⟨h, Nat.lt_of_lt_of_le (PySem.Flt.log2_lt_of (k := 64) (by decide) (by omega)) (by decide)⟩
theorem kb_int_int : kitB "int" "int" = some true := by decide +kernel
theorem kb_int_bool : kitB "int" "bool" = some false := by decide +kernel
theorem kb_int_str : kitB "int" "str" = some false := by decide +kernel
theorem kb_int_tuple : kitB "int" "tuple" = some false := by decide +kernel
theorem kb_int_list : kitB "int" "list" = some false := by decide +kernel
theorem kb_int_dict : kitB "int" "dict" = some false := by decide +kernel
theorem kb_bool_int : kitB "bool" "int" = some true := by decide +kernel
theorem kb_bool_bool : kitB "bool" "bool" = some true := by decide +kernel
theorem kb_bool_str : kitB "bool" "str" = some false := by decide +kernel
theorem kb_bool_tuple : kitB "bool" "tuple" = some false := by decide +kernel
theorem kb_bool_list : kitB "bool" "list" = some false := by decide +kernel
theorem kb_bool_dict : kitB "bool" "dict" = some false := by decide +kernel
theorem kb_str_int : kitB "str" "int" = some false := by decide +kernel
theorem kb_str_bool : kitB "str" "bool" = some false := by decide +kernel
theorem kb_str_str : kitB "str" "str" = some true := by decide +kernel
theorem kb_str_tuple : kitB "str" "tuple" = some false := by decide +kernel
theorem kb_str_list : kitB "str" "list" = some false := by decide +kernel
theorem kb_str_dict : kitB "str" "dict" = some false := by decide +kernel
theorem kb_tuple_int : kitB "tuple" "int" = some false := by decide +kernel
theorem kb_tuple_bool : kitB "tuple" "bool" = some false := by decide +kernel
theorem kb_tuple_str : kitB "tuple" "str" = some false := by decide +kernel
theorem kb_tuple_tuple : kitB "tuple" "tuple" = some true := by decide +kernel
theorem kb_tuple_list : kitB "tuple" "list" = some false := by decide +kernel
theorem kb_tuple_dict : kitB "tuple" "dict" = some false := by decide +kernel
theorem kb_list_int : kitB "list" "int" = some false := by decide +kernel
theorem kb_list_bool : kitB "list" "bool" = some false := by decide +kernel
theorem kb_list_str : kitB "list" "str" = some false := by decide +kernel
theorem kb_list_tuple : kitB "list" "tuple" = some false := by decide +kernel
theorem kb_list_list : kitB "list" "list" = some true := by decide +kernel
theorem kb_list_dict : kitB "list" "dict" = some false := by decide +kernel
theorem kb_NoneType_int : kitB "NoneType" "int" = some false := by decide +kernel
theorem kb_NoneType_bool : kitB "NoneType" "bool" = some false := by decide +kernel
theorem kb_NoneType_str : kitB "NoneType" "str" = some false := by decide +kernel
theorem kb_NoneType_tuple : kitB "NoneType" "tuple" = some false := by decide +kernel
theorem kb_NoneType_list : kitB "NoneType" "list" = some false := by decide +kernel
theorem kb_NoneType_dict : kitB "NoneType" "dict" = some false := by decide +kernel
theorem kb_dict_int : kitB "dict" "int" = some false := by decide +kernel
theorem kb_dict_bool : kitB "dict" "bool" = some false := by decide +kernel
theorem kb_dict_str : kitB "dict" "str" = some false := by decide +kernel
theorem kb_dict_tuple : kitB "dict" "tuple" = some false := by decide +kernel
theorem kb_dict_list : kitB "dict" "list" = some false := by decide +kernel
theorem kb_dict_dict : kitB "dict" "dict" = some true := by decide +kernel
section
variable {K : PySem.W.Frag} {H : Hp} {Q : VK} {b : String} {r : Bool}
theorem isiI {i : Int} (e : kitB "int" b = some r) (k : Q (.bl r) H) : rIsi K [.int i, .ty b] H Q := ⟨_, _, _, _, r, rfl, .ty b, .base (.int i), kit_ty e, k⟩
theorem isiB {i : Bool} (e : kitB "bool" b = some r) (k : Q (.bl r) H) : rIsi K [.bl i, .ty b] H Q := ⟨_, _, _, _, r, rfl, .ty b, .base (.bl i), kit_ty e, k⟩
theorem isiS {i : Str} (e : kitB "str" b = some r) (k : Q (.bl r) H) : rIsi K [.str i, .ty b] H Q := ⟨_, _, _, _, r, rfl, .ty b, .base (.str i), kit_ty e, k⟩
theorem isiN (e : kitB "NoneType" b = some r) (k : Q (.bl r) H) : rIsi K [.non, .ty b] H Q := ⟨_, _, _, _, r, rfl, .ty b, .base .non, kit_ty e, k⟩
theorem tyT {p : Addr} {xs : List V} (h : SqT K H p xs) : TyX K H (.ref p) (.type "tuple") := by
  rcases h with (h | ⟨o, h⟩) | h
  · exact .base (.tup h)
  · exact .fTuple h
  · obtain ⟨o, its, n, h1, h2, _⟩ := h
    exact .kTuple h1 h2
theorem tyL' {p : Addr} {xs : List V} (h : SqL K H p xs) : TyX K H (.ref p) (.type "list") := by
  rcases h with (h | ⟨o, h⟩) | h
  · exact .base (.lst h)
  · exact .base (.frz h)
  · obtain ⟨o, its, n, h1, h2, _⟩ := h
    exact .kList h1 h2
theorem isiT {p : Addr} {xs : List V} (h : SqT K H p xs) (e : kitB "tuple" b = some r) (k : Q (.bl r) H) : rIsi K [.ref p, .ty b] H Q := ⟨_, _, _, _, r, rfl, .ty b, tyT h, kit_ty e, k⟩
theorem isiL {p : Addr} {xs : List V} (h : SqL K H p xs) (e : kitB "list" b = some r) (k : Q (.bl r) H) : rIsi K [.ref p, .ty b] H Q := ⟨_, _, _, _, r, rfl, .ty b, tyL' h, kit_ty e, k⟩
theorem iteNT {A B : Prop} (h : B) : if (!true) = true then A else B := iteF h
theorem iteNF {A B : Prop} (h : A) : if (!false) = true then A else B := iteT h
end

/-! ### texts -/
/-- the text of these signs -/
def S (l : List Nat) : Str := ⟨l.toArray⟩
theorem S_len (l : List Nat) : (S l).length = l.length := by show l.toArray.size = l.length; simp
theorem S_tl (l : List Nat) : (S l).cps.toList = l := by show l.toArray.toList = l; simp
theorem S_inj {l m : List Nat} (h : S l = S m) : l = m := by have := congrArg (fun z : Str => z.cps.toList) h; simpa [S_tl] using this
theorem S_eq {l m : List Nat} : decide (S l = S m) = decide (l = m) := by
  by_cases h : l = m
  · rw [decide_eq_true h, decide_eq_true (by rw [h])]
  · rw [decide_eq_false h, decide_eq_false fun e => h (S_inj e)]
theorem S_app (l m : List Nat) : S l ++ S m = S (l ++ m) := by
  show (⟨l.toArray ++ m.toArray⟩ : Str) = ⟨(l ++ m).toArray⟩
  simp
theorem S_of (x : Str) : x = S x.cps.toList := by cases x; simp [S]
theorem S_one (c : Nat) : (⟨#[c]⟩ : Str) = S [c] := rfl
section
variable {σ : L2.St} {H : Hp} {Q : VK} {ta tb te : TE} {K : PySem.W.Frag}
theorem addS' {l m : List Nat} (h : l.length + m.length ≤ 100000) (k : Q (.str (S (l ++ m))) H) : AddSK (.str (S l)) (.str (S m)) H Q := ⟨_, _, rfl, rfl, small (by rw [S_len, S_len]; exact h), by rw [S_app]; exact k⟩
theorem lenS' {l : List Nat} (h : l.length ≤ 100000) (k : Q (.int l.length) H) : LenSK [.str (S l)] H Q := ⟨_, rfl, small (by rw [S_len]; exact h), by rw [S_len]; exact k⟩
theorem eqS' {l m : List Nat} (k : Q (.bl (decide (l = m))) H) : rEq (.str (S l)) (.str (S m)) H Q := eqS (by rw [S_eq]; exact k)
theorem neS' {l m : List Nat} (k : Q (.bl (!decide (l = m))) H) : rNe (.str (S l)) (.str (S m)) H Q := neS (by rw [S_eq]; exact k)
theorem ixS {l : List Nat} {i : Int} {c : Nat} (h : l.length ≤ 100000) (a : atI l i = some c) (k : Q (.str (S [c])) H) : rIxS (.str (S l)) (.int i) H Q := ⟨S l, i, c, rfl, rfl, small (by rw [S_len]; exact h), by rw [S_tl]; exact a, k⟩
def InSK (x y : V) (H : Hp) (Q : VK) : Prop := ∃ (c : Nat) (z : Str), x = .str ⟨#[c]⟩ ∧ y = .str z ∧ Q (.bl (decide (c ∈ z.cps.toList))) H
theorem opInS (k : ta σ H fun x H1 => tb σ H1 fun y H2 => InSK x y H2 Q) : tOp (fun x y H Q => ∃ (c : Nat) (z : Str), x = V.str ⟨#[c]⟩ ∧ y = V.str z ∧ Q (.bl (decide (c ∈ z.cps.toList))) H) ta tb σ H Q := k
theorem inS {c : Nat} {l : List Nat} (k : Q (.bl (decide (c ∈ l))) H) : InSK (.str (S [c])) (.str (S l)) H Q := ⟨c, S l, rfl, rfl, by rw [S_tl]; exact k⟩
theorem slS {l : List Nat} {a b : Nat} {i j : Int} (ha : i = a) (hb : j = b) (hl : l.length ≤ 100000) (hab : a ≤ l.length) (k : Q (.str (S ((l.drop a).take (b - a)))) H) : rSlS (.str (S l)) (some i) (some j) H Q := by
  subst ha hb
  refine ⟨S l, rfl, small (by rw [S_len]; exact hl), ?_⟩
  have e : cutS (S l) (some (a : Int)) (some (b : Int)) = S ((l.drop a).take (b - a)) := by
    unfold cutS
    rw [S_tl, S_len, HT.sIx_nat, HT.sIx_nat]
    show S _ = S _
    congr 1
    rw [Nat.min_eq_left hab]
    by_cases h : b ≤ l.length
    · rw [Nat.min_eq_left h]
    · rw [Nat.min_eq_right (by omega), List.take_of_length_le (by simp), List.take_of_length_le (by simp; omega)]
  rw [e]; exact k
def IntSK (xs : List V) (H : Hp) (Q : VK) : Prop := ∃ a n, xs = [.str a] ∧ PySem.intText? a = some n ∧ a.length ≤ 640 ∧ Q (.int n) H
theorem cbIntS {t : TA} (k : t σ H fun vs H1 => IntSK vs H1 Q) : tCB (fun xs H Q => ∃ a n, xs = [V.str a] ∧ PySem.intText? a = some n ∧ a.length ≤ 640 ∧ Q (.int n) H) t σ H Q := k
theorem intS {l : List Nat} {n : Int} (e : PySem.intText? (S l) = some n) (h : l.length ≤ 640) (k : Q (.int n) H) : IntSK [.str (S l)] H Q := ⟨_, n, rfl, e, by rw [S_len]; exact h, k⟩
theorem strI {i : Int} {l : List Nat} (h : i.natAbs.log2 < 1920) (e : (Str.ofString (toString i)) = S l) (k : Q (.str (S l)) H) : StrIK [.int i] H Q := ⟨i, rfl, h, by rw [e]; exact k⟩
/-- a text times a number -/
def MulSK (x y : V) (H : Hp) (Q : VK) : Prop := ∃ (z : Str) (n : Int), x = .str z ∧ y = .int n ∧ MulOk z n ∧ Q (.str (Txt.mul z n)) H
theorem op_mulS {X : Cx} : OpR X (binaryOp .Mult) MulSK := by
  intro pins s σ H x y v u Q I rx ry h
  obtain ⟨z, n, rfl, rfl, hc, q⟩ := h
  obtain ⟨t, rfl⟩ := rx
  obtain ⟨t', rfl⟩ := ry
  exact SB.mul hc fun t' k => ⟨.str (Txt.mul z n), H, I.tok _, ⟨_, rfl⟩, q⟩
theorem mulS1 {c : Nat} {n : Int} (h : 0 ≤ n ∧ n ≤ 100000) (k : Q (.str (S (List.replicate n.toNat c))) H) : MulSK (.str (S [c])) (.int n) H Q := by
  refine ⟨S [c], n, rfl, rfl, ⟨?_, ?_, ?_⟩, ?_⟩
  · have : ¬ n < -(2 ^ 63 : Int) := by omega
    have h2 : ¬ n ≥ 2 ^ 63 := by omega
    simp [this, h2]
    omega
  · intro h1 _
    show ¬ (((S [c]).length : Int) > (2 ^ 63 - 1) / n)
    have : ((S [c]).length : Int) = 1 := rfl
    rw [this]
    have h3 : (1 : Int) ≤ (2 ^ 63 - 1) / n := by
      rw [Int.le_ediv_iff_mul_le (by omega)]
      omega
    omega
  · intro h1 _
    have : (S [c]).length = 1 := rfl
    rw [this, Nat.one_mul]
    have : n.toNat ≤ sizeLine := small (by omega)
    exact decide_eq_false (by omega)
  · have e : Txt.mul (S [c]) n = S (List.replicate n.toNat c) := by
      unfold Txt.mul
      by_cases h1 : n < 1
      · rw [if_pos h1]
        have : n.toNat = 0 := by omega
        rw [this]; rfl
      · rw [if_neg h1]
        by_cases h2 : n = 1
        · subst h2; rfl
        · have : (n == 1 || (S [c]).length == 0) = false := by rw [beq_eq_false_iff_ne.mpr h2]; rfl
          rw [this]
          show (⟨(List.replicate n.toNat #[c]).foldl (· ++ ·) #[]⟩ : Str) = S (List.replicate n.toNat c)
          have e2 : ∀ (m : Nat) (acc : Array Nat), (List.replicate m #[c]).foldl (· ++ ·) acc = acc ++ (List.replicate m c).toArray := by
            intro m
            induction m with
            | zero => intro acc; simp
            | succ m ih =>
              intro acc
              rw [List.replicate_succ, List.foldl_cons, ih, List.replicate_succ]
              apply Array.toList_inj.mp
              simp
          rw [e2]
          simp [S]
    rw [e]; exact k
end
/-! ### more readings -/
section
variable {σ : L2.St} {H : Hp} {n b c : L2.St → Hp → Prop} {r : VK} {tc : TT} {tb : TS} {K : PySem.W.Frag}
/-- while: Pv m: m falls -/
theorem whl (Pv : Nat → L2.St → Hp → Prop) (h0 : ∃ m, Pv m σ H)
    (hs : ∀ m σ H, Pv m σ H → tc σ H fun x H1 => if x = true then ∃ N : L2.St → Hp → Prop, (∀ σ' H', N σ' H' → ∃ m', m' < m ∧ Pv m' σ' H') ∧ tb ⟨N, r, n, N⟩ σ H1 else n σ H1) : tWhile tc tb ⟨n, r, b, c⟩ σ H := ⟨Pv, h0, hs⟩
theorem whlN {Pv : Nat → L2.St → Hp → Prop} {m : Nat} (k : tb ⟨fun σ' H' => ∃ m', m' < m ∧ Pv m' σ' H', r, n, fun σ' H' => ∃ m', m' < m ∧ Pv m' σ' H'⟩ σ H) :
    ∃ N : L2.St → Hp → Prop, (∀ σ' H', N σ' H' → ∃ m', m' < m ∧ Pv m' σ' H') ∧ tb ⟨N, r, n, N⟩ σ H := ⟨_, fun _ _ h => h, k⟩
variable {Q : VK} {te : TE}
theorem revL (k : te σ H fun x H1 => ∃ a xs, x = .ref a ∧ SqL K H1 a xs ∧ ∀ p, H1 p = none → Q (.ref p) (upd H1 p (.lst xs.reverse))) : tRevL K te σ H Q := k
theorem revL' {a : Addr} {xs : List V} {P : List V → Prop} (h : SqL K H a xs) (k : P xs) : ∃ a' xs', V.ref a = V.ref a' ∧ SqL K H a' xs' ∧ P xs' := ⟨a, xs, rfl, h, k⟩
theorem slL' {a : Addr} {xs : List V} {lo hi : Option Int} (h : SqL K H a xs) (k : ∀ p, H p = none → Q (.ref p) (upd H p (.lst (cutV xs lo hi)))) : rSlL K (.ref a) lo hi H Q := ⟨a, xs, rfl, h, k⟩
theorem nopart {Q : Option Int → Hp → Prop} (k : Q none H) : tNoPart σ H Q := k
theorem part {te : TE} {Q : Option Int → Hp → Prop} (k : te σ H fun x H1 => ∃ i, x = .int i ∧ Q (some i) H1) : tPart te σ H Q := k
theorem part' {i : Int} {P : Int → Prop} (k : P i) : ∃ j, V.int i = V.int j ∧ P j := ⟨i, rfl, k⟩
theorem bm0 {T : String} {rr : V → List V → Hp → VK → Prop} {to : TE} (k : to σ H fun x H1 => tyV K T x H1 ∧ rr x [] H1 Q) : tBM0 K T rr to σ H Q := k
theorem pop {l : Addr} {xs : List V} {y : V} (h : H l = some (.lst xs)) (e : xs[xs.length - 1]? = some y) (k : Q y (upd H l (.lst xs.dropLast))) : rPop (.ref l) [] H Q := ⟨l, xs, y, rfl, rfl, h, e, k⟩
theorem catL {a b : Addr} {xs ys : List V} (ha : H a = some (.lst xs)) (hb : H b = some (.lst ys)) (hz : xs.length + ys.length ≤ 100000) (k : ∀ p, H p = none → Q (.ref p) (upd H p (.lst (xs ++ ys)))) : rCat (.ref a) (.ref b) H Q := ⟨a, b, xs, ys, rfl, rfl, ha, hb, small hz, k⟩
/-- a comprehension's turn whose heap changes -/
def LcF (D : Addr) (i : Nat) (Pv : Addr → Nat → List V → Hp → Prop) : VK := fun y H4 => ∃ acc, H4 D = some (.lst acc) ∧ acc.length < sizeLine ∧
  ∃ ac, ac.length = i + 1 ∧ upd H4 D (.lst (acc ++ [y])) D = some (.lst ac) ∧ Pv D (i + 1) ac (upd H4 D (.lst (acc ++ [y])))
theorem lcF {H4 : Hp} {D : Addr} {i : Nat} {Pv : Addr → Nat → List V → Hp → Prop} {acc : List V} {y : V} (h : H4 D = some (.lst acc)) (e : acc.length = i) (hi : i < 100000) (k : Pv D (i + 1) (acc ++ [y]) (upd H4 D (.lst (acc ++ [y])))) : LcF D i Pv y H4 :=
  ⟨acc, h, smallT (by omega), acc ++ [y], by simp [e], upd_same, k⟩
theorem lcR1F {m : Int} {j : Nat} (Pv : Addr → Nat → List V → Hp → Prop) (hb : -100000 ≤ m ∧ m ≤ 100000) (h0 : ∀ D, H D = none → Pv D 0 [] (upd H D (.lst [])))
    (hs : ∀ (i : Nat) (acc : List V) (D : Addr) (H' : Hp), H D = none → (i : Int) < m → acc.length = i → H' D = some (.lst acc) → Pv D i acc H' → te (σ.set j (some (.int (i : Int)))) H' (LcF D i Pv))
    (hd : ∀ D acc H', H D = none → H' D = some (.lst acc) → acc.length = m.toNat → Pv D m.toNat acc H' → Q (.ref D) H') :
    ∃ q : Int, [V.int m] = [V.int q] ∧ -(2 ^ 62) ≤ q ∧ q < 2 ^ 62 ∧ LcJ (gName j) tYes te [j] σ Q (Itr 0 q.toNat) H := by
  obtain ⟨hb1, hb2⟩ := hb
  have p62 : (2 : Int) ^ 62 = 4611686018427387904 := by decide
  refine ⟨m, rfl, by omega, by omega, fun D hD => ?_⟩
  refine itrLc (fun i H' => ∃ acc, acc.length = i ∧ H' D = some (.lst acc) ∧ Pv D i acc H') ⟨[], rfl, upd_same, h0 D hD⟩ ?_ ?_
  · rintro i H' hi ⟨acc, e, hD', p⟩
    have e0 : (0 : Int) + (i : Int) = (i : Int) := Int.zero_add _
    rw [e0]
    refine ⟨show wipe ((wipe σ [j]).set j (some (.int (i : Int)))) [j] = wipe σ [j] by simp [wipe], ?_⟩
    show te ((wipe σ [j]).set j (some (.int (i : Int)))) H' (LcF D i Pv)
    have ew : (wipe σ [j]).set j (some (.int (i : Int))) = σ.set j (some (.int (i : Int))) := by simp [wipe]
    rw [ew]
    exact hs i acc D H' hD (by omega) e hD' p
  · rintro H' ⟨acc, e, hD', p⟩
    exact hd D acc H' hD hD' e p
end
theorem cut_take {xs : List V} {m : Int} (h : 0 ≤ m) : cutV xs none (some m) = xs.take m.toNat := by
  unfold cutV
  obtain ⟨k, rfl⟩ : ∃ k : Nat, m = k := ⟨m.toNat, by omega⟩
  rw [HT.sIx_none, HT.sIx_nat, List.drop_zero, Nat.sub_zero, Int.toNat_natCast]
  by_cases h1 : k ≤ xs.length
  · rw [Nat.min_eq_left h1]
  · rw [Nat.min_eq_right (by omega), List.take_of_length_le (Nat.le_refl _), List.take_of_length_le (by omega)]
theorem atI_all {xs : List V} {p : V → Bool} {i : Int} (h : xs.all p = true) (h0 : 0 ≤ i) (h1 : i < (xs.length : Int)) : ∃ v, atI xs i = some v ∧ p v = true := by
  have h2 : i.toNat < xs.length := by omega
  exact ⟨xs[i.toNat], atI_of h0 (List.getElem?_eq_getElem h2), List.all_eq_true.mp h _ (List.getElem_mem h2)⟩
theorem ixLall {K : PySem.W.Frag} {H : Hp} {Q : VK} {l : Addr} {xs : List V} {i : Int} (p : V → Bool) (h : SqL K H l xs) (a : xs.all p = true) (h0 : 0 ≤ i) (h1 : i < (xs.length : Int)) (k : ∀ v, p v = true → Q v H) : rIxL K (.ref l) (.int i) H Q := by
  obtain ⟨v, e, q⟩ := atI_all a h0 h1
  exact ixL h e (k v q)
theorem ixSall {H : Hp} {Q : VK} {l : List Nat} {i : Int} (hl : l.length ≤ 100000) (h0 : 0 ≤ i) (h1 : i < (l.length : Int)) (k : ∀ c, c ∈ l → Q (.str (S [c])) H) : rIxS (.str (S l)) (.int i) H Q := by
  have h2 : i.toNat < l.length := by omega
  exact ixS hl (atI_of h0 (List.getElem?_eq_getElem h2)) (k _ (List.getElem_mem h2))
theorem dp_same {K : PySem.W.Frag} {H H' : Hp} (e : Same H H') : ∀ {x : V} {d : PyData}, Dp K H x d → Dp K H' x d
  | _, _, .non => .non
  | _, _, .bl b => .bl b
  | _, _, .int i => .int i
  | _, _, .str x => .str x
  | _, _, .lst h a => .lst (e.seq h) (go e a)
  | _, _, .tup h a => .tup (same_tup e h) (go e a)
where go {K : PySem.W.Frag} {H H' : Hp} (e : Same H H') : ∀ {xs : List V} {ds : List PyData}, DpAll K H xs ds → DpAll K H' xs ds
  | _, _, .nil => .nil
  | _, _, .cons h t => .cons (dp_same e h) (go e t)
theorem dpAll_len {K : PySem.W.Frag} {H : Hp} : ∀ {xs : List V} {ds : List PyData}, DpAll K H xs ds → xs.length = ds.length
  | _, _, .nil => rfl
  | _, _, .cons _ t => congrArg Nat.succ (dpAll_len t)
theorem dpAll_get {K : PySem.W.Frag} {H : Hp} : ∀ {xs : List V} {ds : List PyData}, DpAll K H xs ds → ∀ i, i < ds.length → ∃ x, xs[i]? = some x ∧ Dp K H x (ds.getD i .none)
  | _, _, .nil, i, h => absurd h (Nat.not_lt_zero i)
  | _, _, .cons h _, 0, _ => ⟨_, rfl, h⟩
  | _, _, .cons _ t, i + 1, hi => by
    obtain ⟨x, e, d⟩ := dpAll_get t i (Nat.lt_of_succ_lt_succ hi)
    exact ⟨x, e, d⟩
theorem depth_get : ∀ {ds : List PyData} {i : Nat}, i < ds.length → (ds.getD i .none).depth ≤ PyData.depthAll ds
  | [], i, h => absurd h (Nat.not_lt_zero i)
  | d :: ds, 0, _ => by simp only [PyData.depthAll]; exact Nat.le_max_left _ _
  | d :: ds, i + 1, h => by
    have := depth_get (ds := ds) (i := i) (Nat.lt_of_succ_lt_succ h)
    simp only [PyData.depthAll]
    exact Nat.le_trans this (Nat.le_max_right _ _)
theorem ixQL {K : PySem.W.Frag} {H : Hp} {Q : VK} {p : Addr} {xs : List V} {i : Int} {v : V} (h : SqL K H p xs) (a : atI xs i = some v) (k : Q v H) : rIx K (.ref p) (.int i) H Q := .inl (ixL h a k)
theorem ixQT {K : PySem.W.Frag} {H : Hp} {Q : VK} {p : Addr} {xs : List V} {i : Int} {v : V} (h : SqT K H p xs) (a : atI xs i = some v) (k : Q v H) : rIx K (.ref p) (.int i) H Q := .inr (.inl (ixT h a k))
theorem weight_get {ds : List PyData} {i : Nat} (h : i < ds.length) : (ds.getD i .none).weight ≤ PyData.weightAll ds := by
  refine PyData.weight_le_weightAll _ _ ?_
  rw [List.getD_eq_getElem?_getD, List.getElem?_eq_getElem h]
  exact List.getElem_mem h
theorem atI_last {α : Type} {xs : List α} {v : α} : atI (xs ++ [v]) (-1) = some v := by
  unfold atI ixN
  rw [if_neg (by decide), if_pos (by simp; omega)]
  show (xs ++ [v])[(-1 + ((xs ++ [v]).length : Int)).toNat]? = some v
  have : (-1 + ((xs ++ [v]).length : Int)).toNat = xs.length := by simp; omega
  rw [this]; simp
/-- two ways that come together: what holds where they meet -/
theorem join {σ : L2.St} {H : Hp} {t u : TS} {D : Ends} (J : L2.St → Hp → Prop) (h1 : ∀ N : L2.St → Hp → Prop, (∀ σ' H', J σ' H' → N σ' H') → t ⟨N, D.rt, D.bk, D.ct⟩ σ H) (h2 : ∀ σ' H', J σ' H' → u D σ' H') : tSeq t u D σ H := h1 _ h2
theorem ixLmem {K : PySem.W.Frag} {H : Hp} {Q : VK} {l : Addr} {xs : List V} {i : Int} (h : SqL K H l xs) (h0 : 0 ≤ i) (h1 : i < (xs.length : Int)) (k : ∀ v, v ∈ xs → Q v H) : rIxL K (.ref l) (.int i) H Q := by
  have h2 : i.toNat < xs.length := by omega
  exact ixL h (atI_of h0 (List.getElem?_eq_getElem h2)) (k _ (List.getElem_mem h2))
/-! ### a def that calls itself: nothing is asked with no call left -/
theorem none_left {P : Program} {w : World} {K : PySem.W.Frag} {mg : Str → Option Value} {base : Heap} {k : Nat} {f : Addr} {fd : FuncData} {ps : List Str} {sp : Sp} (no : ∀ vs H Q E, ¬ sp vs H Q E) : FnOk P w K mg base CX0 k f fd ps sp :=
  ⟨fun vs H Q E h => absurd h (no vs H Q E), fun A outer s H args us vs Q E _ _ _ _ h => absurd h (no vs H Q E)⟩
end Rd

set_option Elab.async false
set_option linter.all false
set_option maxRecDepth 100000
set_option maxHeartbeats 4000000
/-! Own operators of a class of one's own, by the text's defs. -/
namespace Bd
open PySem PySem.W PySem.Calls PyProof.Rows
section
variable {prog : Program} {w : World} {A : Around} {E : Value → Shared → Prop} {s : Shared} {K : Frag} {x y C L f : Addr} {h₀ : Heap} {m : Str → Option Value} {ox oy : Obj} {od od' : Option Obj}
/-- x op y, two instances of one class -/
theorem bin_one {op : Operator} {Q : Value → Shared → Prop} (F : Fr h₀ L s.heap m) (X₀ : K.In h₀) (I : InstAt s.heap x ox C od) (J : InstAt s.heap y oy C od') (hc : selfFirst K C = true)
    (hs : findIn K (.ref C) (PySem.dunder op.info.2) = some (some (.ref f))) (hf : isFn K (.ref f) = true)
    (h : wpAny (model prog w) A (call (.ref f) [.ref x, .ref y]) (PySem.W.CmpBack Q) E s) : wpAny (model prog w) A (binaryOp op (.ref x) (.ref y)) Q E s := by
  have X := X₀.keeps F.keep
  obtain ⟨cd, rest, hcd, hm⟩ := ksp_first hc
  rcases hi : op.info with ⟨sym, nm⟩
  rw [hi] at hs
  dsimp only at hs
  have one := ksp_try X I hs hf h
  obtain ⟨hh, g, d, tt, os⟩ := s
  have L1 : Looks (model prog w) hh (typeOf (.ref x)) (.ref C) := I.type
  have L2 : Looks (model prog w) hh (typeOf (.ref y)) (.ref C) := J.type
  have L3 : Looks (model prog w) hh (fillsNumberSlot (.ref C) nm) true := fills_K X hcd hm hs
  have heq : (Value.ref C == Value.ref C) = true := beq_self_eq_true _
  simp only [binaryOp, hi]
  refine wpAny_holding (wpAny_bind ?_)
  unfold binaryOp1
  refine wpAny_bind (L1.at (wpAny_bind (L2.at (wpAny_bind (L3.at ?_)))))
  simp only [heq, if_true]
  ksp_lk
  refine wpAny_mono one (fun r s' hr' => ?_) fun _ _ e => e
  obtain ⟨v, rfl, hq⟩ := hr'
  ksp_lk
  exact hq
end
end Bd
namespace Bd
open PySem PySem.Spec PyProof.Rows L2
theorem back_ep {X : Cx} {pins : List (Addr × Obj)} {σ : L2.St} {Q : VK} {u : Value} {s' : Shared} (h : EP X pins σ Q u s') : PySem.W.CmpBack (EP X pins σ Q) u s' := by
  cases u with
  | notImplemented =>
    obtain ⟨v, H', _, r, _⟩ := h
    cases v <;> first | (obtain ⟨_, r⟩ := r; exact nomatch r) | exact nomatch (show _ = _ from r)
  | _ => exact h
section
variable {X : Cx} {pins : List (Addr × Obj)} {σ : L2.St} {H : Hp} {s : Shared} {CT : CXT} {n : Nat} {C f : Addr} {fd : FuncData} {ps : List Str} {sp : Sp} {E : XK}
/-- a call of a def of one's own, by its value -/
theorem call_def {vs : List V} {us : List Value} {Q : VK} (F : FnOk X.prog X.w X.K X.mg X.base CT n f fd ps sp) (hb : Binds X.K fd ps []) (hx : Passes CT X E) (hr : Room n X.A) (I : Inv X pins σ H s) (r : Vals vs us) (hsp : sp vs H Q E) :
    wpAny (model X.prog X.w) X.A (call (.ref f) us) (EP X pins σ Q) X.xe s := by
  have hl := F.len _ _ _ _ hsp
  have hu : us.length = ps.length := by rw [← r.length]; exact hl
  refine wpAny_call (codeAny_mono (F.run X.A X.stack s H ⟨us, []⟩ us vs Q E hr I.env0 (by
    have := hb s us I.kIn (by simpa using hu)
    simpa using this) r hsp) fun z s' hq => ?_)
  cases z with
  | error e => exact hx pins σ H s e s' I hq
  | ok fl =>
    cases fl with
    | ret w => exact I.after hq
    | next => exact False.elim hq
    | brk => exact False.elim hq
    | cont => exact False.elim hq
/-- x op y, both of the class at C -/
def rOwn2 (C : Addr) (sp : Sp) (E : XK) : R2 := fun x y H Q => ∃ a b dx dy fs gs, x = .ref a ∧ y = .ref b ∧ H a = some (.ins C dx fs) ∧ H b = some (.ins C dy gs) ∧ sp [.ref a, .ref b] H Q E
theorem op_own {op : Operator} (F : FnOk X.prog X.w X.K X.mg X.base CT n f fd ps sp) (hc : PySem.W.selfFirst X.K C = true) (hs : PySem.W.findIn X.K (.ref C) (PySem.dunder op.info.2) = some (some (.ref f))) (hf : PySem.W.isFn X.K (.ref f) = true)
    (hb : Binds X.K fd ps []) (hx : Passes CT X E) (hr : Room n X.A) : OpR X (binaryOp op) (rOwn2 C sp E) := by
  intro pins s σ H x y v u Q I rx ry h
  obtain ⟨a, b, dx, dy, fs, gs, rfl, rfl, ha, hb', hsp⟩ := h
  obtain rfl : v = Value.ref a := rx
  obtain rfl : u = Value.ref b := ry
  obtain ⟨mA, J, _⟩ := ins_get I.hok ha
  obtain ⟨mB, J', _⟩ := ins_get I.hok hb'
  obtain ⟨od, J, _⟩ := J.look
  obtain ⟨od', J', _⟩ := J'.look
  obtain ⟨m, hF⟩ := I.fr
  refine bin_one hF I.ok.mod.kin J J' hc hs hf ?_
  exact wpAny_mono (call_def F hb hx hr I (vs := [.ref a, .ref b]) (.cons rfl (.cons rfl .nil)) hsp) (fun _ _ h => back_ep h) fun _ _ e => e
/-- -x -/
def rOwn1 (C : Addr) (sp : Sp) (E : XK) : V → Hp → VK → Prop := fun x H Q => ∃ a dx fs, x = .ref a ∧ H a = some (.ins C dx fs) ∧ sp [.ref a] H Q E
theorem un_own (F : FnOk X.prog X.w X.K X.mg X.base CT n f fd ps sp) (hs : PySem.W.findIn X.K (.ref C) "__neg__" = some (some (.ref f))) (hf : PySem.W.isFn X.K (.ref f) = true)
    (hb : Binds X.K fd ps []) (hx : Passes CT X E) (hr : Room n X.A) : UnR X (unaryOp .USub) (rOwn1 C sp E) := by
  intro pins s σ H x v Q I rx h
  obtain ⟨a, dx, fs, rfl, ha, hsp⟩ := h
  obtain rfl : v = Value.ref a := rx
  obtain ⟨mA, J, _⟩ := ins_get I.hok ha
  obtain ⟨od, J, _⟩ := J.look
  obtain ⟨m, hF⟩ := I.fr
  exact PySem.W.ksp_neg hF I.ok.mod.kin J hs hf (call_def F hb hx hr I (vs := [.ref a]) (.cons rfl .nil) hsp)
/-- x == y, both of the class at C, whatever __eq__ says -/
theorem op_eqOwn (F : FnOk X.prog X.w X.K X.mg X.base CT n f fd ps sp) (hs : PySem.W.findIn X.K (.ref C) "__eq__" = some (some (.ref f))) (hf : PySem.W.isFn X.K (.ref f) = true)
    (hb : Binds X.K fd ps []) (hx : Passes CT X E) (hr : Room n X.A) : OpR X (compareOp .Eq) (rOwn2 C sp E) := by
  intro pins s σ H x y v u Q I rx ry h
  obtain ⟨a, b, dx, dy, fs, gs, rfl, rfl, ha, hb', hsp⟩ := h
  obtain rfl : v = Value.ref a := rx
  obtain rfl : u = Value.ref b := ry
  obtain ⟨mA, J, _⟩ := ins_get I.hok ha
  obtain ⟨mB, J', _⟩ := ins_get I.hok hb'
  obtain ⟨od, J, _⟩ := J.look
  obtain ⟨od', J', _⟩ := J'.look
  obtain ⟨m, hF⟩ := I.fr
  show wpAny (model X.prog X.w) X.A (richCompare .Eq (.ref a) (.ref b)) _ _ _
  refine PySem.W.cmp_K (op := .Eq) (tb := .ref C) hr.units0 hF I.ok.mod.kin J J'.type (by simp [PySem.W.notFirst]) hs hf ?_
  exact wpAny_mono (call_def F hb hx hr I (vs := [.ref a, .ref b]) (.cons rfl (.cons rfl .nil)) hsp) (fun _ _ h => back_ep h) fun _ _ e => e
end
end Bd
namespace Bd
open PySem PySem.W PySem.Calls PyProof.Rows
/-- by the text, then by the number -/
def ltSI (p q : Str × Int) : Bool := if p.1 = q.1 then decide (p.2 < q.2) else decide (p.1.cps.toList < q.1.cps.toList)
theorem str_ext {x y : Str} (h : x.cps.toList = y.cps.toList) : x = y := by rw [Rd.S_of x, Rd.S_of y, h]
theorem ltSI_iff {p q : Str × Int} : ltSI p q = true ↔ p.1.cps.toList < q.1.cps.toList ∨ (p.1 = q.1 ∧ p.2 < q.2) := by
  unfold ltSI
  by_cases e : p.1 = q.1
  · rw [if_pos e, e]
    exact ⟨fun h => .inr ⟨rfl, of_decide_eq_true h⟩, fun h => h.elim (fun z => absurd z (List.lt_irrefl _)) fun z => decide_eq_true z.2⟩
  · rw [if_neg e]
    exact ⟨fun h => .inl (of_decide_eq_true h), fun h => h.elim decide_eq_true fun z => absurd z.1 e⟩
theorem ltSI_no {p q : Str × Int} : ltSI p q = false ↔ ¬ (p.1.cps.toList < q.1.cps.toList ∨ (p.1 = q.1 ∧ p.2 < q.2)) := by
  rw [← ltSI_iff]; simp
theorem swo_SI {α : Type} (k : α → Str × Int) : SrtO.Swo fun v u => ltSI (k v) (k u) := by
  refine ⟨fun x y h => ?_, fun x y z h1 h2 => ?_⟩
  · have a := ltSI_iff.mp h
    refine ltSI_no.mpr fun b => ?_
    rcases a with a | a
    · rcases b with b | b
      · exact List.lt_asymm a b
      · rw [b.1] at a; exact List.lt_irrefl _ a
    · rcases b with b | b
      · rw [a.1] at b; exact List.lt_irrefl _ b
      · omega
  · have a := ltSI_no.mp h1
    have b := ltSI_no.mp h2
    refine ltSI_no.mpr fun c => ?_
    rcases c with c | ⟨c1, c2⟩
    · have d : (k x).1.cps.toList ≤ (k y).1.cps.toList := List.not_lt.mp fun z => a (.inl z)
      have d2 : (k y).1.cps.toList ≤ (k z).1.cps.toList := List.not_lt.mp fun q => b (.inl q)
      exact List.not_lt.mpr (List.le_trans d d2) c
    · have d1 : (k x).1.cps.toList ≤ (k y).1.cps.toList := List.not_lt.mp fun z => a (.inl z)
      have d2 : (k y).1.cps.toList ≤ (k z).1.cps.toList := List.not_lt.mp fun z => b (.inl z)
      rw [c1] at d2
      have e : (k x).1 = (k y).1 := str_ext (List.le_antisymm d1 d2)
      refine a (.inr ⟨e.symm, ?_⟩)
      have e2 : ¬ (k z).2 < (k y).2 := fun z => b (.inr ⟨c1.trans e, z⟩)
      omega
/-- a pair of a text and a number -/
def IsSI (h : Heap) (v : Value) (p : Str × Int) : Prop := ∃ a o t u n, v = .ref a ∧ h.get? a = some o ∧ o.cls = .type "tuple" ∧ o.data = .seq #[.str p.1 t, .int p.2 u] n
theorem IsSI.keeps {h h' : Heap} {v : Value} {p : Str × Int} (x : IsSI h v p) (k : ∀ b o, h.get? b = some o → o.cls = .type "tuple" → h'.get? b = some o) : IsSI h' v p := by
  obtain ⟨a, o, t, u, n, e, ho, hc, hd⟩ := x
  exact ⟨a, o, t, u, n, e, k _ _ ho hc, hc, hd⟩
section
variable {prog : Program} {w : World} {A : Around} {s : Shared}
theorem si_cmp {vs : List Value} {k : Value → Str × Int} (hp : ∀ v ∈ vs, IsSI s.heap v (k v)) : SrtO.Cmp prog w A s (tuples' true) (fun p => p.1 ∈ vs) (SrtO.lt2 fun v u => ltSI (k v) (k u)) := by
  intro p q hm hm'
  have h1 := hp _ hm
  have h2 := hp _ hm'
  show wpAny (model prog w) A (keyLt' (tuples' true) p.1 q.1) (fun r s' => s' = s ∧ r = ltSI (k p.1) (k q.1)) (fun _ _ => False) s
  generalize k p.1 = x at h1 ⊢
  generalize k q.1 = y at h2 ⊢
  obtain ⟨a, o, t, u, n, e, ho, hc, hd⟩ := h1
  obtain ⟨a', o', t', u', n', e', ho', hc', hd'⟩ := h2
  rw [e, e']
  refine PySem.W.kat_lt ho hd ho' hd' ?_
  show PySem.W.KatLex prog w A true (decide (2 < 2)) _ [(.str x.1 t, .str y.1 t'), (.int x.2 u, .int y.2 u')] 0 s
  refine PySem.W.kat_cons (SeqAt.EqAt.str_str x.1 t y.1 t' prog w _ _ ?_)
  refine PySem.W.kat_go (fun e1 => ?_) (fun e1 => ?_)
  · have ex : x.1 = y.1 := by simpa using e1
    refine PySem.W.kat_yes (PySem.W.kat_cons (SeqAt.EqAt.int_int x.2 u y.2 u' prog w _ _ ?_))
    refine PySem.W.kat_go (fun e2 => ?_) (fun e2 => ?_)
    · have ey : x.2 = y.2 := by simpa using e2
      refine PySem.W.kat_yes (PySem.W.kat_nil ⟨rfl, ?_⟩)
      unfold ltSI
      rw [if_pos ex, ey]
      exact (decide_eq_false (Int.lt_irrefl _)).symm
    · refine PySem.W.kat_no (PySem.W.kat_one _ _ (PyProof.Rows.lt_int ?_))
      refine ⟨rfl, ?_⟩
      unfold ltSI
      rw [if_pos ex]
  · have ex : ¬ x.1 = y.1 := by simpa using e1
    refine PySem.W.kat_no (oneLt_str ⟨rfl, ?_⟩)
    unfold ltSI
    rw [if_neg ex]
theorem si_firsts {h : Heap} {k : Value → Str × Int} : ∀ {vs : List Value}, (∀ v ∈ vs, IsSI h v (k v)) → ∃ fs : List Value, PySem.W.KatTups h vs fs ∧ fs.length = vs.length ∧ ∀ f ∈ fs, ∃ x t, f = Value.str x t
  | [], _ => ⟨[], PySem.W.KatTups.nil, rfl, fun _ hm => by simp at hm⟩
  | v :: vs, hp => by
    obtain ⟨fs, h1, h2, h3⟩ := si_firsts (vs := vs) fun v' hm => hp v' (List.mem_cons_of_mem _ hm)
    obtain ⟨a, o, t, u, n, e, ho, hc, hd⟩ := hp v (List.mem_cons_self ..)
    subst e
    refine ⟨.str _ t :: fs, PySem.W.KatTups.cons ho hc hd rfl h1, by rw [List.length_cons, List.length_cons, h2], fun f hm => ?_⟩
    rcases List.mem_cons.mp hm with rfl | hm
    · exact ⟨_, _, rfl⟩
    · exact h3 f hm
theorem si_sortable {a : Addr} {vs : List Value} {k : Value → Str × Int} (h0 : 0 < vs.length) (hp : ∀ v ∈ vs, IsSI s.heap v (k v)) (ha : ∀ o, s.heap.get? a = some o → o.cls ≠ .type "tuple") :
    SrtO.SortableO prog w A s a vs fun v u => ltSI (k v) (k u) := by
  intro h' keep
  have hp' : ∀ v ∈ vs, IsSI h' v (k v) := fun v hm => (hp v hm).keeps fun b o e c => keep b o (fun z => by subst z; exact ha o e c) e
  obtain ⟨fs, h1, h2, h3⟩ := si_firsts hp'
  refine ⟨tuples' true, fun Q E hq => ?_, si_cmp hp'⟩
  refine PySem.W.kat_kind (T := .type "str") h1 (by omega) (fun f hm => ?_) (by rfl) ?_
  · obtain ⟨x, t, rfl⟩ := h3 f hm
    exact PySem.W.Looks.now
  · have e : (Value.type "str" != Value.type "tuple") = true := by first | decide +kernel | rfl | decide
    rw [e]
    exact hq
end
end Bd
namespace Bd
open PySem PySem.Spec PyProof.Rows L2
/-- the pair that a value stands for, read off the heap -/
def siOf (h : Heap) (v : Value) : Str × Int := match v with
  | .ref b => (match h.get? b with
    | some o => (match o.data with
      | .seq xs _ => (match xs.toList with
        | [.str x _, .int y _] => (x, y)
        | _ => (⟨#[]⟩, 0))
      | _ => (⟨#[]⟩, 0))
    | none => (⟨#[]⟩, 0))
  | _ => (⟨#[]⟩, 0)
theorem IsSI.of {h : Heap} {v : Value} {p : Str × Int} (x : IsSI h v p) : siOf h v = p := by
  obtain ⟨a, o, t, u, n, rfl, ho, hc, hd⟩ := x
  unfold siOf
  simp only [ho, hd]
/-- an asset as a dict's key -/
def eK (p : Str × Int) : List Key := [Sum.inr p.1, Sum.inl p.2]
/-- addresses of assets' tuples -/
def AsAt (H : Hp) (ps : List (Addr × (Str × Int))) : Prop := ∀ z ∈ ps, H z.1 = some (.tup [.str z.2.1, .int z.2.2])
theorem isSI_of {P : Program} {w : World} {H : Hp} {h : Heap} {b : Addr} {p : Str × Int} (ok : HOk P w H h) (e : H b = some (.tup [.str p.1, .int p.2])) : IsSI h (.ref b) p := by
  obtain ⟨_, its, r, o, ho, hc, n, hd⟩ := ok _ _ e
  obtain ⟨u1, u2, rfl, ri, rj⟩ := vals2 r
  obtain ⟨t1, rfl⟩ := ri
  obtain ⟨t2, rfl⟩ := rj
  exact ⟨b, o, t1, t2, n, rfl, ho, hc, hd⟩
theorem kt_as {H : Hp} : ∀ {m : List ((Str × Int) × V)} {ks : List (List Key × Addr × Value)}, KT H (m.map fun e => (eK e.1, e.2)) ks → ∃ ps : List (Addr × (Str × Int)), AsAt H ps ∧ ps.map (·.2) = m.map (·.1) ∧ ps.map (·.1) = ks.map fun x => x.2.1
  | [], _, r => by
    rw [List.map_nil] at r
    cases r
    exact ⟨[], fun _ h => absurd h List.not_mem_nil, rfl, rfl⟩
  | e :: m, _, r => by
    rw [List.map_cons] at r
    cases r with
    | @cons p q ps qs h t =>
      obtain ⟨ps', a1, a2, a3⟩ := kt_as t
      refine ⟨(q.2.1, e.1) :: ps', fun z hz => ?_, by rw [List.map_cons, List.map_cons, a2], by rw [List.map_cons, List.map_cons, a3]⟩
      rcases List.mem_cons.mp hz with rfl | hz
      · exact h.2.1
      · exact a1 z hz
section
variable {X : Cx}
/-- sorted(d), the keys of d pairs of a text and a number -/
def rSortedDT : List V → Hp → VK → Prop := fun xs H Q => ∃ (a : Addr) (m : List ((Str × Int) × V)), xs = [.ref a] ∧ Rd H a (.dT (m.map fun e => (eK e.1, e.2))) ∧
  ∀ (ps : List (Addr × (Str × Int))) (p : Addr), AsAt H ps → SrtO.Srtd ltSI (ps.map (·.2)) → (ps.map (·.2)).Perm (m.map (·.1)) → H p = none → Q (.ref p) (upd H p (.lst (ps.map fun z => V.ref z.1)))
theorem cr_sortedDT (hcalm : X.calm = true) : CallR X (.builtin "sorted") rSortedDT := by
  intro pins s σ H xs us Q I r q
  obtain ⟨a, m, rfl, hd, q⟩ := q
  obtain ⟨u, rfl, rx⟩ := vals1 r
  cases rx
  obtain ⟨z, hs, ks, pr, o, es, ep, ho, hx, hdt, he, hn⟩ := (show ObjOk X.prog X.w H s.heap a (.dT _) from hd.ok I.hok)
  have l1 : es.size = ks.length := size_of_entries he
  have l2 : (m.map fun e => (eK e.1, e.2)).length = ks.length := Paired.length pr
  have l3 : m.length = ks.length := by simpa using l2
  refine Calls.call_function_entry PyProof.Rows.kind_sorted PyProof.Rows.plain_sorted PyProof.Rows.entry_sorted (PyProof.Rows.args_sorted1 _) ?_
  unfold Builtin.«sorted»
  refine wpAny_bind (m := checkCount "sorted" 1 1 _) (wpAny_pure ?_)
  refine wpAny_bind (PySem.W.kdu_collect (A := X.A.in1) (kdl_raw hs hx hdt) (I.ok.hd hcalm) ho (by omega) fun h' tk acc hk it => ?_)
  have ea : acc.toList = (ks.map fun x => x.2.1).map Value.ref := by
    have hl : acc.toList.length = ks.length := by rw [Array.length_toList, it.1]; exact l1
    apply List.ext_getElem?
    intro j
    rw [List.map_map, List.getElem?_map]
    cases hj : acc.toList[j]? with
    | none =>
      have h1 := List.getElem?_eq_none_iff.mp hj
      rw [List.getElem?_eq_none (by omega)]
      rfl
    | some v =>
      obtain ⟨en, hen, hv⟩ := it.2 j v (by rw [← Array.getElem?_toList]; exact hj)
      have qe := entry_at he j
      rw [hen] at qe
      cases hb : ks[j]? with
      | none =>
        rw [hb] at qe
        exact nomatch (show some en = none from qe)
      | some b =>
        rw [hb] at qe
        have e2 : en = entryOfKey (tupleKind (mixKind X.prog X.w)) b := Option.some.inj qe
        rw [hv, e2]
        rfl
  have I1 : Inv X pins σ H { s with heap := h', toks := tk } := I.kept hk
  obtain ⟨ps0, a1, a2, a3⟩ := kt_as pr
  have eb : acc.toList = ps0.map fun z => Value.ref z.1 := by rw [ea, ← a3, List.map_map]; rfl
  have hal : acc.toList.length ≤ sizeLine := by
    rw [Array.length_toList, it.1]; omega
  refine wpAny_bind (wpAny_newList ?_ hal)
  have hoL : (h'.push (seqObj "list" acc.toList.toArray 0)).get? h'.objs.size = some (seqObj "list" acc.toList.toArray 0) := Heap.get?_push_size _ rfl
  have hsi : ∀ v ∈ acc.toList, IsSI (h'.push (seqObj "list" acc.toList.toArray 0)) v (siOf s.heap v) := fun v hv => by
    rw [eb] at hv
    obtain ⟨zz, hz, rfl⟩ := List.mem_map.mp hv
    have q := isSI_of I.hok (a1 zz hz)
    rw [q.of]
    exact (isSI_of I1.hok (a1 zz hz)).keeps fun b ob e _ => Heap.get?_push_of_some _ e
  show wpAny _ _ _ _ _ { s with heap := h'.push (seqObj "list" acc.toList.toArray 0), toks := tk }
  refine wpAny_bind (wpAny_holding (wpAny_call_entry PyProof.Rows.slot_list_sort ⟨_, hoL, rfl⟩ PyProof.Rows.entry_list_sort
    (SrtO.list_sort_ord (ltv := fun v u => ltSI (siOf s.heap v) (siOf s.heap u)) (s := { s with heap := h'.push (seqObj "list" acc.toList.toArray 0), toks := tk }) (swo_SI (siOf s.heap)) hoL hal (fun h2 => si_sortable (by omega) hsi fun ob e => by
      have e' := e.symm.trans hoL
      cases e'
      intro c
      exact absurd (Value.type.inj c) (by decide)) fun out h1 h2 => ⟨_, rfl, ?_⟩)
    (PyProof.Rows.args_list_sort _)))
  obtain ⟨ps, b1, b2⟩ := perm_lift (fun z : Addr × (Str × Int) => Value.ref z.1) h2.perm ps0 eb.symm
  have hAs : AsAt H ps := fun z hz => a1 z (b1.mem_iff.mp hz)
  have hk2 : ∀ z ∈ ps, siOf s.heap (Value.ref z.1) = z.2 := fun z hz => (isSI_of I.hok (hAs z hz)).of
  have hsr : SrtO.Srtd ltSI (ps.map (·.2)) := by
    rw [← b2] at h1
    have h1' := List.pairwise_map.mp h1
    refine List.pairwise_map.mpr (h1'.imp_of_mem fun {x y} hx hy hh => ?_)
    have hh' : ltSI (siOf s.heap (Value.ref y.1)) (siOf s.heap (Value.ref x.1)) = false := hh
    rw [hk2 x hx, hk2 y hy] at hh'
    exact hh'
  obtain ⟨e', he'⟩ := PyProof.Rows.sortedHeap_at (vs := acc.toList) (out := out.toArray) hoL
  have hlen : (ps.map fun z => V.ref z.1).length ≤ sizeLine := by
    rw [List.length_map, b1.length_eq]
    have : ps0.length = acc.toList.length := by rw [eb, List.length_map]
    omega
  refine wpAny_pure ⟨_, rfl, .ref h'.objs.size, upd H h'.objs.size (.lst (ps.map fun z => V.ref z.1)), I1.laid (t' := tk) (fun b u e => ?_) (Nat.le_refl _)
    (show ObjOk X.prog X.w _ _ _ (.lst _) from ⟨hlen, out, e', ?_, he'⟩), rfl, q ps _ hAs hsr ((b1.map _).trans (by rw [a2])) (I1.hok.fresh (Nat.le_refl _))⟩
  · have hb : b < h'.objs.size := Heap.lt_size e
    rw [PyProof.Rows.sortedHeap_old (Nat.ne_of_lt hb) (by rw [size_push']; exact Nat.lt_succ_of_lt hb)]
    exact Heap.get?_push_of_some _ e
  · rw [← b2]
    have := vals_refs (ps.map (·.1))
    rw [List.map_map, List.map_map] at this
    exact this
end
end Bd
namespace Bd
open PySem PySem.Spec PyProof.Rows
section
variable {prog : Program} {w : World} {A : Around} {E : Value → Shared → Prop} {s : Shared} {r d : Addr} {es : Array DictEntry} {ep : Nat}
theorem code_tuple_items {Q₁ : Value → Shared → Prop} (hh : A.handled = none) (hv : s.heap.IsItemsView r d) (hm : DT.Raw s.heap d es ep) (hn : es.size ≤ sizeLine)
    (h : ∀ (h' : Heap) (tk : Nat) (as : List Addr), (∀ b o, s.heap.get? b = some o → h'.get? b = some o) → s.heap.objs.size < h'.objs.size → as.length = es.size → DT.Made es s.heap.objs.size h' as →
      Q₁ (.ref h'.objs.size) { s with heap := h'.push { cls := .type "tuple", data := .seq (as.map Value.ref).toArray }, toks := tk }) :
    codeAny (model prog w) A (.call (.builtin "tuple.__new__") ⟨[.type "tuple", .ref r], []⟩) (wants Q₁ E) s := by
  refine codeAny_of_tree ?_
  show wpAny _ A.in1 (do checkBuiltinCall "tuple.__new__" ⟨[.type "tuple", .ref r], []⟩; again (.builtin "tuple.__new__" ⟨[.type "tuple", .ref r], []⟩)) _ _ s
  refine wpAny_bind (wpAny_of_eq (F.newCall_tuple_1 _) (wpAny_pure ⟨plainId_quiet F.plain_tuple_new _, codeAny_builtin F.entry_tuple_new ?_⟩))
  rw [Around.under_plainId F.plain_tuple_new _]
  have hsub := sub_tuple_self
  have hinit := init_tuple_lookup
  have hmh := madeHere_tuple
  have hTI : s.TypeIs (.ref r) "dict_items" := by
    obtain ⟨o, ho, hc, _⟩ := hv
    exact ⟨o, ho, hc⟩
  wp_walk using wpAny_typeOf hTI, DT.collectI (A := A.in1) (show A.in1.handled = none from hh) hv hm hn
  intro h' tk as hk hlt hl hG
  show wpAny _ _ (Builtin.Tuple.tupleExact (as.map Value.ref).toArray >>= fun v => ret v) _ _ _
  unfold Builtin.Tuple.tupleExact
  refine wpAny_bind (wpAny_newObj_type ?_ (by show (as.map Value.ref).toArray.size ≤ sizeLine; simp only [List.size_toArray, List.length_map]; omega))
  exact wpAny_pure (h h' tk as hk hlt hl hG)
theorem call_tuple_items {Q : Value → Shared → Prop} (hh : A.handled = none) (hv : s.heap.IsItemsView r d) (hm : DT.Raw s.heap d es ep) (hn : es.size ≤ sizeLine)
    (h : ∀ (h' : Heap) (tk : Nat) (as : List Addr), (∀ b o, s.heap.get? b = some o → h'.get? b = some o) → s.heap.objs.size < h'.objs.size → as.length = es.size → DT.Made es s.heap.objs.size h' as →
      Q (.ref h'.objs.size) { s with heap := h'.push { cls := .type "tuple", data := .seq (as.map Value.ref).toArray }, toks := tk }) :
    wpAny (model prog w) A (call (.type "tuple") [.ref r]) Q E s := by
  refine callType_codes (Q₁ := fun obj s₁ => s₁.TypeIs obj "tuple" ∧ Q obj s₁) F.called_tuple (F.typeCall_tuple_1 _) F.entry_object_init
    (code_tuple_items (A := A.in1) hh hv hm hn fun h' tk as hk hlt hl hG => ⟨⟨_, Heap.get?_push_size _ rfl, rfl⟩, h h' tk as hk hlt hl hG⟩) fun obj s₁ h₁ => ?_
  exact ⟨h₁.1, F.args_object_init_2 obj _, object_init_meets F.called_tuple.init.lookup F.called_tuple.made (by decide) prog w A.in1 _ s₁ ⟨h₁.1, rfl, h₁.2⟩⟩
end
end Bd
namespace Bd
open PySem PySem.Spec PyProof.Rows L2 L2.DX
section
variable {X : Cx}
/-- tuple(d.items()): a row of pairs (asset, value) -/
def rTupIt : List V → Hp → VK → Prop := fun vs H Q => ∃ (p a : Addr) (m : List ((Str × Int) × V)), vs = [.ref p] ∧ H p = some (itemsO p a) ∧ H a = some (.dT (m.map fun e => (eK e.1, e.2))) ∧
  ∀ (H' : Hp) (q : Addr) (zs : List (Addr × ((Str × Int) × V))), (∀ b o, H b = some o → H' b = some o) → H q = none → zs.map (·.2) = m → H' q = some (.tup (zs.map fun z => V.ref z.1)) →
    (∀ z ∈ zs, ∃ kq, H' z.1 = some (.tup [.ref kq, z.2.2]) ∧ H' kq = some (.tup [.str z.2.1.1, .int z.2.1.2])) → Q (.ref q) H'
theorem cr_tupIt (hc : X.calm = true) : CallR X (.type "tuple") rTupIt := by
  intro pins s σ H xs us Q I r h
  obtain ⟨p, a, m, rfl, hp, ha, q⟩ := h
  obtain ⟨u, rfl, ru⟩ := vals1 r
  obtain rfl : u = Value.ref p := ru
  have view : s.heap.IsItemsView p a := (show ObjOk X.prog X.w H s.heap p (itemsO p a) from I.hok p _ hp).1
  obtain ⟨z, hd, xs', rel, o, es, ep, ho, hx, hdat, hes, his, hn⟩ := dt_of I.hok ha
  have l1 : (m.map fun e => (eK e.1, e.2)).length = xs'.length := Paired.length rel
  rw [List.length_map] at l1 z
  have l2 : es.size = xs'.length := size_of_entries hes
  refine call_tuple_items (es := es) (ep := ep) (I.ok.hd hc) view ⟨o, ho, hx, hdat⟩ (by omega) fun h' tk as hk hlt hl hG => ?_
  have lam : as.length = m.length := by omega
  have nd : as.Nodup := List.Pairwise.imp (fun h => Nat.ne_of_lt h) hG.rise
  have hN : s.heap.objs.size < h'.objs.size := hlt
  generalize hh : h'.push { cls := .type "tuple", data := .seq (as.map Value.ref).toArray } = h2
  have ka : ∀ b o, h'.get? b = some o → h2.get? b = some o := fun b o e => by rw [← hh]; exact Heap.get?_push_of_some _ e
  have hob : h2.get? h'.objs.size = some { cls := .type "tuple", data := .seq (as.map Value.ref).toArray } := by rw [← hh]; exact Heap.get?_push_size _ rfl
  have I1 : Inv X pins σ H { s with heap := h2, toks := tk } := I.kept (t' := tk) fun b o e => ka _ _ (hk b o e)
  have hn0 : H h'.objs.size = none := I.hok.fresh (Nat.le_of_lt hN)
  have I2 : Inv X pins σ (upd H h'.objs.size (.tup (as.map V.ref))) { s with heap := h2, toks := tk } :=
    I1.take (h' := h2) (t' := tk) (fun b ob _ e => e) (I.fpOk (Nat.le_of_lt hN) hn0) ⟨by rw [List.length_map]; omega, as.map Value.ref, vals_refs as, ⟨_, hob, rfl, 0, rfl⟩⟩
  obtain ⟨H2, I3, g, qt⟩ := takeT (P := fun b vs => ∃ (j : Nat) (e : (Str × Int) × V) (kq : Addr), as[j]? = some b ∧ m[j]? = some e ∧ vs = [.ref kq, e.2] ∧ H kq = some (.tup [.str e.1.1, .int e.1.2])) I as _ I2 nd fun b hb => by
    obtain ⟨j, hj⟩ := List.mem_iff_getElem?.mp hb
    obtain ⟨en, he, hg⟩ := hG.pairs j b hj
    rw [entry_at hes j] at he
    cases hxj : xs'[j]? with
    | none =>
      rw [hxj] at he
      exact nomatch (show (none : Option DictEntry) = some en from he)
    | some x =>
      rw [hxj] at he
      have een : entryOfKey (tupleKind (mixKind X.prog X.w)) x = en := Option.some.inj he
      obtain ⟨e0, he0, r1, r2, r3⟩ := pget rel hxj
      rw [List.getElem?_map] at he0
      cases hkj : m[j]? with
      | none =>
        rw [hkj] at he0
        exact nomatch (show (none : Option (List L2.Key × V)) = some e0 from he0)
      | some e =>
        rw [hkj] at he0
        have ee : (eK e.1, e.2) = e0 := Option.some.inj he0
        rw [← ee] at r2 r3
        have hbl : s.heap.objs.size ≤ b := Nat.le_of_lt (hG.above b hb)
        have hbn : b ≠ h'.objs.size := Nat.ne_of_lt (Heap.lt_size hg)
        refine ⟨hbl, by rw [upd_ne hbn]; exact I.hok.fresh hbl, [.ref x.2.1, e.2], ⟨j, e, x.2.1, hj, hkj, rfl, r2⟩, fun H3 => ⟨by rw [sizeLine_eq]; show 2 ≤ 16777216; omega, [Value.ref x.2.1, x.2.2], .cons rfl (.cons r3 .nil), ⟨_, ka _ _ hg, rfl, 0, ?_⟩⟩⟩
        rw [← een]
        rfl
  have gr : ∀ b o, H b = some o → H2 b = some o := fun b o e => g b o (by rw [upd_ne (ne_of_none e hn0)]; exact e)
  refine ⟨.ref h'.objs.size, H2, I3, rfl, q H2 h'.objs.size (as.zip m) gr hn0 (List.map_snd_zip (by omega)) ?_ fun z' hz' => ?_⟩
  · have e1 : ((as.zip m).map fun z => V.ref z.1) = as.map V.ref := by
      have := List.map_fst_zip (l₁ := as) (l₂ := m) (by omega)
      conv => rhs; rw [← this]
      rw [List.map_map]; rfl
    rw [e1]
    exact g _ _ upd_same
  · obtain ⟨i, hi⟩ := List.mem_iff_getElem?.mp hz'
    obtain ⟨i1, i2⟩ := List.getElem?_zip_eq_some.mp hi
    obtain ⟨vs, ⟨j, e, kq, j1, j2, ev, hkq⟩, hH⟩ := qt z'.1 (List.mem_of_getElem? i1)
    have eij : i = j := (List.getElem?_inj (List.getElem?_eq_some_iff.mp i1).1 nd).mp (i1.trans j1.symm)
    subst eij
    have ee : e = z'.2 := Option.some.inj (j2.symm.trans i2)
    rw [ev, ee] at hH
    rw [ee] at hkq
    exact ⟨kq, hH, gr _ _ hkq⟩
end
end Bd
namespace Bd
open PySem PySem.Spec PyProof.Rows L2
section
/-- d[k] = v by a comprehension, keys tuples -/
theorem put_tup {X : Cx} {pins : List (Addr × Obj)} {σ : L2.St} {H : Hp} {s : Shared} {E : Value → Shared → Prop} {D b : Addr} {kvs : List (List Key × V)} {k : List Key} {v : V} {u r : Value} {Q : Unit → Shared → Prop} (hu : X.A.units + 1 < cLine) (I : Inv X pins σ H s)
    (hD : H D = some (.dT kvs)) (hb : H b = some (.tup (k.map kV))) (hz : kvs.length < sizeLine) (ru : u = Value.ref b) (rv : RelV v r) (h : ∀ s', Inv X pins σ (upd H D (.dT (putK kvs k v))) s' → Q () s') :
    wpAny (model X.prog X.w) X.A (dictSet D u r) Q E s := by
  subst ru
  obtain ⟨z, hd, xs, rel, dd⟩ := dt_of I.hok hD
  have hl : (putK kvs k v).length ≤ sizeLine := by have := length_putK kvs k v; omega
  refine wpAny_dictSet_heap (hsz := by rw [← Paired.length rel]; exact z) (show (tupleKind (mixKind X.prog X.w)).room X.A from (show X.A.units < cLine by omega)) (key_of I.hok hb) dd fun h' dd' hs => h _ ?_
  obtain ⟨q, es, ep, hq, h2, h3, h4, _, h5⟩ := dd'
  refine d_write I (by rw [hD]; exact True.intro) hs ⟨q, hq⟩ ⟨hl, hd, _, (rel.put k hb rv).keeps fun c ys ec => ?_, q, es, ep, hq, h2, h3, h4, h5⟩
  rw [upd_ne (ne_of ec hD (fun z => nomatch z))]
  exact ec
end
section
variable {X : Cx}
/-- what {k: v for ..} asks of what it walks, the keys tuples: D the new dict -/
def DcJ (g : TG) (tt : TT) (tk tv : TE) (vs : List Nat) (σ : L2.St) (Q : VK) (J : It) (H1 : Hp) : Prop := ∀ D, H1 D = none → ∃ W : Nat → Nat → Hp → Prop, (∃ m, W 0 m (upd H1 D (.dT []))) ∧ ∀ i m H, W i m H →
  (J.stop i H ∧ Q (.ref D) H) ∨ (J.go i H ∧ ∃ Nx : Hp → Prop, (∀ H', Nx H' → ∃ m', m' < m ∧ W (i + 1) m' H') ∧ ∀ x H', J.yld i H x H' → g x (wipe σ vs) H' fun σ2 H2 => wipe σ2 vs = wipe σ vs ∧ tt σ2 H2 fun t H3 =>
    if t = true then tk σ2 H3 fun y H4 => tv σ2 H4 fun z H5 => ∃ kvs k b, y = .ref b ∧ H5 b = some (.tup (k.map kV)) ∧ H5 D = some (.dT kvs) ∧ kvs.length < sizeLine ∧ Nx (upd H5 D (.dT (putK kvs k z))) else Nx H3)
def tDcT (wi : TI) (g : TG) (tt : TT) (tk tv : TE) (vs : List Nat) : TE := fun σ H Q => wi σ H fun J H1 => DcJ g tt tk tv vs σ Q J H1
theorem pe_dcT {kx vx tg iter : Expr} {ifs : List Expr} {scope : Scope} {own : List (Str × Nat)} {pos : Pos} {wi : TI} {g : TG} {tt : TT} {tk tv : TE} (hu : X.A.units + 1 < cLine) (hc : X.calm = true) (hN : X.N.Nodup) (hi : PI X tg iter wi) (ok : BlkOk X.N X.env.scope scope own)
    (hg : ∀ (s : Shared) (H : Hp) (C : Addr) (cl : List (Str × Addr)) (fp : List Addr), PG (X.blk s H scope (compEnvC scope cl C X.env) fp) tg g) (ht : ∀ (s : Shared) (H : Hp) (C : Addr) (cl : List (Str × Addr)) (fp : List Addr), PTs (X.blk s H scope (compEnvC scope cl C X.env) fp) ifs tt)
    (hk : ∀ (s : Shared) (H : Hp) (C : Addr) (cl : List (Str × Addr)) (fp : List Addr), PE (X.blk s H scope (compEnvC scope cl C X.env) fp) kx tk)
    (he : ∀ (s : Shared) (H : Hp) (C : Addr) (cl : List (Str × Addr)) (fp : List Addr), PE (X.blk s H scope (compEnvC scope cl C X.env) fp) vx tv) (hs : ∀ x, foldedSetIterable iter X.env x = pure x := by intro _; rfl) :
    PE X (.DictComp kx vx [⟨tg, iter, ifs, 0⟩] scope pos) (tDcT wi g tt tk tv (own.map (·.2))) := by
  refine ⟨fun pins s σ H Q I h => ?_⟩
  rw [arm_eval_DictComp]
  have free : ∀ y ∈ scope.names, y.2 = .free → ∃ c, X.env.cells.lookup y.1 = some c := fun y hy e => by
    rcases ok.free y hy e with k | k
    · exact I.ok.has _ (.inl k)
    · exact I.ok.has _ (.inr k)
  refine wpAny_comprehension_free rfl hs (closure_ok free) ok.kind (fun y hy e => by rw [ok.uniq y hy, e]) (thn (hi.run pins s σ H _ I h) fun xv s1 hx => thn hx fun itv s2 h2 => ?_)
  obtain ⟨it, fp, tn, J, H2, rfl, I2, T, st2, f2, q⟩ := h2
  -- the dict that is made, at D
  obtain ⟨D, hD⟩ : ∃ D : Addr, D = s2.heap.objs.size := ⟨_, rfl⟩
  have D0 : H2 D = none := I2.hok.fresh (Nat.le_of_eq hD.symm)
  obtain ⟨W, ⟨m0, w0⟩, turn⟩ := q D D0
  refine wpAny_newObj_type (newEnv_comp ?_)
  rw [← hD]
  obtain ⟨s3, e3⟩ : ∃ s3 : Shared, s3 = { s2 with heap := s2.heap.push { cls := .type "dict", data := .dict #[] } } := ⟨_, rfl⟩
  have p3 : ∀ b o, s2.heap.get? b = some o → s3.heap.get? b = some o := fun b o e => by rw [e3]; exact Heap.get?_push_of_some _ e
  have I3 : Inv X pins σ (upd H2 D (.dT [])) s3 := by
    rw [e3]
    exact I2.laid (t' := s2.toks) (fun b o e => Heap.get?_push_of_some _ e) (Nat.le_of_eq hD.symm) (by rw [hD]; exact dt_empty s2.heap I2.big)
  have f3 : ∀ b ∈ fp, FpOk X pins (upd H2 D (.dT [])) b ∧ b < s3.heap.objs.size := fun b hb => by
    obtain ⟨o, e, _⟩ := T.obj _ _ st2 b hb
    exact ⟨⟨by rw [upd_ne (by rw [hD]; exact Nat.ne_of_lt (Heap.lt_size e))]; exact (f2 b hb).1, (f2 b hb).2⟩, Heap.lt_size (p3 b o e)⟩
  have I4 := block_start I3 ok hN f3
  have pg := hg s3 (upd H2 D (.dT [])) s3.heap.objs.size (cellsFrom (s3.heap.objs.size + 1) scope.names (cloFrom X.env.cells scope.names [])) fp
  have pt := ht s3 (upd H2 D (.dT [])) s3.heap.objs.size (cellsFrom (s3.heap.objs.size + 1) scope.names (cloFrom X.env.cells scope.names [])) fp
  have pk := hk s3 (upd H2 D (.dT [])) s3.heap.objs.size (cellsFrom (s3.heap.objs.size + 1) scope.names (cloFrom X.env.cells scope.names [])) fp
  have pe := he s3 (upd H2 D (.dT [])) s3.heap.objs.size (cellsFrom (s3.heap.objs.size + 1) scope.names (cloFrom X.env.cells scope.names [])) fp
  rw [← e3]
  show codeAny _ _ (.compStart (.DictComp kx vx [⟨tg, iter, ifs, 0⟩] scope pos) 0 (.ref it) (.ref D) (compEnvC scope (cellsFrom (s3.heap.objs.size + 1) scope.names (cloFrom X.env.cells scope.names [])) s3.heap.objs.size X.env))
    (compPost (model X.prog X.w) X.A X.xe none (EP X pins σ Q) (.ref D) s3.heap.objs.size) { s3 with heap := pushCells (s3.heap.push { cls := .type "dict", data := .dict #[] }) scope.names }
  have nf : ∀ b ∈ fp, (upd H2 D (.dT [])) b = none := fun b hb => (f3 b hb).1.1
  have t4 : tn 0 (pushCells (s3.heap.push { cls := .type "dict", data := .dict #[] }) scope.names) := T.keep _ _ _ st2 fun b _ o e => pushCells_keeps _ _ _ _ (Heap.get?_push_of_some _ (p3 b o e))
  generalize hce : compEnvC scope (cellsFrom (s3.heap.objs.size + 1) scope.names (cloFrom X.env.cells scope.names [])) s3.heap.objs.size X.env = ce at I4 pg pt pk pe ⊢
  have cL : ce.locals = s3.heap.objs.size := by rw [← hce]; rfl
  generalize upd H2 D (.dT []) = H3 at I3 f3 I4 pg pt pk pe nf w0
  generalize hs4 : ({ s3 with heap := pushCells (s3.heap.push { cls := .type "dict", data := .dict #[] }) scope.names } : Shared) = s4 at I4 ⊢
  have t4' : tn 0 s4.heap := by rw [← hs4]; exact t4
  -- the iterator's objects stand outside of the block
  have outer : ∀ {σ' : L2.St} {H' : Hp} {s' : Shared}, Inv (X.blk s3 H3 scope ce fp) [] σ' H' s' → (∀ b ∈ fp, H' b = none) → ∀ b ∈ fp, FpOk (X.blk s3 H3 scope ce fp) [] H' b := fun {σ' H' s'} J n b hb =>
    ⟨n b hb, (J.ok.exf b hb).1, J.ok.exfs b hb, .inl hb, fun x c e => (J.ok.exf b hb).2 x c e, fun p hp => absurd (show p ∈ ([] : List (Addr × Obj)) ++ [] from hp) (by simp)⟩
  have loop : codeAny (model X.prog X.w) X.A (.compLoop (.DictComp kx vx [⟨tg, iter, ifs, 0⟩] scope pos) 0 (.ref it) (.ref D) ce) (compPost (model X.prog X.w) X.A X.xe none (EP X pins σ Q) (.ref D) s3.heap.objs.size) s4 := by
    refine compLoop_anyD (fun n s' => ∃ i H', Inv (X.blk s3 H3 scope ce fp) [] (wipe σ (own.map (·.2))) H' s' ∧ tn i s'.heap ∧ (∀ b ∈ fp, H' b = none) ∧ W i n H') ?_ m0 ⟨0, H3, I4, t4', nf, w0⟩
    rintro n s5 ⟨i, H5, I5, t5, n5, w5⟩
    rcases turn i n H5 w5 with ⟨stop, fin⟩ | ⟨go, Nx, hNx, step⟩
    · -- the walk is at its end: the def goes on
      refine thnF (T.done (X.blk s3 H3 scope ce fp) rfl rfl rfl hc i [] s5 _ H5 (fun _ _ => False) I5 (outer I5 n5) t5 stop) fun r s6 ⟨hr, I6⟩ => ?_
      subst hr
      have I7 : Inv X pins σ H5 s6 := I3.call' (ch := fp) I6.os I6.base I6.hok I6.bare fun b hb => ⟨(f3 b hb).1.2.2.2.1, (f3 b hb).1.2.1, (f3 b hb).1.2.2.2.2.1, (f3 b hb).1.2.2.2.2.2⟩
      have nC : H5 s3.heap.objs.size = none := by rw [← cL]; exact I6.free
      obtain ⟨m, hn, _⟩ := I6.loc
      have hn' : s6.heap.Ns s3.heap.objs.size m := by rw [← cL]; exact hn
      obtain ⟨g0, g1, g2, g3, g4, g5⟩ := I3.fpOk (Nat.le_refl _) nC
      exact ⟨m, hn', fun h'' sb => ⟨.ref D, H5, I7.turned (t' := s6.toks) (fun b o hb e => (sb.2 b hb).trans e) g0 g1 g3 g4 g5, rfl, fin⟩⟩
    · -- one more turn
      refine thnF (T.item (X.blk s3 H3 scope ce fp) rfl rfl rfl hc i [] s5 _ H5 (fun _ _ => False) I5 (outer I5 n5) t5 go) fun r s6 ⟨u, hr, h6⟩ => ?_
      subst hr
      refine thnF h6 fun _ s7 ⟨x, H7, I7, r7, y7, t7, n7⟩ => ?_
      have I7' := I7.pinned (outer I7 n7) (T.obj _ _ t7)
      refine thnF (pg.run _ s7 _ H7 x u _ I7' r7 (step x H7 y7)) fun _ s8 ⟨σ8, H8, I8, w8, q8⟩ => ?_
      refine thnF (pt.run _ s8 σ8 H8 _ I8 q8) fun b s9 ⟨H9, I9, q9⟩ => ?_
      have again : ∀ {s' : Shared} {H' : Hp}, Inv (X.blk s3 H3 scope ce fp) ([] ++ pinsAt fp s7.heap) σ8 H' s' → Nx H' → ∃ m, m < n ∧ ∃ i H', Inv (X.blk s3 H3 scope ce fp) [] (wipe σ (own.map (·.2))) H' s' ∧ tn i s'.heap ∧ (∀ b ∈ fp, H' b = none) ∧ W i m H' := by
        intro s' H' J nx
        obtain ⟨m', hm, w'⟩ := hNx H' nx
        have stay : ∀ b ∈ fp, ∀ o, s7.heap.get? b = some o → s'.heap.get? b = some o ∧ H' b = none := fun b hb o e => by
          have z := J.pin (b, o) (List.mem_append_right _ (List.mem_append_right _ (mem_pinsAt hb e)))
          exact ⟨z.1, z.2.1⟩
        refine ⟨m', hm, i + 1, H', (J.unpinned (pins := [])).weak (by rw [← w8, wipe_length]) (fun j v e => ?_), T.keep _ _ _ t7 fun b hb o e => (stay b hb o e).1, fun b hb => ?_, w'⟩
        · rw [← w8] at e; exact (wipe_some e).1
        · obtain ⟨o, e, _⟩ := T.obj _ _ t7 b hb
          exact (stay b hb o e).2
      cases b with
      | false =>
        simp only [Bool.false_eq_true, if_false] at q9 ⊢
        exact again I9 q9
      | true =>
        simp only [if_true] at q9 ⊢
        refine thnF (pk.run _ s9 σ8 H9 _ I9 q9) fun ky s10 ⟨yk, H10, I10, r10, q10⟩ => ?_
        refine thnF (pe.run _ s10 σ8 H10 _ I10 q10) fun vv s11 ⟨yv, H11, I11, r11, kvs, k, kb, ek, hkb, hD11, hz11, nx⟩ => ?_
        subst ek
        exact put_tup (X := X.blk s3 H3 scope ce fp) hu I11 hD11 hkb hz11 r10 r11 fun s12 I12 => again I12 nx
  exact codeAny_compStart_dict loop (T.self X.A 0 _ _ _ t4' loop)
end
end Bd
namespace Bd
open PySem PySem.Spec PyProof.Rows L2
/-- a list or a tuple is walked -/
def iLt (K : PySem.W.Frag) (tl : TE) : TI := fun σ H R => iList K tl σ H R ∨ iTup K tl σ H R
theorem pi_lt {X : Cx} {tg l : Expr} {tl : TE} (hl : PE X l tl) : PI X tg l (iLt X.K tl) := ⟨fun pins s σ H R I h => h.elim ((pi_list hl).run pins s σ H R I) ((pi_tup hl).run pins s σ H R I)⟩
end Bd

set_option Elab.async false
set_option linter.all false
set_option maxRecDepth 100000
set_option maxHeartbeats 4000000
/-! Bundles: sums of rows, normal forms. -/
namespace Bd
open PySem PySem.Spec PyProof.Rows L2
abbrev Ast := Str × Int
theorem ltSI_anti {p q : Ast} (h1 : ltSI p q = false) (h2 : ltSI q p = false) : p = q := by
  have a := ltSI_no.mp h1
  have b := ltSI_no.mp h2
  have c1 : q.1.cps.toList ≤ p.1.cps.toList := List.not_lt.mp fun z => a (.inl z)
  have c2 : p.1.cps.toList ≤ q.1.cps.toList := List.not_lt.mp fun z => b (.inl z)
  have e : p.1 = q.1 := str_ext (List.le_antisymm c2 c1)
  have d1 : ¬ p.2 < q.2 := fun z => a (.inr ⟨e, z⟩)
  have d2 : ¬ q.2 < p.2 := fun z => b (.inr ⟨e.symm, z⟩)
  exact Prod.ext e (by omega)
/-- the sum of the quantities of an asset -/
def tot : List (Ast × Int) → Ast → Int
  | [], _ => 0
  | e :: r, p => (if e.1 = p then e.2 else 0) + tot r p
theorem tot_append : ∀ (R S : List (Ast × Int)) (p : Ast), tot (R ++ S) p = tot R p + tot S p
  | [], S, p => by simp [tot]
  | e :: R, S, p => by rw [List.cons_append]; simp only [tot]; rw [tot_append R S p]; omega
theorem tot_neg : ∀ (R : List (Ast × Int)) (p : Ast), tot (R.map fun e => (e.1, -e.2)) p = - tot R p
  | [], p => by simp [tot]
  | e :: R, p => by
    rw [List.map_cons]; simp only [tot]; rw [tot_neg R p]
    split <;> omega
theorem tot_none {p : Ast} : ∀ {N : List (Ast × Int)}, p ∉ N.map (·.1) → tot N p = 0
  | [], _ => rfl
  | e :: N, h => by
    simp only [tot]
    rw [if_neg fun z => h (by rw [List.map_cons, z]; exact List.mem_cons_self ..), tot_none fun z => h (by rw [List.map_cons]; exact List.mem_cons_of_mem _ z)]
    omega
theorem tot_at {e : Ast × Int} : ∀ {N : List (Ast × Int)}, (N.map (·.1)).Nodup → e ∈ N → tot N e.1 = e.2
  | [], _, h => absurd h List.not_mem_nil
  | f :: N, hn, h => by
    rw [List.map_cons, List.nodup_cons] at hn
    simp only [tot]
    rcases List.mem_cons.mp h with rfl | h
    · rw [if_pos rfl, tot_none hn.1]; omega
    · rw [if_neg fun z => hn.1 (by rw [z]; exact List.mem_map_of_mem (f := (·.1)) h), tot_at hn.2 h]; omega
/-- rows in normal form -/
structure Nrm (N : List (Ast × Int)) : Prop where
  srt : N.Pairwise fun a b => ltSI b.1 a.1 = false
  nd : (N.map (·.1)).Nodup
  nz : ∀ e ∈ N, e.2 ≠ 0
theorem Nrm.nil : Nrm [] := ⟨List.Pairwise.nil, List.nodup_nil, fun _ h => absurd h List.not_mem_nil⟩
theorem Nrm.tail {e : Ast × Int} {N : List (Ast × Int)} (h : Nrm (e :: N)) : Nrm N := ⟨(List.pairwise_cons.mp h.srt).2, by have := h.nd; rw [List.map_cons, List.nodup_cons] at this; exact this.2, fun x hx => h.nz x (List.mem_cons_of_mem _ hx)⟩
theorem Nrm.key {N : List (Ast × Int)} (h : Nrm N) (p : Ast) : p ∈ N.map (·.1) ↔ tot N p ≠ 0 := by
  constructor
  · intro m
    obtain ⟨e, he, rfl⟩ := List.mem_map.mp m
    rw [tot_at h.nd he]; exact h.nz e he
  · intro m
    rcases Classical.em (p ∈ N.map (·.1)) with z | z
    · exact z
    · exact absurd (tot_none z) m
/-- one normal form for one sum -/
theorem Nrm.uniq : ∀ {N M : List (Ast × Int)}, Nrm N → Nrm M → (∀ p, tot N p = tot M p) → N = M
  | [], [], _, _, _ => rfl
  | [], e :: M, _, hm, h => absurd (h e.1) (by
      rw [tot_at hm.nd (List.mem_cons_self ..)]
      exact fun z => hm.nz e (List.mem_cons_self ..) z.symm)
  | e :: N, [], hn, _, h => absurd (h e.1) (by
      rw [tot_at hn.nd (List.mem_cons_self ..)]
      exact fun z => hn.nz e (List.mem_cons_self ..) z)
  | e :: N, f :: M, hn, hm, h => by
    have k1 : e.1 ∈ (f :: M).map (·.1) := (hm.key _).mpr (by rw [← h]; exact (hn.key _).mp (by rw [List.map_cons]; exact List.mem_cons_self ..))
    have k2 : f.1 ∈ (e :: N).map (·.1) := (hn.key _).mpr (by rw [h]; exact (hm.key _).mp (by rw [List.map_cons]; exact List.mem_cons_self ..))
    have e1 : e.1 = f.1 := by
      rw [List.map_cons] at k1 k2
      rcases List.mem_cons.mp k1 with z | z
      · exact z
      · rcases List.mem_cons.mp k2 with y | y
        · exact y.symm
        · obtain ⟨g, hg, eg⟩ := List.mem_map.mp z
          obtain ⟨g2, hg2, eg2⟩ := List.mem_map.mp y
          have q1 := (List.pairwise_cons.mp hm.srt).1 g hg
          have q2 := (List.pairwise_cons.mp hn.srt).1 g2 hg2
          rw [eg] at q1
          rw [eg2] at q2
          exact ltSI_anti q1 q2
    have e2 : e.2 = f.2 := by
      have a := tot_at hn.nd (List.mem_cons_self (a := e) (l := N))
      have b := tot_at hm.nd (List.mem_cons_self (a := f) (l := M))
      rw [h, e1] at a
      omega
    have ef : e = f := Prod.ext e1 e2
    subst ef
    rw [Nrm.uniq hn.tail hm.tail fun p => by
      have := h p
      simp only [tot] at this
      omega]
/-! ### dicts of sums -/
def eD (m : List (Ast × V)) : List (List Key × V) := m.map fun e => (eK e.1, e.2)
theorem eK_inj {p q : Ast} (h : eK p = eK q) : p = q := by
  have h1 := (List.cons.inj h).1
  have h2 := (List.cons.inj (List.cons.inj h).2).1
  exact Prod.ext (Sum.inr.inj h1) (Sum.inl.inj h2)
theorem valV_eD (p : Ast) : ∀ m : List (Ast × V), valV (eD m) (eK p) = valV m p
  | [] => rfl
  | e :: m => by
    by_cases h : e.1 = p
    · rw [valV_pos h, show eD (e :: m) = (eK e.1, e.2) :: eD m from rfl, valV_pos (p := (eK e.1, e.2)) (by rw [h])]
    · rw [valV_neg h, show eD (e :: m) = (eK e.1, e.2) :: eD m from rfl, valV_neg (p := (eK e.1, e.2)) (fun z => h (eK_inj z)), valV_eD p m]
theorem putK_eD (m : List (Ast × V)) (p : Ast) (v : V) : putK (eD m) (eK p) v = eD (putK m p v) := by
  unfold putK
  rw [valV_any, valV_any, valV_eD]
  split
  · unfold eD
    rw [List.map_map, List.map_map]
    refine List.map_congr_left fun e _ => ?_
    show (if eK e.1 = eK p then (eK e.1, v) else (eK e.1, e.2)) = _
    by_cases h : e.1 = p
    · rw [if_pos (by rw [h])]
      show _ = (fun e : Ast × V => (eK e.1, e.2)) (if e.1 = p then (e.1, v) else e)
      rw [if_pos h]
    · rw [if_neg fun z => h (eK_inj z)]
      show _ = (fun e : Ast × V => (eK e.1, e.2)) (if e.1 = p then (e.1, v) else e)
      rw [if_neg h]
  · unfold eD; rw [List.map_append]; rfl
theorem valV_key {m : List (Ast × V)} {p : Ast} : (valV m p).isSome = true ↔ p ∈ m.map (·.1) := by
  rw [← valV_any, List.any_eq_true]
  constructor
  · rintro ⟨e, he, h⟩
    rw [← of_decide_eq_true h]; exact List.mem_map_of_mem (f := (·.1)) he
  · intro h
    obtain ⟨e, he, h⟩ := List.mem_map.mp h
    exact ⟨e, he, decide_eq_true h⟩
theorem nodup_putK {m : List (Ast × V)} {p : Ast} {v : V} (h : (m.map (·.1)).Nodup) : ((putK m p v).map (·.1)).Nodup := by
  unfold putK
  split
  · rw [List.map_map]
    have : ((fun x : Ast × V => x.1) ∘ fun kv => if kv.1 = p then (kv.1, v) else kv) = fun x => x.1 := by
      funext x; show (if x.1 = p then (x.1, v) else x).1 = x.1; split <;> rfl
    rw [this]; exact h
  · rename_i hn
    rw [List.map_append, List.nodup_append]
    refine ⟨h, by simp, fun a ha b hb => ?_⟩
    have e : b = p := by simpa using hb
    rw [e]
    intro z
    rw [z] at ha
    rw [valV_any] at hn
    exact hn (valV_key.mpr ha)
/-- the sums so far -/
structure Sums (m : List (Ast × V)) (R : List (Ast × Int)) : Prop where
  nd : (m.map (·.1)).Nodup
  val : ∀ p, valV m p = if p ∈ R.map (·.1) then some (.int (tot R p)) else none
theorem Sums.nil : Sums [] [] := ⟨List.nodup_nil, fun p => rfl⟩
theorem Sums.get {m : List (Ast × V)} {R : List (Ast × Int)} (h : Sums m R) (p : Ast) : (valV m p).getD (.int 0) = .int (tot R p) := by
  rw [h.val]
  split
  · rfl
  · rename_i z; rw [tot_none z]; rfl
theorem Sums.put {m : List (Ast × V)} {R : List (Ast × Int)} (h : Sums m R) (e : Ast × Int) : Sums (putK m e.1 (.int (tot R e.1 + e.2))) (R ++ [e]) := by
  refine ⟨nodup_putK h.nd, fun p => ?_⟩
  rw [valV_put, h.val, tot_append]
  simp only [tot, List.map_append, List.map_cons, List.map_nil, List.mem_append, List.mem_singleton]
  by_cases q : p = e.1
  · subst q
    simp
  · have q' : ¬ e.1 = p := fun z => q z.symm
    rw [if_neg q, if_neg q']
    by_cases y : p ∈ R.map (·.1)
    · have y' : p ∈ R.map (·.1) ∨ p = e.1 := .inl y
      rw [if_pos y, if_pos y']; simp
    · have y' : ¬ (p ∈ R.map (·.1) ∨ p = e.1) := fun z => z.elim y q
      rw [if_neg y, if_neg y']
theorem Sums.keys {m : List (Ast × V)} {R : List (Ast × Int)} (h : Sums m R) (p : Ast) : p ∈ m.map (·.1) ↔ p ∈ R.map (·.1) := by
  rw [← valV_key, h.val]
  split <;> simp [*]
/-- what the sorted keys give -/
def nfOf (R : List (Ast × Int)) (S : List Ast) : List (Ast × Int) := (S.filter fun p => decide (tot R p ≠ 0)).map fun p => (p, tot R p)
theorem nf_nrm {R : List (Ast × Int)} {S : List Ast} (hs : SrtO.Srtd ltSI S) (hn : S.Nodup) : Nrm (nfOf R S) := by
  refine ⟨?_, ?_, ?_⟩
  · exact List.pairwise_map.mpr (List.Pairwise.filter _ hs)
  · unfold nfOf; rw [List.map_map]
    have : ((fun x : Ast × Int => x.1) ∘ fun p => (p, tot R p)) = id := rfl
    rw [this, List.map_id]
    exact List.Pairwise.filter _ hn
  · intro e he
    obtain ⟨p, hp, rfl⟩ := List.mem_map.mp he
    exact of_decide_eq_true (List.mem_filter.mp hp).2
theorem nf_tot {R : List (Ast × Int)} {S : List Ast} (hs : SrtO.Srtd ltSI S) (hn : S.Nodup) (hk : ∀ p, p ∈ R.map (·.1) → p ∈ S) (p : Ast) : tot (nfOf R S) p = tot R p := by
  by_cases h : tot R p = 0
  · rw [h]
    refine tot_none fun z => ?_
    obtain ⟨e, he, rfl⟩ := List.mem_map.mp z
    obtain ⟨q, hq, rfl⟩ := List.mem_map.mp he
    exact of_decide_eq_true (List.mem_filter.mp hq).2 h
  · have m : p ∈ S := hk p (by
      rcases Classical.em (p ∈ R.map (·.1)) with z | z
      · exact z
      · exact absurd (tot_none z) h)
    exact tot_at (nf_nrm hs hn).nd (e := (p, tot R p)) (List.mem_map.mpr ⟨p, List.mem_filter.mpr ⟨m, decide_eq_true h⟩, rfl⟩)
end Bd
namespace Bd
open PySem PySem.Spec PyProof.Rows L2
/-- rows as they stand in the heap -/
inductive RowL (H : Hp) : List V → List (Ast × Int) → Prop
  | nil : RowL H [] []
  | cons {z kq : Addr} {xs : List V} {p : Ast} {q : Int} {R : List (Ast × Int)} (h1 : H z = some (.tup [.ref kq, .int q])) (h2 : H kq = some (.tup [.str p.1, .int p.2])) (r : RowL H xs R) : RowL H (.ref z :: xs) ((p, q) :: R)
theorem RowL.keepT {H H' : Hp} (e : ∀ q t, H q = some (.tup t) → H' q = some (.tup t)) {xs : List V} {R : List (Ast × Int)} (h : RowL H xs R) : RowL H' xs R := by
  induction h with
  | nil => exact .nil
  | cons h1 h2 _ ih => exact .cons (e _ _ h1) (e _ _ h2) ih
theorem RowL.keep {H H' : Hp} (e : Same H H') {xs : List V} {R : List (Ast × Int)} (h : RowL H xs R) : RowL H' xs R := h.keepT fun _ _ => e _ _
theorem RowL.len {H : Hp} {xs : List V} {R : List (Ast × Int)} (h : RowL H xs R) : xs.length = R.length := by
  induction h with
  | nil => rfl
  | cons _ _ _ ih => exact congrArg Nat.succ ih
theorem RowL.append {H : Hp} {xs ys : List V} {R S : List (Ast × Int)} (h : RowL H xs R) (k : RowL H ys S) : RowL H (xs ++ ys) (R ++ S) := by
  induction h with
  | nil => exact k
  | cons h1 h2 _ ih => exact .cons h1 h2 ih
theorem RowL.get {H : Hp} {xs : List V} {R : List (Ast × Int)} (h : RowL H xs R) : ∀ {i : Nat} {x : V}, xs[i]? = some x → ∃ z kq p q, x = V.ref z ∧ R[i]? = some (p, q) ∧ H z = some (.tup [.ref kq, .int q]) ∧ H kq = some (.tup [.str p.1, .int p.2]) := by
  induction h with
  | nil => intro i x e; cases e
  | @cons z kq xs p q R h1 h2 _ ih =>
    intro i x e
    cases i with
    | zero => cases e; exact ⟨z, kq, p, q, rfl, rfl, h1, h2⟩
    | succ i => exact ih e
def encR (e : Ast × Int) : PyData := .tuple [.tuple [.str e.1.1, .int e.1.2], .int e.2]
theorem RowL.dp {K : PySem.W.Frag} {H : Hp} {xs : List V} {R : List (Ast × Int)} (h : RowL H xs R) : DpAll K H xs (R.map encR) := by
  induction h with
  | nil => exact .nil
  | cons h1 h2 _ ih => exact .cons (.tup (SqT.of h1) (.cons (.tup (SqT.of h2) (.cons (.str _) (.cons (.int _) .nil))) (.cons (.int _) .nil))) ih
theorem RowL.zs {H : Hp} : ∀ {zs : List (Addr × (Ast × V))} {R : List (Ast × Int)}, zs.map (·.2) = R.map (fun e => (e.1, V.int e.2)) →
    (∀ z ∈ zs, ∃ kq, H z.1 = some (.tup [.ref kq, z.2.2]) ∧ H kq = some (.tup [.str z.2.1.1, .int z.2.1.2])) → RowL H (zs.map fun z => V.ref z.1) R
  | [], [], _, _ => .nil
  | [], _ :: _, e, _ => by cases e
  | _ :: _, [], e, _ => by cases e
  | z :: zs, e :: R, h, k => by
    rw [List.map_cons, List.map_cons] at h
    have h1 := (List.cons.inj h).1
    obtain ⟨kq, a, b⟩ := k z (List.mem_cons_self ..)
    rw [h1] at a b
    exact .cons a b (RowL.zs (List.cons.inj h).2 fun y hy => k y (List.mem_cons_of_mem _ hy))
/-- the bundle at b has the rows N -/
def BdAt (K : PySem.W.Frag) (H : Hp) (b : Addr) (N : List (Ast × Int)) : Prop := ∃ dx r d xs, H b = some (.ins (He.ga K "Bundle") dx [("_quantities", .ref d), ("rows", .ref r)]) ∧ H r = some (.tup xs) ∧ RowL H xs N ∧ H d = some (.dT (eD (N.map fun e => (e.1, V.int e.2)))) ∧ Nrm N
theorem BdAt.nrm {K : PySem.W.Frag} {H : Hp} {b : Addr} {N : List (Ast × Int)} (h : BdAt K H b N) : Nrm N := by
  obtain ⟨_, _, _, _, _, _, _, _, h⟩ := h
  exact h
theorem Nrm.neg {N : List (Ast × Int)} (h : Nrm N) : Nrm (N.map fun e => (e.1, -e.2)) := by
  refine ⟨List.pairwise_map.mpr h.srt, ?_, ?_⟩
  · rw [List.map_map]; exact h.nd
  · intro e he
    obtain ⟨f, hf, rfl⟩ := List.mem_map.mp he
    have := h.nz f hf
    show -f.2 ≠ 0
    omega
theorem BdAt.keep {K : PySem.W.Frag} {H H' : Hp} {b : Addr} {N : List (Ast × Int)} (e : Same H H') (h : BdAt K H b N) : BdAt K H' b N := by
  obtain ⟨dx, r, d, xs, h1, h2, h3, h4, h5⟩ := h
  exact ⟨dx, r, d, xs, e _ _ h1, e _ _ h2, h3.keep e, e _ _ h4, h5⟩
/-- what is told of the class -/
structure BFacts (K : PySem.W.Frag) (mg : Str → Option Value) : Prop where
  m : mg "Bundle" = some (.ref (He.ga K "Bundle"))
  cls : Cls K (He.ga K "Bundle")
  n1 : NoAttr K (He.ga K "Bundle") "rows"
  n2 : NoAttr K (He.ga K "Bundle") "_quantities"
  mkr : Mk K (He.ga K "Bundle") (He.fAd K ("Bundle", some "__init__"))
  first : PySem.W.selfFirst K (He.ga K "Bundle") = true
  at_Bundle___add : PySem.W.findIn K (.ref (He.ga K "Bundle")) "__add__" = some (some (.ref (He.fAd K ("Bundle", some "__add__"))))
  fn_Bundle___add : PySem.W.isFn K (.ref (He.fAd K ("Bundle", some "__add__"))) = true
  at_Bundle___sub : PySem.W.findIn K (.ref (He.ga K "Bundle")) "__sub__" = some (some (.ref (He.fAd K ("Bundle", some "__sub__"))))
  fn_Bundle___sub : PySem.W.isFn K (.ref (He.fAd K ("Bundle", some "__sub__"))) = true
  at_Bundle___neg : PySem.W.findIn K (.ref (He.ga K "Bundle")) "__neg__" = some (some (.ref (He.fAd K ("Bundle", some "__neg__"))))
  fn_Bundle___neg : PySem.W.isFn K (.ref (He.fAd K ("Bundle", some "__neg__"))) = true
end Bd
namespace Rb
open PySem PySem.Spec PyProof.Rows L2 Bd
section
variable {K : PySem.W.Frag} {σ : L2.St} {H : Hp} {n b c : L2.St → Hp → Prop} {r : VK} {Q : VK} {td ty tv tx ta te : TE}
theorem dnewT (k : ∀ p, H p = none → Q (.ref p) (upd H p (.dT []))) : tDNewT σ H Q := k
theorem dget2 (k : td σ H fun x H1 => ∃ a, x = .ref a ∧ IsD H1 a ∧ ty σ H1 fun y H2 => tx σ H2 fun z H3 => ∃ o, DGet H3 a y o ∧ Q (o.getD z) H3) : tDGet2 td ty tx σ H Q := k
theorem dget (k : td σ H fun x H1 => ty σ H1 fun y H2 => ∃ a v, x = .ref a ∧ DGet H2 a y (some v) ∧ Q v H2) : tDGet td ty σ H Q := k
theorem isD {a : Addr} {kvs : List (List Key × V)} {P : Addr → Prop} (h : H a = some (.dT kvs)) (k : P a) : ∃ a', V.ref a = .ref a' ∧ IsD H a' ∧ P a' := ⟨a, rfl, .inr ⟨kvs, .inl h⟩, k⟩
theorem dgetO {a z : Addr} {m : List (Ast × V)} {p : Ast} {P : Option V → Prop} (h : H a = some (.dT (eD m))) (hz : H z = some (.tup [.str p.1, .int p.2])) (k : P (valV m p)) : ∃ o, DGet H a (.ref z) o ∧ P o :=
  ⟨_, DGet.t (k := eK p) h hz, by rw [valV_eD]; exact k⟩
theorem dgetS {a z : Addr} {m : List (Ast × V)} {p : Ast} {v : V} {P : V → Prop} (h : H a = some (.dT (eD m))) (hz : H z = some (.tup [.str p.1, .int p.2])) (e : valV m p = some v) (k : P v) : ∃ a' v', V.ref a = .ref a' ∧ DGet H a' (.ref z) (some v') ∧ P v' :=
  ⟨a, v, rfl, by rw [← e, ← valV_eD]; exact DGet.t (k := eK p) h hz, k⟩
theorem dput (k : tv σ H fun v H1 => td σ H1 fun x H2 => ty σ H2 fun y H3 => ∃ a H4, x = .ref a ∧ DPut H3 a y v H4 ∧ n σ H4) : sDPut td ty tv ⟨n, r, b, c⟩ σ H := k
theorem dputT {a z : Addr} {m : List (Ast × V)} {p : Ast} {v : V} {P : Hp → Prop} (h : H a = some (.dT (eD m))) (hz : H z = some (.tup [.str p.1, .int p.2])) (hl : m.length < 100000) (k : P (upd H a (.dT (eD (putK m p v))))) : ∃ a' H4, V.ref a = .ref a' ∧ DPut H a' (.ref z) v H4 ∧ P H4 :=
  ⟨a, _, rfl, DPut.t (k := eK p) h hz (Rd.smallT (by unfold eD; rw [List.length_map]; exact hl)), by rw [putK_eD]; exact k⟩
theorem pair2 {z : Addr} {x y : V} {i j : Nat} {Qd : L2.St → Hp → Prop} (h : SqT K H z [x, y]) (k : Qd ((σ.set i (some x)).set j (some y)) H) : gTup K 2 (gCons (gName i) (gCons (gName j) gNil)) (.ref z) σ H Qd :=
  ⟨z, _, rfl, h, rfl, x, [y], rfl, y, [], rfl, rfl, k⟩
/-- for .. in a list or a tuple, by its name -/
theorem forLt {i₀ : Nat} {H0 : Hp} {a : Addr} {xs : List V} {g : TG} {tb : TS} (Pv : Nat → L2.St → Hp → Prop) (hv : σ[i₀]? = some (some (.ref a))) (h : SqL K H0 a xs ∨ SqT K H0 a xs) (e0 : Same H0 H) (h0 : Pv 0 σ H)
    (hl : ∀ i σ H', i ≤ xs.length → Pv i σ H' → Same H0 H') (hs : ∀ (i : Nat) (x : V) (σ' : L2.St) (H' : Hp), xs[i]? = some x → Pv i σ' H' → g x σ' H' fun σ2 H2 => tb ⟨Pv (i + 1), r, n, Pv (i + 1)⟩ σ2 H2)
    (hd : ∀ σ' H', Pv xs.length σ' H' → n σ' H') : tFor (iLt K (tVar i₀)) g tb ⟨n, r, b, c⟩ σ H := by
  rcases h with h | h
  · exact .inl ⟨.ref a, hv, a, rfl, ⟨_, e0.seq h⟩, for_list Pv h0 (fun i σ' H' hi p => (hl i σ' H' hi p).seq h) hs hd⟩
  · exact .inr ⟨.ref a, hv, a, rfl, ⟨_, Rd.same_tup e0 h⟩, for_tup Pv h0 (fun i σ' H' hi p => Rd.same_tup (hl i σ' H' hi p) h) hs hd⟩
theorem fld {f : Str} (k : ta σ H fun x H1 => ∃ a C dx fs v, x = .ref a ∧ H1 a = some (.ins C dx fs) ∧ Cls K C ∧ NoAttr K C f ∧ fs.lookup f = some v ∧ Q v H1) : tFld K ta f σ H Q := k
theorem sfld {f : Str} (k : tv σ H fun y H1 => ta σ H1 fun x H2 => ∃ a C dx fs, x = .ref a ∧ H2 a = some (.ins C dx fs) ∧ Cls K C ∧ NoAttr K C f ∧ fs.length < 1000 ∧ n σ (upd H2 a (.ins C dx (putF f y fs)))) : sFld K ta tv f ⟨n, r, b, c⟩ σ H := k
theorem dcT {wi : TI} {g : TG} {tt : TT} {tk : TE} {vs : List Nat} (k : wi σ H fun J H1 => DcJ g tt tk tv vs σ Q J H1) : tDcT wi g tt tk tv vs σ H Q := k
/-- a dict comprehension over a list with a test -/
theorem dcL {a : Addr} {xs : List V} {g : TG} {tt : TT} {tk : TE} {vs : List Nat} {H1 : Hp} (Pv : Addr → Nat → Hp → Prop) (h : SqL K H1 a xs) (h0 : ∀ D, H1 D = none → Pv D 0 (upd H1 D (.dT [])))
    (hl : ∀ D i H, i ≤ xs.length → Pv D i H → SqL K H a xs)
    (hs : ∀ D i x H, H1 D = none → xs[i]? = some x → Pv D i H → g x (wipe σ vs) H fun σ2 H2 => wipe σ2 vs = wipe σ vs ∧ tt σ2 H2 fun t H3 =>
      if t = true then tk σ2 H3 fun y H4 => tv σ2 H4 fun z H5 => ∃ kvs k b, y = .ref b ∧ H5 b = some (.tup (k.map kV)) ∧ H5 D = some (.dT kvs) ∧ kvs.length < sizeLine ∧ Pv D (i + 1) (upd H5 D (.dT (putK kvs k z))) else Pv D (i + 1) H3)
    (hd : ∀ D H, H1 D = none → Pv D xs.length H → Q (.ref D) H) : ∃ p, V.ref a = .ref p ∧ (∃ ys, SqL K H1 p ys) ∧ DcJ g tt tk tv vs σ Q (Itl K p) H1 := by
  refine ⟨a, rfl, ⟨_, h⟩, fun D hD => ⟨fun i m H => m = xs.length - i ∧ i ≤ xs.length ∧ Pv D i H, ⟨xs.length, by simp, Nat.zero_le _, h0 D hD⟩, ?_⟩⟩
  rintro i m H ⟨rfl, hi, p⟩
  have q := hl D i H hi p
  by_cases hlt : i < xs.length
  · refine .inr ⟨⟨xs, xs[i], q, by simp [hlt]⟩, Pv D (i + 1), fun H' p' => ⟨xs.length - (i + 1), by omega, rfl, hlt, p'⟩, fun x H' y => ?_⟩
    obtain ⟨e, y⟩ := y
    subst e
    exact hs D i x _ hD (y xs q) p
  · have e : i = xs.length := by omega
    subst e
    exact .inl ⟨⟨xs, q, Nat.le_refl _⟩, hd D H hD p⟩
end
end Rb
namespace Bd
open PySem PySem.Spec PyProof.Rows L2
theorem nfOf_yes {R : List (Ast × Int)} {S : List Ast} {p : Ast} (h : tot R p ≠ 0) : nfOf R (S ++ [p]) = nfOf R S ++ [(p, tot R p)] := by
  unfold nfOf
  have e : List.filter (fun p => decide (tot R p ≠ 0)) [p] = [p] := by simp [h]
  rw [List.filter_append, List.map_append, e]
  rfl
theorem nfOf_no {R : List (Ast × Int)} {S : List Ast} {p : Ast} (h : tot R p = 0) : nfOf R (S ++ [p]) = nfOf R S := by
  unfold nfOf
  have e : List.filter (fun p => decide (tot R p ≠ 0)) [p] = [] := by simp [h]
  rw [List.filter_append, List.map_append, e]
  simp
theorem nfOf_mem {R : List (Ast × Int)} {S : List Ast} {p : Ast} (h : p ∈ (nfOf R S).map (·.1)) : p ∈ S := by
  obtain ⟨e, he, rfl⟩ := List.mem_map.mp h
  obtain ⟨q, hq, rfl⟩ := List.mem_map.mp he
  exact (List.mem_filter.mp hq).1
theorem nfOf_len (R : List (Ast × Int)) (S : List Ast) : (nfOf R S).length ≤ S.length := by
  unfold nfOf; rw [List.length_map]; exact List.length_filter_le _ _
/-- the next asset in order is put behind -/
theorem put_nf {R : List (Ast × Int)} {S : List Ast} {p : Ast} (h : tot R p ≠ 0) (hp : p ∉ S) : putK ((nfOf R S).map fun e => (e.1, V.int e.2)) p (.int (tot R p)) = (nfOf R (S ++ [p])).map fun e => (e.1, V.int e.2) := by
  rw [putK_new, nfOf_yes h, List.map_append]
  · rfl
  · cases q : valV ((nfOf R S).map fun e => (e.1, V.int e.2)) p with
    | none => rfl
    | some v =>
      have : p ∈ ((nfOf R S).map fun e => (e.1, V.int e.2)).map (·.1) := valV_key.mp (by rw [q]; rfl)
      rw [List.map_map] at this
      exact absurd (nfOf_mem this) hp
end Bd
namespace Rb
open PySem PySem.Spec PyProof.Rows L2 Bd
section
variable {K : PySem.W.Frag} {σ : L2.St} {H : Hp} {Q : VK} {E : XK}
theorem make {C : Addr} {sp : Sp} {dvs : List V} {t : TA} (k : t σ H fun vs H1 => ∀ x dx, H1 x = none → H1 dx = none → dx ≠ x → sp (.ref x :: (vs ++ dvs)) (upd (upd H1 dx (.own x)) x (.ins C dx [])) (fun v H2 => v = .non ∧ Q (.ref x) H2) E) : tMake C sp dvs E t σ H Q := k
theorem catA {a b : Addr} {xs ys : List V} (ha : SqT K H a xs) (hb : SqT K H b ys) (hl : xs.length + ys.length ≤ 100000) (k : ∀ p H', Same H H' → SqT K H' p (xs ++ ys) → Q (.ref p) H') : rCatA K (.ref a) (.ref b) H Q :=
  ⟨a, b, xs, ys, rfl, rfl, ha, hb, Rd.small hl, fun e => k b H (Same.refl H) (by rw [e]; exact hb), fun _ e => k a H (Same.refl H) (by rw [e, List.append_nil]; exact ha), fun _ _ p hp => k p _ (Rd.same_new hp) Rd.slT⟩
theorem own2 {C a b : Addr} {sp : Sp} (ha : ∃ dx fs, H a = some (.ins C dx fs)) (hb : ∃ dx fs, H b = some (.ins C dx fs)) (k : sp [.ref a, .ref b] H Q E) : rOwn2 C sp E (.ref a) (.ref b) H Q := by
  obtain ⟨dx, fs, ha⟩ := ha
  obtain ⟨dy, gs, hb⟩ := hb
  exact ⟨a, b, dx, dy, fs, gs, rfl, rfl, ha, hb, k⟩
theorem own1 {C a : Addr} {sp : Sp} (ha : ∃ dx fs, H a = some (.ins C dx fs)) (k : sp [.ref a] H Q E) : rOwn1 C sp E (.ref a) H Q := by
  obtain ⟨dx, fs, ha⟩ := ha
  exact ⟨a, dx, fs, rfl, ha, k⟩
theorem insOf {b : Addr} {N : List (Ast × Int)} (h : BdAt K H b N) : ∃ dx fs, H b = some (.ins (He.ga K "Bundle") dx fs) := by
  obtain ⟨dx, r, d, xs, h1, _⟩ := h
  exact ⟨dx, _, h1⟩
/-- b.rows where b's value is already there -/
theorem rowsP {P : V → Prop} {mg : Str → Option Value} {b : Addr} {N : List (Ast × Int)} (Bf : BFacts K mg) (h : BdAt K H b N) (k : ∀ r xs, H r = some (.tup xs) → RowL H xs N → P (.ref r)) :
    ∃ a C dx fs v, V.ref b = .ref a ∧ H a = some (.ins C dx fs) ∧ Cls K C ∧ NoAttr K C ("rows" : Str) ∧ fs.lookup ("rows" : Str) = some v ∧ P v := by
  obtain ⟨dx, r, d, xs, h1, h2, h3, h4, _⟩ := h
  exact ⟨b, _, dx, _, .ref r, rfl, h1, Bf.cls, Bf.n1, rfl, k r xs h2 h3⟩
end
end Rb
namespace Rb
open PySem PySem.Spec PyProof.Rows L2 Bd
section
variable {K : PySem.W.Frag} {σ : L2.St} {H : Hp} {Q : VK}
/-- [.. for target in a tuple] without a test -/
theorem lcT {a : Addr} {xs : List V} {g : TG} {te : TE} {vs : List Nat} (Pv : Addr → Nat → List V → Hp → Prop) (h : SqT K H a xs) (h0 : ∀ D H', H D = none → Same H H' → H' D = some (.lst []) → Pv D 0 [] H')
    (hs : ∀ (i : Nat) (x : V) (acc : List V) (D : Addr) (H' : Hp), H D = none → Same H H' → xs[i]? = some x → acc.length = i → H' D = some (.lst acc) → Pv D i acc H' → g x (wipe σ vs) H' fun σ2 H2 => wipe σ2 vs = wipe σ vs ∧ te σ2 H2 (Rd.LcE H D i Pv))
    (hd : ∀ D acc H', H D = none → Same H H' → H' D = some (.lst acc) → acc.length = xs.length → Pv D xs.length acc H' → Q (.ref D) H') :
    ∃ p, V.ref a = .ref p ∧ (∃ ys, SqT K H p ys) ∧ Rd.LcJ g tYes te vs σ Q (Itt K p) H := by
  refine ⟨a, rfl, ⟨_, h⟩, fun D hD => ?_⟩
  refine lc_tup (xs := xs) (fun i H' => ∃ acc, Same H H' ∧ acc.length = i ∧ H' D = some (.lst acc) ∧ Pv D i acc H') ⟨[], Rd.same_new hD, rfl, upd_same, h0 D _ hD (Rd.same_new hD) upd_same⟩ (fun i H' _ ⟨acc, s, _⟩ => Rd.same_tup s h) ?_ ?_
  · rintro i x H' hi ⟨acc, s, e, hD', p⟩
    exact hs i x acc D H' hD s hi e hD' p
  · rintro H' ⟨acc, s, e, hD', p⟩
    exact hd D acc H' hD s hD' e p
theorem lcL2 {a : Addr} {xs : List V} {g : TG} {te : TE} {vs : List Nat} (Pv : Addr → Nat → List V → Hp → Prop) (h : SqL K H a xs) (h0 : ∀ D H', H D = none → Same H H' → H' D = some (.lst []) → Pv D 0 [] H')
    (hs : ∀ (i : Nat) (x : V) (acc : List V) (D : Addr) (H' : Hp), H D = none → Same H H' → xs[i]? = some x → acc.length = i → H' D = some (.lst acc) → Pv D i acc H' → g x (wipe σ vs) H' fun σ2 H2 => wipe σ2 vs = wipe σ vs ∧ te σ2 H2 (Rd.LcE H D i Pv))
    (hd : ∀ D acc H', H D = none → Same H H' → H' D = some (.lst acc) → acc.length = xs.length → Pv D xs.length acc H' → Q (.ref D) H') :
    ∃ p, V.ref a = .ref p ∧ (∃ ys, SqL K H p ys) ∧ Rd.LcJ g tYes te vs σ Q (Itl K p) H := by
  refine ⟨a, rfl, ⟨_, h⟩, fun D hD => ?_⟩
  refine lc_list (xs := xs) (fun i H' => ∃ acc, Same H H' ∧ acc.length = i ∧ H' D = some (.lst acc) ∧ Pv D i acc H') ⟨[], Rd.same_new hD, rfl, upd_same, h0 D _ hD (Rd.same_new hD) upd_same⟩ (fun i H' _ ⟨acc, s, _⟩ => s.seq h) ?_ ?_
  · rintro i x H' hi ⟨acc, s, e, hD', p⟩
    exact hs i x acc D H' hD s hi e hD' p
  · rintro H' ⟨acc, s, e, hD', p⟩
    exact hd D acc H' hD s hD' e p
end
end Rb
namespace Bd
open PySem PySem.Spec PyProof.Rows L2
section
variable {X : Cx}
/-- sorted(xs), xs a list of assets -/
def rSortedSI (K : PySem.W.Frag) : List V → Hp → VK → Prop := fun xs H Q => ∃ (a : Addr) (ps0 : List (Addr × (Str × Int))), xs = [.ref a] ∧ SqL K H a (ps0.map fun z => V.ref z.1) ∧ AsAt H ps0 ∧
  ∀ (ps : List (Addr × (Str × Int))) (p : Addr), ps.Perm ps0 → SrtO.Srtd ltSI (ps.map (·.2)) → H p = none → Q (.ref p) (upd H p (.lst (ps.map fun z => V.ref z.1)))
theorem cr_sortedSI : CallR X (.builtin "sorted") (rSortedSI X.K) := by
  intro pins s σ H xs us Q I r q
  obtain ⟨a, ps0, rfl, hs, hA, q⟩ := q
  obtain ⟨its, rv, hl, hz⟩ := I.list hs
  obtain ⟨u, rfl, ru⟩ := vals1 r
  obtain rfl : u = Value.ref a := ru
  have eb : its = ps0.map fun z => Value.ref z.1 := by
    have h1 : ∀ {ps : List (Addr × (Str × Int))} {us : List Value}, Vals (ps.map fun z => V.ref z.1) us → us = ps.map fun z => Value.ref z.1 := by
      intro ps
      induction ps with
      | nil => intro us h; cases h; rfl
      | cons z ps ih =>
        intro us h
        rw [List.map_cons] at h
        cases h with
        | cons h t => rw [ih t, List.map_cons, show _ = Value.ref z.1 from h]
    exact h1 rv
  have hsi : ∀ v ∈ its, IsSI s.heap v (siOf s.heap v) := fun v hv => by
    rw [eb] at hv
    obtain ⟨zz, hz, rfl⟩ := List.mem_map.mp hv
    have q := isSI_of I.hok (hA zz hz)
    rw [q.of]; exact q
  refine SrtO.sorted_ord (ltv := fun v u => ltSI (siOf s.heap v) (siOf s.heap u)) (swo_SI (siOf s.heap)) hl.isList (by rw [← rv.length]; exact hz) (fun h2 h₁ a' ha' kk => ?_) fun out h1 h2 => ?_
  · refine si_sortable (s := { s with heap := h₁ }) (by omega) (fun v hm => (hsi v hm).keeps fun b o e _ => (kk b o e).2) fun o e => ?_
    have e' : some o = some (seqObj "list" its.toArray 0) := e.symm.trans ha'
    cases e'
    intro c
    exact absurd (Value.type.inj c) (by decide)
  · obtain ⟨ps, b1, b2⟩ := perm_lift (fun z : Addr × (Str × Int) => Value.ref z.1) h2.perm ps0 eb.symm
    have hk2 : ∀ z ∈ ps, siOf s.heap (Value.ref z.1) = z.2 := fun z hz => (isSI_of I.hok (hA z (b1.mem_iff.mp hz))).of
    have hsr : SrtO.Srtd ltSI (ps.map (·.2)) := by
      rw [← b2] at h1
      have h1' := List.pairwise_map.mp h1
      refine List.pairwise_map.mpr (h1'.imp_of_mem fun {x y} hx hy hh => ?_)
      have hh' : ltSI (siOf s.heap (Value.ref y.1)) (siOf s.heap (Value.ref x.1)) = false := hh
      rw [hk2 x hx, hk2 y hy] at hh'
      exact hh'
    have hd : s.heap.objs.size ≤ s.heap.objs.size + 1 := Nat.le_succ _
    obtain ⟨n, hn⟩ := sortedAll_at s.heap its out.toArray
    refine ⟨.ref (s.heap.objs.size + 1), upd H (s.heap.objs.size + 1) (.lst (ps.map fun z => V.ref z.1)), I.laid (t' := s.toks) (fun b o e => sortedAll_old e) hd ⟨?_, out, n, ?_, hn⟩, rfl, q ps _ b1 hsr (I.hok.fresh hd)⟩
    · rw [List.length_map] at hz ⊢; rw [b1.length_eq]; exact hz
    · rw [← b2]
      have := vals_refs (ps.map (·.1))
      rw [List.map_map, List.map_map] at this
      exact this
end
end Bd
namespace Rb
open PySem PySem.Spec PyProof.Rows L2 Bd
section
variable {X : Cx} {K : PySem.W.Frag}
theorem ix_listK (h : X.K = K) : IxR X (rIxL K) := h ▸ ix_list
theorem ix_tupK (h : X.K = K) : IxR X (rIxT K) := h ▸ ix_tup
theorem op_eqDK (h : X.K = K) (hu : X.A.units + 64 < cLine) : OpR X (compareOp .Eq) (rEqD K) := h ▸ op_eqD hu
end
end Rb
namespace Rb
theorem units65 {k : Nat} {A : PySem.Around} (hr : L2.Room k A) : A.units + 65 < PySem.cLine := by have := hr.un; omega
end Rb
namespace Bd
open PySem PySem.Spec PyProof.Rows L2
theorem encR_eqv (e : Ast × Int) : PyData.eqv (encR e) (encR e) = true := by simp [encR, PyData.eqv, PyData.eqvAll]
theorem encR_eqvAll : ∀ N : List (Ast × Int), PyData.eqvAll (N.map encR) (N.map encR) = true
  | [] => by simp [PyData.eqvAll]
  | e :: N => by simp [PyData.eqvAll, encR_eqv e, encR_eqvAll N]
def OkA (p : Ast) : Prop := PyData.strOk p.1 = true
def OkR (R : List (Ast × Int)) : Prop := ∀ e ∈ R, OkA e.1
theorem strOk_S {l : List Nat} (h : ∀ c ∈ l, c < 1114112) : PyData.strOk (Rd.S l) = true := by
  unfold PyData.strOk Rd.S
  simpa using h
theorem strOk_app {x y : Str} (h1 : PyData.strOk x = true) (h2 : PyData.strOk y = true) : PyData.strOk (x ++ y) = true := by
  rw [Rd.S_of x] at h1 ⊢
  rw [Rd.S_of y] at h2 ⊢
  rw [Rd.S_app]
  unfold PyData.strOk Rd.S at *
  simp only [List.all_toArray, List.all_append, Bool.and_eq_true] at *
  exact ⟨h1, h2⟩
theorem OkR.of_tot {R N : List (Ast × Int)} (h : OkR R) (hn : Nrm N) (ht : ∀ p, tot N p = tot R p) : OkR N := fun e he => by
  have h1 : e.1 ∈ R.map (·.1) := by
    rcases Classical.em (e.1 ∈ R.map (·.1)) with z | z
    · exact z
    · have := tot_at hn.nd he
      rw [ht, tot_none z] at this
      exact absurd this.symm (hn.nz e he)
  obtain ⟨f, hf, ef⟩ := List.mem_map.mp h1
  rw [← ef]; exact h f hf
theorem encR_lay : ∀ N : List (Ast × Int), OkR N → PyData.canLayAll0 (N.map encR) = true
  | [], _ => by simp [PyData.canLayAll0]
  | e :: N, h => by
    have h1 : PyData.strOk e.1.1 = true := h e (List.mem_cons_self ..)
    simp [PyData.canLayAll0, PyData.canLay0, encR, encR_lay N fun x hx => h x (List.mem_cons_of_mem _ hx), h1]
theorem encR_depth : ∀ N : List (Ast × Int), PyData.depthAll (N.map encR) ≤ 2
  | [] => by simp [PyData.depthAll]
  | e :: N => by
    have := encR_depth N
    simp only [List.map_cons, PyData.depthAll]
    refine Nat.max_le.mpr ⟨?_, this⟩
    simp [encR, PyData.depth, PyData.depthAll]
theorem encR_shaped {N : List (Ast × Int)} (h : OkR N) : SeqAt.shaped (.tuple (N.map encR)) = true := by
  have := encR_depth N
  unfold SeqAt.shaped
  simp only [PyData.canLay0, encR_lay N h, PyData.depth, Bool.true_and]
  exact decide_eq_true (by omega)
def encA (p : Ast) : PyData := .tuple [.str p.1, .int p.2]
theorem encA_eqv (p q : Ast) : PyData.eqv (encA p) (encA q) = decide (p = q) := by
  have : (p = q) ↔ (p.1 = q.1 ∧ p.2 = q.2) := ⟨fun h => by rw [h]; exact ⟨rfl, rfl⟩, fun h => Prod.ext h.1 h.2⟩
  simp only [encA, PyData.eqv, PyData.eqvAll, Bool.and_true]
  rw [Bool.eq_iff_iff]
  simp [this]
theorem encA_shaped {p : Ast} (h : OkA p) : SeqAt.shaped (encA p) = true := by
  have h' : PyData.strOk p.1 = true := h
  unfold SeqAt.shaped
  simp [encA, PyData.canLay0, PyData.canLayAll0, PyData.depth, PyData.depthAll, h']
theorem encA_lay : ∀ N : List Ast, (∀ p ∈ N, OkA p) → PyData.canLayAll0 (N.map encA) = true
  | [], _ => by simp [PyData.canLayAll0]
  | e :: N, h => by
    have h1 : PyData.strOk e.1 = true := h e (List.mem_cons_self ..)
    simp [PyData.canLayAll0, PyData.canLay0, encA, encA_lay N fun x hx => h x (List.mem_cons_of_mem _ hx), h1]
theorem encA_depth : ∀ N : List Ast, PyData.depthAll (N.map encA) ≤ 1
  | [] => by simp [PyData.depthAll]
  | e :: N => by
    have := encA_depth N
    simp only [List.map_cons, PyData.depthAll]
    refine Nat.max_le.mpr ⟨?_, this⟩
    simp [encA, PyData.depth, PyData.depthAll]
theorem encAs_shaped {N : List Ast} (h : ∀ p ∈ N, OkA p) : SeqAt.shaped (.list (N.map encA)) = true := by
  have := encA_depth N
  unfold SeqAt.shaped
  simp only [PyData.canLay0, encA_lay N h, PyData.depth, Bool.true_and]
  exact decide_eq_true (by omega)
theorem encA_any (N : List Ast) (p : Ast) : ((N.map encA).any fun z => PyData.eqv z (encA p)) = decide (p ∈ N) := by
  induction N with
  | nil => rfl
  | cons e N ih =>
    rw [List.map_cons, List.any_cons, ih, encA_eqv]
    by_cases h : e = p
    · subst h
      rw [decide_eq_true rfl, Bool.true_or]
      exact (decide_eq_true (List.mem_cons_self ..)).symm
    · rw [decide_eq_false h, Bool.false_or]
      by_cases y : p ∈ N
      · rw [decide_eq_true y, decide_eq_true (List.mem_cons_of_mem _ y)]
      · rw [decide_eq_false y, decide_eq_false fun z => (List.mem_cons.mp z).elim (fun q => h q.symm) y]
theorem asAt_dp {K : PySem.W.Frag} {H : Hp} : ∀ {ps : List (Addr × Ast)}, AsAt H ps → DpAll K H (ps.map fun z => V.ref z.1) ((ps.map (·.2)).map encA)
  | [], _ => .nil
  | z :: ps, h => .cons (.tup (SqT.of (h z (List.mem_cons_self ..))) (.cons (.str _) (.cons (.int _) .nil))) (asAt_dp fun y hy => h y (List.mem_cons_of_mem _ hy))
end Bd
namespace Bd
open PySem PySem.Spec PyProof.Rows L2
theorem tot_take {R : List (Ast × Int)} {i : Nat} {p' : Ast} {q : Int} (h : R[i]? = some (p', q)) (p : Ast) : tot (R.take (i + 1)) p = tot (R.take i) p + (if p' = p then q else 0) := by
  rw [List.take_add_one, h, tot_append]
  simp [tot]
end Bd
namespace Rb
open PySem PySem.Spec PyProof.Rows L2 Bd
section
variable {K : PySem.W.Frag} {σ : L2.St} {H : Hp} {Q : VK}
/-- [q for row in rows if row[0] == asset]: the quantities of one asset -/
theorem lcTest {a : Addr} {xs : List V} {g : TG} {tt : TT} {te : TE} {vs : List Nat} (Pv : Nat → List Int → Prop) (h : SqL K H a xs) (hz : xs.length ≤ 100000) (h0 : Pv 0 [])
    (hs : ∀ (i : Nat) (x : V) (qs : List Int) (D : Addr) (H' : Hp) (R : Hp → Prop), H D = none → Same H H' → xs[i]? = some x → qs.length ≤ i → H' D = some (.lst (qs.map V.int)) → Pv i qs → (∀ q, Pv (i + 1) (qs ++ [q]) → R (upd H' D (.lst (qs.map V.int ++ [.int q])))) → (Pv (i + 1) qs → R H') →
      g x (wipe σ vs) H' fun σ2 H2 => wipe σ2 vs = wipe σ vs ∧ tt σ2 H2 fun b H3 => if b = true then te σ2 H3 fun y H4 => ∃ acc, H4 D = some (.lst acc) ∧ acc.length < sizeLine ∧ R (upd H4 D (.lst (acc ++ [y]))) else R H3)
    (hd : ∀ D qs H', H D = none → Same H H' → H' D = some (.lst (qs.map V.int)) → Pv xs.length qs → Q (.ref D) H') :
    ∃ p, V.ref a = .ref p ∧ (∃ ys, SqL K H p ys) ∧ Rd.LcJ g tt te vs σ Q (Itl K p) H := by
  refine ⟨a, rfl, ⟨_, h⟩, fun D hD => ?_⟩
  refine lc_list (xs := xs) (fun i H' => ∃ qs : List Int, Same H H' ∧ qs.length ≤ i ∧ H' D = some (.lst (qs.map V.int)) ∧ Pv i qs) ⟨[], Rd.same_new hD, Nat.le_refl _, upd_same, h0⟩ (fun i H' _ ⟨_, s, _⟩ => s.seq h) ?_ ?_
  · rintro i x H' hi ⟨qs, s, e, hD', p⟩
    refine hs i x qs D H' _ hD s hi e hD' p (fun q pq => ⟨qs ++ [q], Rd.same_mut s hD, by rw [List.length_append]; simp; omega, by rw [upd_same, List.map_append]; rfl, pq⟩) fun p' => ⟨qs, s, by omega, hD', p'⟩
  · rintro H' ⟨qs, s, e, hD', p⟩
    exact hd D qs H' hD s hD' p
end
end Rb
namespace Bd
open PySem PySem.Spec PyProof.Rows L2
theorem nd_len : ∀ {A B : List Ast}, A.Nodup → (∀ x ∈ A, x ∈ B) → A.length ≤ B.length
  | [], _, _, _ => Nat.zero_le _
  | a :: A, B, h, s => by
    rw [List.nodup_cons] at h
    have ha := s a (List.mem_cons_self ..)
    have h2 := nd_len (A := A) (B := B.erase a) h.2 fun x hx => (List.mem_erase_of_ne fun e => h.1 (by rw [← e]; exact hx)).mpr (s x (List.mem_cons_of_mem _ hx))
    have h3 := List.length_erase_of_mem ha
    have h4 : 0 < B.length := List.length_pos_of_mem ha
    rw [List.length_cons]
    omega
theorem Nrm.len {N R : List (Ast × Int)} (h : Nrm N) (ht : ∀ p, tot N p = tot R p) : N.length ≤ R.length := by
  have := nd_len h.nd (B := R.map (·.1)) fun x hx => by
    rcases Classical.em (x ∈ R.map (·.1)) with z | z
    · exact z
    · exact absurd (by rw [ht, tot_none z]) ((h.key x).mp hx)
  simpa using this
theorem OkR.append {R S : List (Ast × Int)} (h : OkR R) (k : OkR S) : OkR (R ++ S) := fun e he => (List.mem_append.mp he).elim (h e) (k e)
theorem OkR.neg {R : List (Ast × Int)} (h : OkR R) : OkR (R.map fun e => (e.1, -e.2)) := fun e he => by
  obtain ⟨f, hf, rfl⟩ := List.mem_map.mp he
  exact h f hf
end Bd

set_option Elab.async false
set_option linter.all false
set_option maxRecDepth 100000
set_option maxHeartbeats 4000000
/-! x != y by the object's own __ne__, which asks an own __eq__. -/
namespace Bd
open PySem PySem.W PySem.Calls PyProof.Rows
section
variable {prog : Program} {w : World} {A : Around} {E : Value → Shared → Prop} {s : Shared} {K : Frag} {x y C L f : Addr} {h₀ : Heap} {m : Str → Option Value} {ox oy : Obj} {od od' : Option Obj}
theorem ne_check {M : Model} {rest : List Value} {Q : Unit → Shared → Prop} (X : K.In s.heap) (I : InstAt s.heap x ox C od) (hso : subIn K (.ref C) (.type "object") = some true) (ha : argsOk "object.__ne__" ⟨.ref x :: rest, []⟩) (hq : Q () s) :
    wpAny M A (checkBuiltinCall "object.__ne__" ⟨.ref x :: rest, []⟩) Q E s := by
  simp only [checkBuiltinCall, PySem.F.cmpKind_ne, PySem.F.cmpSplit_ne]
  refine wpAny_bind ?_
  unfold isInstance
  refine wpAny_bind (I.type.here ?_)
  refine (looks_subIn X hso).here ?_
  cases hsig : Manifest.signature? "object.__ne__" with
  | none => 
    repeat (first | exact hq | wp_step)
  | some sig =>
    simp only [argsOk, hsig] at ha
    have h2 : Bind.checkArgs "object.__ne__" sig ⟨.ref x :: rest, []⟩ = pure () := ha
    simp only [if_true]
    rw [h2]
    repeat (first | exact hq | exact wpAny_pure hq | wp_step)
theorem ne_entry {Q : Fin → Shared → Prop} (X : K.In s.heap) (I : InstAt s.heap x ox C od) (hu : A.units < cLine) (hs : findIn K (.ref C) "__eq__" = some (some (.ref f))) (hf : isFn K (.ref f) = true)
    (hcall : wpAny (model prog w) A (call (.ref f) [.ref x, .ref y]) (fun v s' => ∃ b, v = .bool b ∧ Q (.done (.ret (.bool (!b)))) s') E s) :
    wpAny (model prog w) A (Builtin.«object.__ne__» ⟨[.ref x, .ref y], []⟩) Q E s := by
  unfold Builtin.«object.__ne__»
  repeat (first
    | with_reducible refine wpAny_cRoomFor hu ?_
    | (refine wpAny_bind (m := callSpecialIfBound? (.ref x) (Str.ofString "__eq__") [.ref y])
        (ifBound_K X I hs hf (wpAny_mono hcall (fun r s' hr => by
          obtain ⟨b, rfl, hq⟩ := hr
          repeat (first | exact hq | exact wpAny_pure hq | exact wpAny_truthy_bool hq | (refine wpAny_bind (m := truthy (.bool _)) (wpAny_truthy_bool ?_)) | wp_step)) fun _ _ e => e)))
    | wp_step)
theorem ne_K {Q : Value → Shared → Prop} (hu : A.units + 1 < cLine) (F : Fr h₀ L s.heap m) (X₀ : K.In h₀) (I : InstAt s.heap x ox C od) (J : InstAt s.heap y oy C od')
    (hne : findIn K (.ref C) "__ne__" = some (some (.builtin "object.__ne__"))) (hso : subIn K (.ref C) (.type "object") = some true)
    (hs : findIn K (.ref C) "__eq__" = some (some (.ref f))) (hf : isFn K (.ref f) = true)
    (h : wpAny (model prog w) A.in1 (call (.ref f) [.ref x, .ref y]) (fun v s' => ∃ b, v = .bool b ∧ Q (.bool (!b)) s') E s) :
    wpAny (model prog w) A (richCompare .NotEq (.ref x) (.ref y)) Q E s := by
  have X := X₀.keeps F.keep
  have bd : bindSpecial (.builtin "object.__ne__") (.ref x) = pure (.builtin "object.__ne__", [.ref x]) := PySem.F.cmp_object.ne.bind _
  have cl : wpAny (model prog w) A (call (.builtin "object.__ne__") [.ref x, .ref y]) (fun v s' => ∃ b, v = .bool b ∧ Q (.bool b) s') E s := by
    refine wpAny_call (codeAny_call_builtin PySem.F.cmp_object.ne.plain PySem.F.cmpEntry_ne (ne_check X I hso (PySem.F.cmpArgs_ne _ _) (ne_entry (A := A.in1) X I hu hs hf (wpAny_mono h (fun v s' hv => ?_) fun _ _ e => e))))
    obtain ⟨b, rfl, hq⟩ := hv
    exact ⟨b, rfl, _, rfl, hq⟩
  have one : wpAny (model prog w) A (tryCompare (.ref x) "__ne__" (.ref y)) (fun r s' => ∃ v, r = some v ∧ Q v s') E s := by
    unfold tryCompare
    refine wpAny_bind (Q := _) ?_
    simp only [callSpecialIfBound?, bindSpecialIfBound?]
    refine wpAny_holding (wpAny_bind (wpAny_bind (wpAny_bind (I.type.here ((looks_findIn X hne).here ?_)))))
    simp only [bd]
    refine wpAny_bind (wpAny_askSetting (wpAny_ite ?_))
    have fin : wpAny (model prog w) A (call (.builtin "object.__ne__") ([.ref x] ++ [.ref y]) >>= fun v => pure (some v)) (fun r s' => wpAny (model prog w) A (match r with | some .notImplemented | none => pure none | some r => pure (some r)) (fun r s' => ∃ v, r = some v ∧ Q v s') E s') E s :=
      wpAny_bind (wpAny_mono cl (fun v s' h' => by
        obtain ⟨b, rfl, hq⟩ := h'
        exact wpAny_pure (wpAny_pure ⟨_, rfl, hq⟩)) fun _ _ h' => h')
    split
    · exact wpAny_bind (wpAny_pure (wpAny_pure fin))
    · exact wpAny_tryCatch (wpAny_bind (wpAny_pure (wpAny_pure fin)))
  unfold richCompare
  simp only [oneThing_ref]
  refine wpAny_holding (wpAny_bind (wpAny_cRoomFor (Nat.lt_of_succ_lt hu) ?_))
  rw [cmpInfo_NotEq]
  dsimp only
  refine wpAny_bind (I.type.here (wpAny_bind (J.type.here ?_)))
  rw [show (Value.ref C != Value.ref C) = false from by simp]
  simp only [Bool.false_eq_true, if_false]
  refine wpAny_bind (wpAny_pure ?_)
  simp only [Bool.false_eq_true, if_false]
  refine wpAny_bind (wpAny_mono one (fun r s' z => ?_) fun _ _ e => e)
  obtain ⟨v, rfl, hq⟩ := z
  exact wpAny_pure hq
end
end Bd
namespace Bd
open PySem PySem.Spec PyProof.Rows L2
section
variable {X : Cx} {pins : List (Addr × Obj)} {σ : L2.St} {H : Hp} {s : Shared} {CT : CXT} {n : Nat} {C f : Addr} {fd : FuncData} {ps : List Str} {sp : Sp} {E : XK}
theorem call_def1 {vs : List V} {us : List Value} {Q : VK} (F : FnOk X.prog X.w X.K X.mg X.base CT n f fd ps sp) (hb : Binds X.K fd ps []) (hx : Passes CT X E) (hr : Room n X.A.in1) (I : Inv X pins σ H s) (r : Vals vs us) (hsp : sp vs H Q E) :
    wpAny (model X.prog X.w) X.A.in1 (call (.ref f) us) (EP X pins σ Q) X.xe s := by
  have hl := F.len _ _ _ _ hsp
  have hu : us.length = ps.length := by rw [← r.length]; exact hl
  refine wpAny_call (codeAny_mono (F.run X.A.in1 X.stack s H ⟨us, []⟩ us vs Q E hr I.env0.in1 (by
    have := hb s us I.kIn (by simpa using hu)
    simpa using this) r hsp) fun z s' hq => ?_)
  cases z with
  | error e => exact hx pins σ H s e s' I hq
  | ok fl =>
    cases fl with
    | ret w => exact I.after hq
    | next => exact False.elim hq
    | brk => exact False.elim hq
    | cont => exact False.elim hq
/-- x != y, both of the class at C -/
def rNeOwn (C : Addr) (sp : Sp) (E : XK) : R2 := fun x y H Q => ∃ a b dx dy fs gs, x = .ref a ∧ y = .ref b ∧ H a = some (.ins C dx fs) ∧ H b = some (.ins C dy gs) ∧ sp [.ref a, .ref b] H (fun v H' => ∃ t, v = .bl t ∧ Q (.bl (!t)) H') E
theorem op_neOwn (F : FnOk X.prog X.w X.K X.mg X.base CT n f fd ps sp) (hne : PySem.W.findIn X.K (.ref C) "__ne__" = some (some (.builtin "object.__ne__"))) (hso : PySem.W.subIn X.K (.ref C) (.type "object") = some true)
    (hs : PySem.W.findIn X.K (.ref C) "__eq__" = some (some (.ref f))) (hf : PySem.W.isFn X.K (.ref f) = true)
    (hb : Binds X.K fd ps []) (hx : Passes CT X E) (hr : Room (n + 1) X.A) : OpR X (compareOp .NotEq) (rNeOwn C sp E) := by
  intro pins s σ H x y v u Q I rx ry h
  obtain ⟨a, b, dx, dy, fs, gs, rfl, rfl, ha, hb', hsp⟩ := h
  obtain rfl : v = Value.ref a := rx
  obtain rfl : u = Value.ref b := ry
  obtain ⟨mA, J, _⟩ := ins_get I.hok ha
  obtain ⟨mB, J', _⟩ := ins_get I.hok hb'
  obtain ⟨od, J, _⟩ := J.look
  obtain ⟨od', J', _⟩ := J'.look
  obtain ⟨m, hF⟩ := I.fr
  show wpAny (model X.prog X.w) X.A (richCompare .NotEq (.ref a) (.ref b)) _ _ _
  refine ne_K (by have := hr.un; omega) hF I.ok.mod.kin J J' hne hso hs hf ?_
  refine wpAny_mono (call_def1 F hb hx hr.in1 I (vs := [.ref a, .ref b]) (.cons rfl (.cons rfl .nil)) hsp) (fun z s' q => ?_) fun _ _ e => e
  obtain ⟨v, H', I', r, t, rfl, q⟩ := q
  exact ⟨t, r, .bl (!t), H', I', rfl, q⟩
end
end Bd
namespace Rb
open PySem PySem.Spec PyProof.Rows L2 Bd
section
variable {K : PySem.W.Frag} {H : Hp} {Q : VK} {E : XK}
theorem own3 {C a b : Addr} {sp : Sp} (ha : ∃ dx fs, H a = some (.ins C dx fs)) (hb : ∃ dx fs, H b = some (.ins C dx fs)) (k : sp [.ref a, .ref b] H (fun v H' => ∃ t, v = .bl t ∧ Q (.bl (!t)) H') E) : rNeOwn C sp E (.ref a) (.ref b) H Q := by
  obtain ⟨dx, fs, ha⟩ := ha
  obtain ⟨dy, gs, hb⟩ := hb
  exact ⟨a, b, dx, dy, fs, gs, rfl, rfl, ha, hb, k⟩
end
end Rb
namespace Bd
open PySem PySem.Spec PyProof.Rows L2
/-- an empty tuple that stands with the classes -/
def emptyT (K : PySem.W.Frag) (a : Addr) : Bool := match K.lookup a with
  | some o => decide (o.cls = .type "tuple") && (o.dict.isNone && (match o.data with
    | .seq its _ => its.isEmpty
    | _ => false))
  | none => false
theorem emptyT_ok {K : PySem.W.Frag} {a : Addr} (h : emptyT K a = true) (H : Hp) : SqT K H a [] := by
  unfold emptyT at h
  split at h
  · rename_i o e
    rw [Bool.and_eq_true, Bool.and_eq_true] at h
    obtain ⟨h1, h2, h3⟩ := h
    split at h3
    · rename_i its n hd
      have e0 : its = #[] := by simpa using h3
      subst e0
      exact .inr ⟨o, #[], n, e, of_decide_eq_true h1, hd, by decide, .nil⟩
    · cases h3
  · cases h
def clsN : Str := "__class__"
def exE (K : PySem.W.Frag) (C : Addr) : Bool :=
  He.eqO (PySem.W.findIn K (.ref C) "__class__") (some (some (.builtin "object.__class__"))) &&
  (decide (PySem.W.specialIn K (.builtin "object.__class__") "__get__" = some (some (.builtin "getset_descriptor.__get__"))) &&
  (decide (PySem.W.takesIn K (.builtin "object.__class__") = some true) &&
  (decide (PySem.W.mroIn K C (.type "object") = some true) &&
  (decide (PySem.W.kitOne K (.ref C) (.ref C) = some true) &&
  (He.eqO (PySem.W.findIn K (.ref C) "__ne__") (some (some (.builtin "object.__ne__"))) &&
  (decide (PySem.W.subIn K (.ref C) (.type "object") = some true)))))))
/-- more of what is told of the class -/
structure BQ (K : PySem.W.Frag) (mg : Str → Option Value) : Prop where
  b : BFacts K mg
  isc : C8.InsC K (He.ga K "Bundle")
  ne : PySem.W.findIn K (.ref (He.ga K "Bundle")) "__ne__" = some (some (.builtin "object.__ne__"))
  ob : PySem.W.subIn K (.ref (He.ga K "Bundle")) (.type "object") = some true
  at_Bundle___eq : PySem.W.findIn K (.ref (He.ga K "Bundle")) "__eq__" = some (some (.ref (He.fAd K ("Bundle", some "__eq__"))))
  fn_Bundle___eq : PySem.W.isFn K (.ref (He.fAd K ("Bundle", some "__eq__"))) = true
  dfl : ∀ H, SqT K H (He.dflAt ("Bundle", some "__init__") 0 K) []
theorem BQ.mk' {K : PySem.W.Frag} {mg : Str → Option Value} (b : BFacts K mg) (h : exE K (He.ga K "Bundle") = true) (ha : PySem.W.findIn K (.ref (He.ga K "Bundle")) "__eq__" = some (some (.ref (He.fAd K ("Bundle", some "__eq__")))))
    (hf : PySem.W.isFn K (.ref (He.fAd K ("Bundle", some "__eq__"))) = true) (hd : emptyT K (He.dflAt ("Bundle", some "__init__") 0 K) = true) : BQ K mg := by
  unfold exE at h
  simp only [Bool.and_eq_true] at h
  obtain ⟨h1, h2, h3, h4, h5, h6, h7⟩ := h
  exact ⟨b, ⟨b.cls, He.eqO_ok h1, of_decide_eq_true h2, of_decide_eq_true h3, of_decide_eq_true h4, of_decide_eq_true h5⟩, He.eqO_ok h6, of_decide_eq_true h7, ha, hf, emptyT_ok hd⟩
theorem cut_drop {xs : List V} {k : Nat} (h : k ≤ xs.length) : cutV xs (some (k : Int)) none = xs.drop k := by
  unfold cutV
  have e1 : HT.sIx xs.length 0 (some (k : Int)) = k := by rw [HT.sIx_nat]; exact Nat.min_eq_left h
  have e2 : HT.sIx xs.length xs.length none = xs.length := by simp [HT.sIx]
  rw [e1, e2]
  exact List.take_of_length_le (by rw [List.length_drop]; omega)
end Bd

set_option Elab.async false
set_option linter.all false
set_option maxRecDepth 100000
set_option maxHeartbeats 4000000
/-! The rows of a bundle that are above nothing. -/
namespace Bd
open PySem PySem.Spec PyProof.Rows L2
def posF (D : List (Ast × Int)) : List (Ast × Int) := D.filter fun e => decide (0 < e.2)
variable {D : List (Ast × Int)}
theorem posF_nrm (h : Nrm D) : Nrm (posF D) := ⟨List.Pairwise.filter _ h.srt, (List.filter_sublist.map _).nodup h.nd, fun e he => h.nz e (List.mem_filter.mp he).1⟩
theorem posF_tot (h : Nrm D) (p : Ast) : tot (posF D) p = if 0 < tot D p then tot D p else 0 := by
  by_cases m : p ∈ (posF D).map (·.1)
  · obtain ⟨e, he, rfl⟩ := List.mem_map.mp m
    have h1 := List.mem_filter.mp he
    have h2 := of_decide_eq_true h1.2
    rw [tot_at (posF_nrm h).nd he, tot_at h.nd h1.1, if_pos h2]
  · rw [tot_none m]
    split
    · rename_i q
      have : p ∈ D.map (·.1) := (h.key p).mpr (by omega)
      obtain ⟨e, he, rfl⟩ := List.mem_map.mp this
      rw [tot_at h.nd he] at q
      exact absurd (List.mem_map_of_mem (f := (·.1)) (List.mem_filter.mpr ⟨he, decide_eq_true q⟩)) m
    · rfl
theorem posF_take {i : Nat} {e : Ast × Int} (h : D[i]? = some e) : posF (D.take (i + 1)) = posF (D.take i) ++ (if 0 < e.2 then [e] else []) := by
  unfold posF
  rw [List.take_add_one, h, List.filter_append]
  by_cases q : 0 < e.2 <;> simp [q]
theorem posF_len (D : List (Ast × Int)) : (posF D).length ≤ D.length := List.length_filter_le _ _
theorem posF_ok (h : OkR D) : OkR (posF D) := fun e he => h e (List.mem_filter.mp he).1
theorem posF_nil (h : Nrm D) : posF D = [] ↔ ∀ p, tot D p ≤ 0 := by
  constructor
  · intro e p
    have := posF_tot h p
    rw [e, show tot [] p = 0 from rfl] at this
    split at this <;> omega
  · intro q
    refine List.filter_eq_nil_iff.mpr fun e he => ?_
    have := q e.1
    rw [tot_at h.nd he] at this
    simp; omega
theorem allPos {L N M : List (Ast × Int)} (nm : Nrm L) (ht : ∀ p, tot L p = tot N p - tot M p) : (L.map fun e => decide (e.2 > 0)).all id = true ↔ ∀ p, tot M p ≤ tot N p := by
  rw [List.all_eq_true]
  constructor
  · intro h p
    have := ht p
    by_cases m : p ∈ L.map (·.1)
    · obtain ⟨e, he, rfl⟩ := List.mem_map.mp m
      have h1 := of_decide_eq_true (h _ (List.mem_map_of_mem (f := fun e : Ast × Int => decide (e.2 > 0)) he))
      rw [tot_at nm.nd he] at this
      omega
    · rw [tot_none m] at this; omega
  · intro h b hb
    obtain ⟨e, he, rfl⟩ := List.mem_map.mp hb
    have h1 := ht e.1
    rw [tot_at nm.nd he] at h1
    have h2 := nm.nz e he
    have h3 := h e.1
    exact decide_eq_true (by omega)
end Bd
namespace Rb
open PySem PySem.Spec PyProof.Rows L2 Bd
section
variable {K : PySem.W.Frag} {σ : L2.St} {H : Hp} {Q : VK}
theorem asgG {te : TE} {g : TG} {n b c : L2.St → Hp → Prop} {r : VK} (k : te σ H fun x H1 => g x σ H1 n) : tAsg te g ⟨n, r, b, c⟩ σ H := k
/-- [.. for target in a tuple if ..] -/
theorem lcTestT {a : Addr} {xs : List V} {g : TG} {tt : TT} {te : TE} {vs : List Nat} (Pv : Addr → Nat → List V → Hp → Prop) (h : SqT K H a xs) (h0 : ∀ D H', H D = none → Same H H' → H' D = some (.lst []) → Pv D 0 [] H')
    (hs : ∀ (i : Nat) (x : V) (acc : List V) (D : Addr) (H' : Hp), H D = none → Same H H' → xs[i]? = some x → acc.length ≤ i → H' D = some (.lst acc) → Pv D i acc H' →
      g x (wipe σ vs) H' fun σ2 H2 => wipe σ2 vs = wipe σ vs ∧ tt σ2 H2 fun b H3 => if b = true then te σ2 H3 fun y H4 => ∃ acc, H4 D = some (.lst acc) ∧ acc.length < sizeLine ∧ (fun H5 => ∃ acc, Same H H5 ∧ acc.length ≤ i + 1 ∧ H5 D = some (.lst acc) ∧ Pv D (i + 1) acc H5) (upd H4 D (.lst (acc ++ [y])))
        else (fun H5 => ∃ acc, Same H H5 ∧ acc.length ≤ i + 1 ∧ H5 D = some (.lst acc) ∧ Pv D (i + 1) acc H5) H3)
    (hd : ∀ D acc H', H D = none → Same H H' → H' D = some (.lst acc) → acc.length ≤ xs.length → Pv D xs.length acc H' → Q (.ref D) H') :
    ∃ p, V.ref a = .ref p ∧ (∃ ys, SqT K H p ys) ∧ Rd.LcJ g tt te vs σ Q (Itt K p) H := by
  refine ⟨a, rfl, ⟨_, h⟩, fun D hD => ?_⟩
  refine lc_tup (xs := xs) (fun i H' => ∃ acc, Same H H' ∧ acc.length ≤ i ∧ H' D = some (.lst acc) ∧ Pv D i acc H') ⟨[], Rd.same_new hD, Nat.le_refl _, upd_same, h0 D _ hD (Rd.same_new hD) upd_same⟩ (fun i H' _ ⟨acc, s, _⟩ => Rd.same_tup s h) ?_ ?_
  · rintro i x H' hi ⟨acc, s, e, hD', p⟩
    exact hs i x acc D H' hD s hi e hD' p
  · rintro H' ⟨acc, s, e, hD', p⟩
    exact hd D acc H' hD s hD' e p
/-- one more row at the end of the list that is made -/
theorem rowE {H0 H' : Hp} {Dd t kq : Addr} {i : Nat} {acc : List V} {R : List (Ast × Int)} {p : Ast} {q : Int} (hD : H0 Dd = none) (hs : Same H0 H') (hDl : H' Dd = some (.lst acc)) (ht : H' t = none) (hl : acc.length ≤ i) (hi : i < 100000)
    (hrow : RowL H' acc R) (hk : H' kq = some (.tup [.str p.1, .int p.2])) (Pv : Addr → Nat → List V → Hp → Prop) (hp : ∀ acc' H5, RowL H5 acc' (R ++ [(p, q)]) → Pv Dd (i + 1) acc' H5) :
    ∃ acc', (upd H' t (.tup [.ref kq, .int q])) Dd = some (.lst acc') ∧ acc'.length < sizeLine ∧ (fun H5 => ∃ acc, Same H0 H5 ∧ acc.length ≤ i + 1 ∧ H5 Dd = some (.lst acc) ∧ Pv Dd (i + 1) acc H5) (upd (upd H' t (.tup [.ref kq, .int q])) Dd (.lst (acc' ++ [.ref t]))) := by
  have nDt : Dd ≠ t := fun y => by rw [← y, hDl] at ht; cases ht
  refine ⟨acc, (upd_ne nDt).trans hDl, Rd.smallT (by omega), acc ++ [.ref t], Rd.same_mut (hs.trans (Rd.same_new ht)) hD, by rw [List.length_append]; simp; omega, upd_same, hp _ _ ?_⟩
  refine (hrow.keepT fun y w hy => ?_).append (.cons (kq := kq) ?_ ?_ .nil)
  · exact (upd_ne fun e => by rw [e, hDl] at hy; cases hy).trans (Rd.same_new ht _ _ hy)
  · exact (upd_ne (Ne.symm nDt)).trans upd_same
  · exact (upd_ne fun e => by rw [e, hDl] at hk; cases hk).trans (Rd.same_new ht _ _ hk)
end
end Rb
namespace Rb
open PySem PySem.Spec PyProof.Rows L2 Bd
section
variable {K : PySem.W.Frag} {σ : L2.St} {H : Hp} {Q : VK} {E : XK}
theorem meth {C : Addr} {m : Str} {sp : Sp} {ta : TE} {t : TA} (k : ta σ H fun x H1 => ∃ a dx fs, x = .ref a ∧ H1 a = some (.ins C dx fs) ∧ fs.lookup m = none ∧ t σ H1 fun vs H2 => sp (x :: (vs ++ [])) H2 Q E) : tMeth C m sp [] E ta t σ H Q := k
theorem mth {b : Addr} {N : List (Ast × Int)} {R : Prop} (h : BdAt K H b N) (k : R) : ∃ a dx fs, V.ref b = .ref a ∧ H a = some (.ins (He.ga K "Bundle") dx fs) ∧ fs.lookup ("covers" : Str) = none ∧ R := by
  obtain ⟨dx, r, d, xs, h1, _⟩ := h
  exact ⟨b, dx, _, rfl, h1, rfl, k⟩
end
end Rb
namespace Bd
open PySem PySem.Spec PyProof.Rows L2
theorem encRl_shaped {N : List (Ast × Int)} (h : OkR N) : SeqAt.shaped (.list (N.map encR)) = true := by
  have := encR_depth N
  unfold SeqAt.shaped
  simp only [PyData.canLay0, encR_lay N h, PyData.depth, Bool.true_and]
  exact decide_eq_true (by omega)
theorem eqv_nil {N : List (Ast × Int)} {t : Bool} (h : t = true ↔ N = []) : PyData.eqv (.bool t) (.bool (PyData.eqv (.list (N.map encR)) (.list []))) = true := by
  cases N with
  | nil => rw [h.mpr rfl]; simp [PyData.eqv, PyData.eqvAll]
  | cons e N =>
    have : t = false := by cases t; rfl; exact absurd (h.mp rfl) (by simp)
    rw [this]; simp [PyData.eqv, PyData.eqvAll]
end Bd

set_option Elab.async false
set_option linter.all false
set_option maxRecDepth 100000
set_option maxHeartbeats 4000000
/-! xs.extend of a tuple; x == a tuple, by an own __eq__. -/
namespace Bd
open PySem PySem.SeqAt
open AutoSeq1 MeetsSeq MeetsSeq2 MeetsSeq3 SeqRoads2
theorem ext_tup (l : Addr) (items : Array Value) (n : Nat) (b : Addr) (o : Obj) (items2 : Array Value) (n2 : Nat) (hc : o.cls = .type "tuple") (hd : o.data = .seq items2 n2) (hs0 : ¬(!items.isEmpty && Builtin.List.listTooLong (items.size + items2.size)) = true) (hs1 : items.size ≤ sizeLine) (hs2 : items.size + items2.size ≤ sizeLine + 1) :
    Meets (Builtin.«list.extend» ⟨[.ref l, .ref b], []⟩) (fun _ R s => s.heap.get? l = some { cls := .type "list", dict := none, data := .seq items n, slots := #[] } ∧ s.heap.get? b = some o ∧ R (.ok (.ret Value.none)) { s with heap := s.heap.update l (Obj.mapSeq fun x => x ++ items2), toks := s.toks }) :=
  .of_wp fun prog w A R s h => by
    obtain ⟨oc, od, dt, sl⟩ := o
    cases hc
    cases hd
    obtain ⟨hp, g, d, tk, os⟩ := s; obtain ⟨hl, hb, h⟩ := h; have f1 := idx_int; have f2 := sub_tuple_tuple; have f3 := sub_list_list; have f4 := sub_tuple_list; have f5 := sub_list_tuple;
    have hz' : (items ++ items2).size ≤ sizeLine + 1 := by rw [Array.size_append]; exact hs2
    wp_walk using (wpAny_updateSeq hl rfl (hz := hs1) (_hz' := hz')), wpAny_loadPart' hl, wpAny_loadPart' hb; exact ⟨_, rfl, h⟩
end Bd
namespace Bd
open PySem PySem.Spec PyProof.Rows L2
section
variable {X : Cx}
/-- xs.extend(t), t a tuple of the heap -/
def rExtendT : V → List V → Hp → VK → Prop := fun x vs H Q => ∃ l b xs zs, x = .ref l ∧ vs = [.ref b] ∧ H l = some (.lst xs) ∧ H b = some (.tup zs) ∧ xs.length + zs.length ≤ sizeLine ∧ Q .non (upd H l (.lst (xs ++ zs)))
theorem mt_extendT : MtM X "list.extend" rExtendT := by
  intro pins s σ H x vs v us Q I rx rv h
  obtain ⟨l, b, xs, zs, rfl, rfl, hH, hB, hz, q⟩ := h
  cases rx
  obtain ⟨u, rfl, ru⟩ := rv.one
  cases ru
  obtain ⟨z, its, n, r, hl, e⟩ := I.lstM hH
  obtain ⟨_, its2, r2, o, ho, hc, n2, hd⟩ := (show ObjOk X.prog X.w H s.heap b (.tup zs) from I.hok b _ hB)
  have l2 := r2.length
  have hsz : its.toArray.size + its2.toArray.size ≤ sizeLine := by rw [List.size_toArray, List.size_toArray]; omega
  have hlong : ¬ (!its.toArray.isEmpty && Builtin.List.listTooLong (its.toArray.size + its2.toArray.size)) = true := by
    rw [notLongL hsz, Bool.and_false]
    exact Bool.false_ne_true
  refine call_meets F.slot_list_extend ⟨_, e, rfl⟩ F.entry_list_extend (F.args_list_extend_2 _ _)
    (ext_tup l its.toArray n b o its2.toArray n2 hc hd hlong (by rw [List.size_toArray]; omega) (by omega)) ⟨e, ho, ?_⟩
  refine ⟨.non, _, I.lset (its' := its ++ its2) hH e (by simp) (r.append r2) ?_, rfl, q⟩
  rw [List.length_append]
  omega
end
section
variable {X : Cx} {CT : CXT} {n : Nat} {C f : Addr} {fd : FuncData} {ps : List Str} {sp : Sp} {E : XK}
/-- x == t, x of the class at C, t a tuple of the heap -/
def rEqTup (C : Addr) (sp : Sp) (E : XK) : R2 := fun x y H Q => ∃ a b dx fs ys, x = .ref a ∧ y = .ref b ∧ H a = some (.ins C dx fs) ∧ H b = some (.tup ys) ∧ sp [.ref a, .ref b] H Q E
theorem op_eqTup (F : FnOk X.prog X.w X.K X.mg X.base CT n f fd ps sp) (hs : PySem.W.findIn X.K (.ref C) "__eq__" = some (some (.ref f))) (hf : PySem.W.isFn X.K (.ref f) = true) (hsub : PySem.W.subIn X.K (.type "tuple") (.ref C) = some false)
    (hb : Binds X.K fd ps []) (hx : Passes CT X E) (hr : Room n X.A) : OpR X (compareOp .Eq) (rEqTup C sp E) := by
  intro pins s σ H x y v u Q I rx ry h
  obtain ⟨a, b, dx, fs, ys, rfl, rfl, ha, hb', hsp⟩ := h
  obtain rfl : v = Value.ref a := rx
  obtain rfl : u = Value.ref b := ry
  obtain ⟨mA, J, _⟩ := ins_get I.hok ha
  obtain ⟨od, J, _⟩ := J.look
  obtain ⟨_, its, r, o, ho, hc, n, hd⟩ := (show ObjOk X.prog X.w H s.heap b (.tup ys) from I.hok b _ hb')
  obtain ⟨m, hF⟩ := I.fr
  show wpAny (model X.prog X.w) X.A (richCompare .Eq (.ref a) (.ref b)) _ _ _
  refine PySem.W.cmp_K (op := .Eq) (tb := .type "tuple") hr.units0 hF I.ok.mod.kin J (hc ▸ (PySem.W.Looks.ld ho).andThen .now) (by simp [PySem.W.notFirst, hsub]) hs hf ?_
  exact wpAny_mono (call_def F hb hx hr I (vs := [.ref a, .ref b]) (.cons rfl (.cons rfl .nil)) hsp) (fun _ _ h => back_ep h) fun _ _ e => e
end
end Bd
namespace Bd
open PySem PySem.Spec PyProof.Rows L2
theorem encR_eqv2 (e f : Ast × Int) : PyData.eqv (encR e) (encR f) = decide (e = f) := by
  have : (e = f) ↔ ((e.1.1 = f.1.1 ∧ e.1.2 = f.1.2) ∧ e.2 = f.2) := ⟨fun h => by rw [h]; exact ⟨⟨rfl, rfl⟩, rfl⟩, fun h => Prod.ext (Prod.ext h.1.1 h.1.2) h.2⟩
  simp only [encR, PyData.eqv, PyData.eqvAll, Bool.and_true]
  rw [Bool.eq_iff_iff]
  simp [this]
theorem encRs_eqv : ∀ (N M : List (Ast × Int)), PyData.eqv (.tuple (N.map encR)) (.tuple (M.map encR)) = decide (N = M)
  | [], [] => by simp [PyData.eqv, PyData.eqvAll]
  | [], f :: M => by simp [PyData.eqv, PyData.eqvAll]
  | e :: N, [] => by simp [PyData.eqv, PyData.eqvAll]
  | e :: N, f :: M => by
    have h := encRs_eqv N M
    simp only [PyData.eqv] at h ⊢
    simp only [List.map_cons, PyData.eqvAll, encR_eqv2, h]
    rw [Bool.eq_iff_iff]
    simp
end Bd
namespace Rb
open PySem PySem.Spec PyProof.Rows L2 Bd
theorem ext {K : PySem.W.Frag} {σ : L2.St} {H : Hp} {to : TE} {t : TA} {Q : VK} (k : to σ H fun x H1 => tyV K "list" x H1 ∧ t σ H1 fun xs H2 => rExtendT x xs H2 Q) : tBM K "list" rExtendT to t σ H Q := k
end Rb

set_option Elab.async false
set_option linter.all false
set_option maxRecDepth 100000
/-! Data: values that are trees of ints, texts, tuples; comprehensions and loops over them. -/
namespace Dj
open PySem PySem.Spec PyProof.Rows L2
mutual
/-- no list and no dict anywhere -/
def nl : PyData → Bool
  | .none | .bool _ | .int _ | .str _ => true
  | .tuple ds => nlAll ds
  | .list _ | .dict _ => false
def nlAll : List PyData → Bool
  | [] => true
  | d :: ds => nl d && nlAll ds
end
theorem nlAll_mem : ∀ {ds : List PyData}, nlAll ds = true ↔ ∀ d ∈ ds, nl d = true
  | [] => by simp [nlAll]
  | d :: ds => by simp only [nlAll, Bool.and_eq_true, List.mem_cons, forall_eq_or_imp, nlAll_mem (ds := ds)]
/-- what is no list stays -/
def SameT (H H' : Hp) : Prop := ∀ a o, H a = some o → (∀ l, o ≠ .lst l) → H' a = some o
theorem SameT.refl (H : Hp) : SameT H H := fun _ _ h _ => h
theorem SameT.of {H H' : Hp} (e : Same H H') : SameT H H' := fun a o h _ => e a o h
theorem SameT.trans {H H1 H2 : Hp} (a : SameT H H1) (b : SameT H1 H2) : SameT H H2 := fun c o h n => b c o (a c o h n) n
theorem SameT.put {H : Hp} {p : Addr} {l : List V} {o : HO} (h : H p = some (.lst l)) : SameT H (L2.upd H p o) := fun a u ha n => by
  rw [upd_ne fun e => by subst e; rw [h] at ha; exact n l (Option.some.inj ha).symm]
  exact ha
theorem SameT.new {H : Hp} {p : Addr} {o : HO} (h : H p = none) : SameT H (upd H p o) := .of (Rd.same_new h)
theorem sqT_keep {K : PySem.W.Frag} {H H' : Hp} {a : Addr} {xs : List V} (e : SameT H H') (h : SqT K H a xs) : SqT K H' a xs := by
  rcases h with (h | ⟨o, h⟩) | h
  · exact .inl (.inl (e _ _ h fun l => by simp))
  · exact .inl (.inr ⟨o, e _ _ h fun l => by simp⟩)
  · exact .inr h
theorem dp_keep {K : PySem.W.Frag} {H H' : Hp} (e : SameT H H') : ∀ {x : V} {d : PyData}, nl d = true → Dp K H x d → Dp K H' x d
  | _, _, _, .non => .non
  | _, _, _, .bl b => .bl b
  | _, _, _, .int i => .int i
  | _, _, _, .str x => .str x
  | _, _, n, .lst h a => by simp [nl] at n
  | _, _, n, .tup h a => .tup (sqT_keep e h) (go e (by simpa [nl] using n) a)
where go {K : PySem.W.Frag} {H H' : Hp} (e : SameT H H') : ∀ {xs : List V} {ds : List PyData}, nlAll ds = true → DpAll K H xs ds → DpAll K H' xs ds
  | _, _, _, .nil => .nil
  | _, _, n, .cons h t => .cons (dp_keep e (by simp only [nlAll, Bool.and_eq_true] at n; exact n.1) h) (go e (by simp only [nlAll, Bool.and_eq_true] at n; exact n.2) t)
theorem dpAll_keep {K : PySem.W.Frag} {H H' : Hp} (e : SameT H H') {xs : List V} {ds : List PyData} (n : nlAll ds = true) (h : DpAll K H xs ds) : DpAll K H' xs ds := dp_keep.go e n h
theorem dpAll_same {K : PySem.W.Frag} {H H' : Hp} (e : Same H H') {xs : List V} {ds : List PyData} (h : DpAll K H xs ds) : DpAll K H' xs ds := Rd.dp_same.go e h
theorem dpAll_app {K : PySem.W.Frag} {H : Hp} : ∀ {xs ys : List V} {ds es : List PyData}, DpAll K H xs ds → DpAll K H ys es → DpAll K H (xs ++ ys) (ds ++ es)
  | _, _, _, _, .nil, k => k
  | _, _, _, _, .cons h t, k => .cons h (dpAll_app t k)
theorem dpAll_one {K : PySem.W.Frag} {H : Hp} {x : V} {d : PyData} (h : Dp K H x d) : DpAll K H [x] [d] := .cons h .nil
theorem dpAll_at {K : PySem.W.Frag} {H : Hp} : ∀ {xs : List V} {ds : List PyData}, DpAll K H xs ds → ∀ {i : Nat} {x : V}, xs[i]? = some x → ∃ d, ds[i]? = some d ∧ Dp K H x d
  | _, _, .nil, i, x, h => by simp at h
  | _, _, .cons h t, 0, x, e => by simp only [List.getElem?_cons_zero, Option.some.injEq] at e; subst e; exact ⟨_, rfl, h⟩
  | _, _, .cons h t, i + 1, x, e => by simp only [List.getElem?_cons_succ] at e ⊢; exact dpAll_at t e
theorem dpAll_ints {K : PySem.W.Frag} {H : Hp} : ∀ {xs : List V} {ns : List Int}, DpAll K H xs (ns.map PyData.int) → xs = ns.map V.int
  | _, [], .nil => rfl
  | _, n :: ns, .cons h t => by cases h; rw [dpAll_ints t]; rfl
theorem dp_ints {K : PySem.W.Frag} {H : Hp} : ∀ {ns : List Int}, DpAll K H (ns.map V.int) (ns.map PyData.int)
  | [] => .nil
  | n :: ns => .cons (.int n) dp_ints
theorem dp_pair {K : PySem.W.Frag} {H : Hp} {x : V} {d e : PyData} (h : Dp K H x (.tuple [d, e])) : ∃ z u v, x = .ref z ∧ SqT K H z [u, v] ∧ Dp K H u d ∧ Dp K H v e := by
  cases h with
  | tup h a => cases a with | cons h1 t => cases t with | cons h2 t2 => cases t2; exact ⟨_, _, _, rfl, h, h1, h2⟩
theorem dp_triple {K : PySem.W.Frag} {H : Hp} {x : V} {d e f : PyData} (h : Dp K H x (.tuple [d, e, f])) : ∃ z u v y, x = .ref z ∧ SqT K H z [u, v, y] ∧ Dp K H u d ∧ Dp K H v e ∧ Dp K H y f := by
  cases h with
  | tup h a => cases a with | cons h1 t => cases t with | cons h2 t2 => cases t2 with | cons h3 t3 => cases t3; exact ⟨_, _, _, _, rfl, h, h1, h2, h3⟩
theorem dp_tup {K : PySem.W.Frag} {H : Hp} {x : V} {ds : List PyData} (h : Dp K H x (.tuple ds)) : ∃ z us, x = .ref z ∧ SqT K H z us ∧ DpAll K H us ds := by
  cases h with | tup h a => exact ⟨_, _, rfl, h, a⟩
theorem dp_lst {K : PySem.W.Frag} {H : Hp} {x : V} {ds : List PyData} (h : Dp K H x (.list ds)) : ∃ z us, x = .ref z ∧ SqL K H z us ∧ DpAll K H us ds := by
  cases h with | lst h a => exact ⟨_, _, rfl, h, a⟩
theorem dp_int {K : PySem.W.Frag} {H : Hp} {x : V} {i : Int} (h : Dp K H x (.int i)) : x = .int i := by cases h; rfl
theorem dp_str {K : PySem.W.Frag} {H : Hp} {x : V} {i : Str} (h : Dp K H x (.str i)) : x = .str i := by cases h; rfl
theorem dp_bool {K : PySem.W.Frag} {H : Hp} {x : V} {i : Bool} (h : Dp K H x (.bool i)) : x = .bl i := by cases h; rfl
theorem dp_none {K : PySem.W.Frag} {H : Hp} {x : V} (h : Dp K H x .none) : x = .non := by cases h; rfl
theorem push {K : PySem.W.Frag} {H H4 : Hp} {r : Addr} {xs ys : List V} {ds : List PyData} {v : V} {d : PyData} {o : HO} (hx : DpAll K H xs ds) (n : nlAll ds = true) (s : Same H H4) (hr : H4 r = some (.lst ys)) (hv : Dp K H4 v d) (nd : nl d = true) : DpAll K (L2.upd H4 r o) (xs ++ [v]) (ds ++ [d]) :=
  dpAll_app (dpAll_keep (SameT.trans (.of s) (.put hr)) n hx) (dpAll_one (dp_keep (.put hr) nd hv))
theorem nlMap {α : Type} {R : List α} {f : α → PyData} (h : ∀ e, nl (f e) = true) : nlAll (R.map f) = true := nlAll_mem.mpr fun d hd => by
  obtain ⟨e, _, rfl⟩ := List.mem_map.mp hd
  exact h e
/-! equality -/
mutual
/-- no truth and no dict anywhere: equal are the same ones alone -/
def nb : PyData → Bool
  | .none | .int _ | .str _ => true
  | .tuple ds | .list ds => nbAll ds
  | .bool _ | .dict _ => false
def nbAll : List PyData → Bool
  | [] => true
  | d :: ds => nb d && nbAll ds
end
theorem nbAll_mem : ∀ {ds : List PyData}, nbAll ds = true ↔ ∀ d ∈ ds, nb d = true
  | [] => by simp [nbAll]
  | d :: ds => by simp only [nbAll, Bool.and_eq_true, List.mem_cons, forall_eq_or_imp, nbAll_mem (ds := ds)]
mutual
theorem eqv_nb : ∀ (d e : PyData), nb d = true → nb e = true → (PyData.eqv d e = true ↔ d = e)
  | .none, e, _, h => by cases e <;> simp_all [PyData.eqv, nb]
  | .int i, e, _, h => by cases e <;> simp_all [PyData.eqv, nb]
  | .str i, e, _, h => by cases e <;> simp_all [PyData.eqv, nb]
  | .bool _, _, h, _ => by simp [nb] at h
  | .dict _, _, h, _ => by simp [nb] at h
  | .list xs, e, h, k => by
    cases e with
    | list ys => simp only [nb] at h k; simp only [PyData.eqv, eqv_nbAll xs ys h k, PyData.list.injEq]
    | _ => simp_all [PyData.eqv, nb]
  | .tuple xs, e, h, k => by
    cases e with
    | tuple ys => simp only [nb] at h k; simp only [PyData.eqv, eqv_nbAll xs ys h k, PyData.tuple.injEq]
    | _ => simp_all [PyData.eqv, nb]
theorem eqv_nbAll : ∀ (xs ys : List PyData), nbAll xs = true → nbAll ys = true → (PyData.eqvAll xs ys = true ↔ xs = ys)
  | [], [], _, _ => by simp [PyData.eqvAll]
  | [], _ :: _, _, _ => by simp [PyData.eqvAll]
  | _ :: _, [], _, _ => by simp [PyData.eqvAll]
  | x :: xs, y :: ys, h, k => by
    simp only [nbAll, Bool.and_eq_true] at h k
    simp only [PyData.eqvAll, Bool.and_eq_true, eqv_nb x y h.1 k.1, eqv_nbAll xs ys h.2 k.2, List.cons.injEq]
end
mutual
/-- no dict anywhere: each is equal to itself -/
def nd : PyData → Bool
  | .none | .int _ | .str _ | .bool _ => true
  | .tuple ds | .list ds => ndAll ds
  | .dict _ => false
def ndAll : List PyData → Bool
  | [] => true
  | d :: ds => nd d && ndAll ds
end
mutual
theorem eqv_self : ∀ (d : PyData), nd d = true → PyData.eqv d d = true
  | .none, _ => by simp [PyData.eqv]
  | .int i, _ => by simp [PyData.eqv]
  | .str i, _ => by simp [PyData.eqv]
  | .bool _, h => by simp [PyData.eqv]
  | .dict _, h => by simp [nd] at h
  | .list xs, h => by simp only [nd] at h; simp only [PyData.eqv, eqv_selfAll xs h]
  | .tuple xs, h => by simp only [nd] at h; simp only [PyData.eqv, eqv_selfAll xs h]
theorem eqv_selfAll : ∀ (xs : List PyData), ndAll xs = true → PyData.eqvAll xs xs = true
  | [], _ => by simp [PyData.eqvAll]
  | x :: xs, h => by
    simp only [ndAll, Bool.and_eq_true] at h
    simp only [PyData.eqvAll, eqv_self x h.1, eqv_selfAll xs h.2, Bool.and_self]
end
/-! shape -/
theorem lay_mem : ∀ {ds : List PyData}, PyData.canLayAll0 ds = true ↔ ∀ d ∈ ds, PyData.canLay0 d = true
  | [] => by simp [PyData.canLayAll0]
  | d :: ds => by simp only [PyData.canLayAll0, Bool.and_eq_true, List.mem_cons, forall_eq_or_imp, lay_mem (ds := ds)]
theorem depth_mem {n : Nat} : ∀ {ds : List PyData}, PyData.depthAll ds ≤ n ↔ ∀ d ∈ ds, PyData.depth d ≤ n
  | [] => by simp [PyData.depthAll]
  | d :: ds => by simp only [PyData.depthAll, Nat.max_le, List.mem_cons, forall_eq_or_imp, depth_mem (ds := ds)]
/-- good and at most so deep -/
def Sh (n : Nat) (d : PyData) : Prop := PyData.canLay0 d = true ∧ PyData.depth d ≤ n
theorem Sh.shaped {n : Nat} {d : PyData} (h : Sh n d) (hn : n ≤ 64) : SeqAt.shaped d = true := by
  unfold SeqAt.shaped
  rw [h.1, Bool.true_and]
  exact decide_eq_true (Nat.le_trans h.2 hn)
theorem Sh.int (i : Int) (n : Nat) : Sh n (.int i) := ⟨by simp [PyData.canLay0], by simp [PyData.depth]⟩
theorem Sh.bool (i : Bool) (n : Nat) : Sh n (.bool i) := ⟨by simp [PyData.canLay0], by simp [PyData.depth]⟩
theorem Sh.none (n : Nat) : Sh n .none := ⟨by simp [PyData.canLay0], by simp [PyData.depth]⟩
theorem Sh.str {x : Str} (n : Nat) (h : PyData.strOk x = true) : Sh n (.str x) := ⟨by simpa [PyData.canLay0] using h, by simp [PyData.depth]⟩
theorem Sh.tuple {n : Nat} {ds : List PyData} (h : ∀ d ∈ ds, Sh n d) : Sh (n + 1) (.tuple ds) := ⟨by simp only [PyData.canLay0]; exact lay_mem.mpr fun d hd => (h d hd).1, by simp only [PyData.depth]; exact Nat.succ_le_succ (depth_mem.mpr fun d hd => (h d hd).2)⟩
theorem Sh.list {n : Nat} {ds : List PyData} (h : ∀ d ∈ ds, Sh n d) : Sh (n + 1) (.list ds) := ⟨by simp only [PyData.canLay0]; exact lay_mem.mpr fun d hd => (h d hd).1, by simp only [PyData.depth]; exact Nat.succ_le_succ (depth_mem.mpr fun d hd => (h d hd).2)⟩
theorem Sh.mono {n m : Nat} {d : PyData} (h : Sh n d) (hm : n ≤ m) : Sh m d := ⟨h.1, Nat.le_trans h.2 hm⟩
theorem gN {σ : L2.St} {H : Hp} {i : Nat} {x : V} {Qd : L2.St → Hp → Prop} (k : Qd (σ.set i (some x)) H) : gName i x σ H Qd := k
theorem dpS {K : PySem.W.Frag} {H H' : Hp} {xs : List V} {ds : List PyData} (h : DpAll K H xs ds) (e : Same H H') : DpAll K H' xs ds := dpAll_same e h
theorem dpS1 {K : PySem.W.Frag} {H H' : Hp} {x : V} {d : PyData} (h : Dp K H x d) (e : Same H H') : Dp K H' x d := Rd.dp_same e h
theorem sat {H0 H : Hp} {a : Addr} {o : HO} (s : Same H0 H) (h : H0 a = some o) : H a = some o := s _ _ h
theorem satL {K : PySem.W.Frag} {H0 H : Hp} {a : Addr} {xs : List V} (s : Same H0 H) (h : SqL K H0 a xs) : SqL K H a xs := s.seq h
theorem satT {K : PySem.W.Frag} {H0 H : Hp} {a : Addr} {xs : List V} (s : Same H0 H) (h : SqT K H0 a xs) : SqT K H a xs := Rd.same_tup s h
theorem fldK {K : PySem.W.Frag} {H : Hp} {Q : VK} {a C dx : Addr} {fs : List (Str × V)} {f : Str} {v : V} (h : H a = some (.ins C dx fs)) (c : Cls K C) (n : NoAttr K C f) (l : fs.lookup f = some v) (k : Q v H) :
    ∃ a' C' dx' fs' v', V.ref a = .ref a' ∧ H a' = some (.ins C' dx' fs') ∧ Cls K C' ∧ NoAttr K C' f ∧ fs'.lookup f = some v' ∧ Q v' H := ⟨a, C, dx, fs, v, rfl, h, c, n, l, k⟩
/-! tests whose outcome is known -/
theorem iteDt {p : Prop} [Decidable p] {A B : Prop} (h : p) (k : A) : if decide p = true then A else B := by rw [decide_eq_true h]; exact Rd.iteT k
theorem iteDf {p : Prop} [Decidable p] {A B : Prop} (h : ¬ p) (k : B) : if decide p = true then A else B := by rw [decide_eq_false h]; exact Rd.iteF k
theorem iteNt {p : Prop} [Decidable p] {A B : Prop} (h : ¬ p) (k : A) : if (!decide p) = true then A else B := by rw [decide_eq_false h]; exact Rd.iteT k
theorem iteNf {p : Prop} [Decidable p] {A B : Prop} (h : p) (k : B) : if (!decide p) = true then A else B := by rw [decide_eq_true h]; exact Rd.iteF k
/-! drawn numbers -/
def B3 (ns : List Int) : Prop := ∀ x ∈ ns, 0 ≤ x ∧ x < 1000
theorem B3.app {ns ms : List Int} (h : B3 ns) (k : B3 ms) : B3 (ns ++ ms) := fun x hx => (List.mem_append.mp hx).elim (h x) (k x)
theorem B3.drop {ns : List Int} (h : B3 ns) (n : Nat) : B3 (ns.drop n) := fun x hx => h x (List.mem_of_mem_drop hx)
theorem B3.take {ns : List Int} (h : B3 ns) (n : Nat) : B3 (ns.take n) := fun x hx => h x (List.mem_of_mem_take hx)
theorem B3.nil : B3 [] := fun _ h => absurd h List.not_mem_nil
theorem B3.push {ns : List Int} {x : Int} (h : B3 ns) (hx : 0 ≤ x ∧ x < 1000) : B3 (ns ++ [x]) := h.app fun y hy => by rw [List.mem_singleton.mp hy]; exact hx
section
variable {K : PySem.W.Frag} {H : Hp} {Q : VK} {l : Addr} {ns : List Int} {i : Int}
theorem ixB (h : SqL K H l (ns.map V.int)) (hb : B3 ns) (h0 : 0 ≤ i) (h1 : i < (ns.length : Int)) (k : ∀ v : Int, 0 ≤ v → v < 1000 → Q (.int v) H) : rIxL K (.ref l) (.int i) H Q := by
  have hg := hb (ns.getD i.toNat 0) (by
    have h2 : i.toNat < ns.length := by omega
    rw [List.getD_eq_getElem?_getD, List.getElem?_eq_getElem h2]
    exact List.getElem_mem h2)
  exact Rd.ixL h (Rd.atI_ints h0 h1) (k _ hg.1 hg.2)
theorem ixBm (h : SqL K H l (ns.map V.int)) (hb : B3 ns) (hn : 0 < ns.length) (k : ∀ v : Int, 0 ≤ v → v < 1000 → Q (.int v) H) : rIxL K (.ref l) (.int (i % (ns.length : Int))) H Q :=
  ixB h hb (Int.emod_nonneg _ (by omega)) (Int.emod_lt_of_pos i (by omega)) k
theorem ixAll {xs : List V} (P : V → Prop) (h : SqL K H l xs) (h0 : 0 ≤ i) (h1 : i < (xs.length : Int)) (hp : ∀ v ∈ xs, P v) (k : ∀ v, P v → Q v H) : rIxL K (.ref l) (.int i) H Q := Rd.ixLmem h h0 h1 fun v hv => k v (hp v hv)
theorem modBd {a lo hi : Int} (h : lo ≤ hi) : lo ≤ lo + a % (hi - lo + 1) ∧ lo + a % (hi - lo + 1) ≤ hi := by
  have h1 := Int.emod_nonneg a (b := hi - lo + 1) (by omega)
  have h2 := Int.emod_lt_of_pos a (b := hi - lo + 1) (by omega)
  omega
/-- an item of a list of ints, only that it is an int -/
theorem ixI (h : SqL K H l (ns.map V.int)) (h0 : 0 ≤ i) (h1 : i < (ns.length : Int)) (k : ∀ v : Int, Q (.int v) H) : rIxL K (.ref l) (.int i) H Q := Rd.ixL h (Rd.atI_ints h0 h1) (k _)
theorem lenI {n : Nat} (h : SqL K H l (ns.map V.int)) (e : ns.length = n) (k : Q (.int n) H) : Rd.LenK K [.ref l] H Q := Rd.lenL h (by rw [List.length_map]; exact e) k
end
section
variable {K : PySem.W.Frag} {H : Hp} {Q : VK} {x y : V} {d : PyData}
theorem neSame (h1 : Dp K H x d) (h2 : Dp K H y d) (n : nd d = true) (s : SeqAt.shaped d = true) (k : Q (.bl false) H) : rNeD K x y H Q := ⟨d, d, h1, h2, s, s, by rw [eqv_self d n]; exact k⟩
theorem eqSame (h1 : Dp K H x d) (h2 : Dp K H y d) (n : nd d = true) (s : SeqAt.shaped d = true) (k : Q (.bl true) H) : rEqD K x y H Q := ⟨d, d, h1, h2, s, s, by rw [eqv_self d n]; exact k⟩
end
theorem ndAll_mem : ∀ {ds : List PyData}, ndAll ds = true ↔ ∀ d ∈ ds, nd d = true
  | [] => by simp [ndAll]
  | d :: ds => by simp only [ndAll, Bool.and_eq_true, List.mem_cons, forall_eq_or_imp, ndAll_mem (ds := ds)]
theorem ndMap {α : Type} {R : List α} {f : α → PyData} (h : ∀ e, nd (f e) = true) : ndAll (R.map f) = true := ndAll_mem.mpr fun d hd => by
  obtain ⟨e, _, rfl⟩ := List.mem_map.mp hd
  exact h e
/-! comprehensions over data -/
section
variable {K : PySem.W.Frag} {σ : L2.St} {H : Hp} {Q : VK} {α : Type}
theorem map_at {R : List α} {f : α → PyData} {i : Nat} {d : PyData} (h : (R.map f)[i]? = some d) : ∃ e, R[i]? = some e ∧ f e = d := by
  rw [List.getElem?_map] at h
  cases q : R[i]? with
  | none => rw [q] at h; cases h
  | some e => rw [q] at h; exact ⟨e, rfl, Option.some.inj h⟩
theorem take_map {β : Type} {R : List α} {f : α → β} {i : Nat} {e : α} (h : R[i]? = some e) : (R.take (i + 1)).map f = (R.take i).map f ++ [f e] := by
  rw [List.take_add_one, h, List.map_append]; rfl
theorem lcD {a : Addr} {xs : List V} {g : TG} {te : TE} {vs : List Nat} {R : List α} (enc : α → PyData) (F : α → PyData) (h : SqL K H a xs) (hx : DpAll K H xs (R.map enc)) (hl : xs.length ≤ 100000) (hn : ∀ e ∈ R, nl (F e) = true)
    (hs : ∀ (e : α) (x : V) (D : Addr) (acc : List V) (H' : Hp) (C : VK), H D = none → Same H H' → e ∈ R → Dp K H' x (enc e) → H' D = some (.lst acc) → (∀ y H3, Same H' H3 → Dp K H3 y (F e) → C y H3) →
      g x (wipe σ vs) H' fun σ2 H2 => wipe σ2 vs = wipe σ vs ∧ te σ2 H2 C)
    (hd : ∀ D acc H', H D = none → Same H H' → H' D = some (.lst acc) → DpAll K H' acc (R.map F) → Q (.ref D) H') :
    ∃ p, V.ref a = .ref p ∧ (∃ ys, SqL K H p ys) ∧ Rd.LcJ g tYes te vs σ Q (Itl K p) H := by
  have hxl := Rd.dpAll_len hx
  rw [List.length_map] at hxl
  refine Rb.lcL2 (fun D i acc H' => DpAll K H' acc ((R.take i).map F)) h (fun D H' _ _ _ => .nil) ?_ ?_
  · intro i x acc D H' hD s hi hl2 hDl hacc
    obtain ⟨d, hd2, hdp⟩ := dpAll_at hx hi
    obtain ⟨e, he, rfl⟩ := map_at hd2
    have hi2 : i < xs.length := (List.getElem?_eq_some_iff.mp hi).1
    refine hs e x D acc H' _ hD s (List.mem_of_getElem? he) (Rd.dp_same s hdp) hDl fun y H3 s3 hy => ?_
    refine Rd.lcE hD (s3 _ _ hDl) (s.trans s3) hl2 (by omega) ?_
    have st : SameT H3 (upd H3 D (.lst (acc ++ [y]))) := .put (s3 _ _ hDl)
    rw [take_map he]
    refine dpAll_app (dpAll_keep (SameT.trans (.of s3) st) ?_ hacc) (dpAll_one (dp_keep st (hn e (List.mem_of_getElem? he)) hy))
    refine nlAll_mem.mpr fun d hd => ?_
    obtain ⟨e', he', rfl⟩ := List.mem_map.mp hd
    exact hn e' (List.mem_of_mem_take he')
  · intro D acc H' hD s hDl hal hacc
    rw [hxl, List.take_length] at hacc
    exact hd D acc H' hD s hDl hacc
theorem lcDT {a : Addr} {xs : List V} {g : TG} {te : TE} {vs : List Nat} {R : List α} (enc : α → PyData) (F : α → PyData) (h : SqT K H a xs) (hx : DpAll K H xs (R.map enc)) (hl : xs.length ≤ 100000) (hn : ∀ e ∈ R, nl (F e) = true)
    (hs : ∀ (e : α) (x : V) (D : Addr) (acc : List V) (H' : Hp) (C : VK), H D = none → Same H H' → e ∈ R → Dp K H' x (enc e) → H' D = some (.lst acc) → (∀ y H3, Same H' H3 → Dp K H3 y (F e) → C y H3) →
      g x (wipe σ vs) H' fun σ2 H2 => wipe σ2 vs = wipe σ vs ∧ te σ2 H2 C)
    (hd : ∀ D acc H', H D = none → Same H H' → H' D = some (.lst acc) → DpAll K H' acc (R.map F) → Q (.ref D) H') :
    ∃ p, V.ref a = .ref p ∧ (∃ ys, SqT K H p ys) ∧ Rd.LcJ g tYes te vs σ Q (Itt K p) H := by
  have hxl := Rd.dpAll_len hx
  rw [List.length_map] at hxl
  refine Rb.lcT (fun D i acc H' => DpAll K H' acc ((R.take i).map F)) h (fun D H' _ _ _ => .nil) ?_ ?_
  · intro i x acc D H' hD s hi hl2 hDl hacc
    obtain ⟨d, hd2, hdp⟩ := dpAll_at hx hi
    obtain ⟨e, he, rfl⟩ := map_at hd2
    have hi2 : i < xs.length := (List.getElem?_eq_some_iff.mp hi).1
    refine hs e x D acc H' _ hD s (List.mem_of_getElem? he) (Rd.dp_same s hdp) hDl fun y H3 s3 hy => ?_
    refine Rd.lcE hD (s3 _ _ hDl) (s.trans s3) hl2 (by omega) ?_
    have st : SameT H3 (upd H3 D (.lst (acc ++ [y]))) := .put (s3 _ _ hDl)
    rw [take_map he]
    refine dpAll_app (dpAll_keep (SameT.trans (.of s3) st) ?_ hacc) (dpAll_one (dp_keep st (hn e (List.mem_of_getElem? he)) hy))
    refine nlAll_mem.mpr fun d hd => ?_
    obtain ⟨e', he', rfl⟩ := List.mem_map.mp hd
    exact hn e' (List.mem_of_mem_take he')
  · intro D acc H' hD s hDl hal hacc
    rw [hxl, List.take_length] at hacc
    exact hd D acc H' hD s hDl hacc
/-- [e for target in xs if test]: F none where the test fails -/
theorem lcDF {a : Addr} {xs : List V} {g : TG} {tt : TT} {te : TE} {vs : List Nat} {R : List α} (enc : α → PyData) (F : α → Option PyData) (h : SqL K H a xs) (hx : DpAll K H xs (R.map enc)) (hl : xs.length ≤ 100000) (hn : ∀ e ∈ R, ∀ d, F e = some d → nl d = true)
    (hs : ∀ (e : α) (x : V) (D : Addr) (acc : List V) (H' : Hp) (C : VK) (N : Hp → Prop), H D = none → Same H H' → e ∈ R → Dp K H' x (enc e) → H' D = some (.lst acc) → (∀ y H3 d, Same H' H3 → F e = some d → Dp K H3 y d → C y H3) → (∀ H3, Same H' H3 → F e = none → N H3) →
      g x (wipe σ vs) H' fun σ2 H2 => wipe σ2 vs = wipe σ vs ∧ tt σ2 H2 fun b H3 => if b = true then te σ2 H3 C else N H3)
    (hd : ∀ D acc H', H D = none → Same H H' → H' D = some (.lst acc) → DpAll K H' acc (R.filterMap F) → Q (.ref D) H') :
    ∃ p, V.ref a = .ref p ∧ (∃ ys, SqL K H p ys) ∧ Rd.LcJ g tt te vs σ Q (Itl K p) H := by
  have hxl := Rd.dpAll_len hx
  rw [List.length_map] at hxl
  refine ⟨a, rfl, ⟨_, h⟩, fun D hD => ?_⟩
  refine lc_list (xs := xs) (fun i H' => ∃ acc, Same H H' ∧ acc.length ≤ i ∧ H' D = some (.lst acc) ∧ DpAll K H' acc ((R.take i).filterMap F)) ⟨[], Rd.same_new hD, Nat.le_refl _, upd_same, .nil⟩ (fun i H' _ ⟨_, s, _⟩ => s.seq h) ?_ ?_
  · rintro i x H' hi ⟨acc, s, hal, hDl, hacc⟩
    obtain ⟨d, hd2, hdp⟩ := dpAll_at hx hi
    obtain ⟨e, he, rfl⟩ := map_at hd2
    have hi2 : i < xs.length := (List.getElem?_eq_some_iff.mp hi).1
    have hnA : nlAll ((R.take i).filterMap F) = true := nlAll_mem.mpr fun d hd => by
      obtain ⟨e', he', q⟩ := List.mem_filterMap.mp hd
      exact hn e' (List.mem_of_mem_take he') d q
    refine hs e x D acc H' _ _ hD s (List.mem_of_getElem? he) (Rd.dp_same s hdp) hDl (fun y H3 d s3 hF hy => ?_) (fun H3 s3 hF => ?_)
    · have st : SameT H3 (upd H3 D (.lst (acc ++ [y]))) := .put (s3 _ _ hDl)
      refine ⟨acc, s3 _ _ hDl, Rd.smallT (by omega), acc ++ [y], Rd.same_mut (s.trans s3) hD, by rw [List.length_append]; simp; omega, upd_same, ?_⟩
      rw [List.take_add_one, he, List.filterMap_append]
      refine dpAll_app (dpAll_keep (SameT.trans (.of s3) st) hnA hacc) ?_
      simp only [Option.toList, List.filterMap_cons, hF, List.filterMap_nil]
      exact dpAll_one (dp_keep st (hn e (List.mem_of_getElem? he) d hF) hy)
    · refine ⟨acc, s.trans s3, by omega, s3 _ _ hDl, ?_⟩
      rw [List.take_add_one, he, List.filterMap_append]
      simp only [Option.toList, List.filterMap_cons, hF, List.filterMap_nil, List.append_nil]
      exact dpAll_same s3 hacc
  · rintro H' ⟨acc, s, hal, hDl, hacc⟩
    rw [hxl, List.take_length] at hacc
    exact hd D acc H' hD s hDl hacc
/-- [e for target in xs if test]: F none where the test fails -/
theorem lcDTF {a : Addr} {xs : List V} {g : TG} {tt : TT} {te : TE} {vs : List Nat} {R : List α} (enc : α → PyData) (F : α → Option PyData) (h : SqT K H a xs) (hx : DpAll K H xs (R.map enc)) (hl : xs.length ≤ 100000) (hn : ∀ e ∈ R, ∀ d, F e = some d → nl d = true)
    (hs : ∀ (e : α) (x : V) (D : Addr) (acc : List V) (H' : Hp) (C : VK) (N : Hp → Prop), H D = none → Same H H' → e ∈ R → Dp K H' x (enc e) → H' D = some (.lst acc) → (∀ y H3 d, Same H' H3 → F e = some d → Dp K H3 y d → C y H3) → (∀ H3, Same H' H3 → F e = none → N H3) →
      g x (wipe σ vs) H' fun σ2 H2 => wipe σ2 vs = wipe σ vs ∧ tt σ2 H2 fun b H3 => if b = true then te σ2 H3 C else N H3)
    (hd : ∀ D acc H', H D = none → Same H H' → H' D = some (.lst acc) → DpAll K H' acc (R.filterMap F) → Q (.ref D) H') :
    ∃ p, V.ref a = .ref p ∧ (∃ ys, SqT K H p ys) ∧ Rd.LcJ g tt te vs σ Q (Itt K p) H := by
  have hxl := Rd.dpAll_len hx
  rw [List.length_map] at hxl
  refine ⟨a, rfl, ⟨_, h⟩, fun D hD => ?_⟩
  refine lc_tup (xs := xs) (fun i H' => ∃ acc, Same H H' ∧ acc.length ≤ i ∧ H' D = some (.lst acc) ∧ DpAll K H' acc ((R.take i).filterMap F)) ⟨[], Rd.same_new hD, Nat.le_refl _, upd_same, .nil⟩ (fun i H' _ ⟨_, s, _⟩ => Rd.same_tup s h) ?_ ?_
  · rintro i x H' hi ⟨acc, s, hal, hDl, hacc⟩
    obtain ⟨d, hd2, hdp⟩ := dpAll_at hx hi
    obtain ⟨e, he, rfl⟩ := map_at hd2
    have hi2 : i < xs.length := (List.getElem?_eq_some_iff.mp hi).1
    have hnA : nlAll ((R.take i).filterMap F) = true := nlAll_mem.mpr fun d hd => by
      obtain ⟨e', he', q⟩ := List.mem_filterMap.mp hd
      exact hn e' (List.mem_of_mem_take he') d q
    refine hs e x D acc H' _ _ hD s (List.mem_of_getElem? he) (Rd.dp_same s hdp) hDl (fun y H3 d s3 hF hy => ?_) (fun H3 s3 hF => ?_)
    · have st : SameT H3 (upd H3 D (.lst (acc ++ [y]))) := .put (s3 _ _ hDl)
      refine ⟨acc, s3 _ _ hDl, Rd.smallT (by omega), acc ++ [y], Rd.same_mut (s.trans s3) hD, by rw [List.length_append]; simp; omega, upd_same, ?_⟩
      rw [List.take_add_one, he, List.filterMap_append]
      refine dpAll_app (dpAll_keep (SameT.trans (.of s3) st) hnA hacc) ?_
      simp only [Option.toList, List.filterMap_cons, hF, List.filterMap_nil]
      exact dpAll_one (dp_keep st (hn e (List.mem_of_getElem? he) d hF) hy)
    · refine ⟨acc, s.trans s3, by omega, s3 _ _ hDl, ?_⟩
      rw [List.take_add_one, he, List.filterMap_append]
      simp only [Option.toList, List.filterMap_cons, hF, List.filterMap_nil, List.append_nil]
      exact dpAll_same s3 hacc
  · rintro H' ⟨acc, s, hal, hDl, hacc⟩
    rw [hxl, List.take_length] at hacc
    exact hd D acc H' hD s hDl hacc
theorem lcDTJ {a : Addr} {xs : List V} {g : TG} {te : TE} {vs : List Nat} {R : List α} (enc : α → PyData) (F : α → PyData) (h : SqT K H a xs) (hx : DpAll K H xs (R.map enc)) (hl : xs.length ≤ 100000) (hn : ∀ e ∈ R, nl (F e) = true)
    (hs : ∀ (e : α) (x : V) (D : Addr) (acc : List V) (H' : Hp) (C : VK), H D = none → Same H H' → e ∈ R → Dp K H' x (enc e) → H' D = some (.lst acc) → (∀ y H3, Same H' H3 → Dp K H3 y (F e) → C y H3) →
      g x (wipe σ vs) H' fun σ2 H2 => wipe σ2 vs = wipe σ vs ∧ te σ2 H2 C)
    (hd : ∀ D acc H', H D = none → Same H H' → H' D = some (.lst acc) → DpAll K H' acc (R.map F) → Q (.ref D) H') : Rd.LcJ g tYes te vs σ Q (Itt K a) H := by
  obtain ⟨p, e, _, hL⟩ := lcDT (σ := σ) (Q := Q) (g := g) (te := te) (vs := vs) enc F h hx hl hn hs hd
  cases e
  exact hL
theorem pair_of {z : Addr} {x y : V} {i j : Nat} {Qd : L2.St → Hp → Prop} (h : SqT K H z [x, y]) (k : Qd ((σ.set i (some x)).set j (some y)) H) : gTup K 2 (gCons (gName i) (gCons (gName j) gNil)) (.ref z) σ H Qd :=
  ⟨z, _, rfl, h, rfl, x, [y], rfl, y, [], rfl, rfl, k⟩
theorem lcDI {a : Addr} {xs : List V} {g : TG} {te : TE} {vs : List Nat} {R : List α} (enc : α → PyData) (F : α → Int) (h : SqL K H a xs) (hx : DpAll K H xs (R.map enc)) (hl : xs.length ≤ 100000)
    (hs : ∀ (e : α) (x : V) (D : Addr) (acc : List V) (H' : Hp) (C : VK), H D = none → Same H H' → e ∈ R → Dp K H' x (enc e) → H' D = some (.lst acc) → (∀ H3, Same H' H3 → C (.int (F e)) H3) →
      g x (wipe σ vs) H' fun σ2 H2 => wipe σ2 vs = wipe σ vs ∧ te σ2 H2 C)
    (hd : ∀ D H', H D = none → Same H H' → H' D = some (.lst ((R.map F).map V.int)) → Q (.ref D) H') :
    ∃ p, V.ref a = .ref p ∧ (∃ ys, SqL K H p ys) ∧ Rd.LcJ g tYes te vs σ Q (Itl K p) H := by
  refine lcD enc (fun e => .int (F e)) h hx hl (fun _ _ => rfl) (fun e x D acc H' C hD s he hx hDl hC => hs e x D acc H' C hD s he hx hDl fun H3 s3 => hC _ _ s3 (.int _)) ?_
  intro D acc H' hD s hDl hacc
  have e : R.map (fun e => PyData.int (F e)) = (R.map F).map PyData.int := by rw [List.map_map]; rfl
  rw [e] at hacc
  rw [dpAll_ints hacc] at hDl
  exact hd D H' hD s hDl
theorem lcDFI {a : Addr} {xs : List V} {g : TG} {tt : TT} {te : TE} {vs : List Nat} {R : List α} (enc : α → PyData) (F : α → Option Int) (h : SqL K H a xs) (hx : DpAll K H xs (R.map enc)) (hl : xs.length ≤ 100000)
    (hs : ∀ (e : α) (x : V) (D : Addr) (acc : List V) (H' : Hp) (C : VK) (N : Hp → Prop), H D = none → Same H H' → e ∈ R → Dp K H' x (enc e) → H' D = some (.lst acc) → (∀ H3 d, Same H' H3 → F e = some d → C (.int d) H3) → (∀ H3, Same H' H3 → F e = none → N H3) →
      g x (wipe σ vs) H' fun σ2 H2 => wipe σ2 vs = wipe σ vs ∧ tt σ2 H2 fun b H3 => if b = true then te σ2 H3 C else N H3)
    (hd : ∀ D H', H D = none → Same H H' → H' D = some (.lst ((R.filterMap F).map V.int)) → Q (.ref D) H') :
    ∃ p, V.ref a = .ref p ∧ (∃ ys, SqL K H p ys) ∧ Rd.LcJ g tt te vs σ Q (Itl K p) H := by
  refine lcDF enc (fun e => (F e).map PyData.int) h hx hl (fun e _ d q => by cases hF : F e with | none => rw [hF] at q; cases q | some i => rw [hF] at q; cases q; rfl) (fun e x D acc H' C N hD s he hx hDl hC hN => hs e x D acc H' C N hD s he hx hDl (fun H3 d s3 q => hC _ _ (.int d) s3 (by rw [q]; rfl) (.int _)) (fun H3 s3 q => hN H3 s3 (by rw [q]; rfl))) ?_
  intro D acc H' hD s hDl hacc
  have e : R.filterMap (fun e => (F e).map PyData.int) = (R.filterMap F).map PyData.int := by rw [List.map_filterMap]
  rw [e] at hacc
  rw [dpAll_ints hacc] at hDl
  exact hd D H' hD s hDl
end
end Dj
namespace Rb
open PySem PySem.Spec PyProof.Rows L2
theorem call_lenK {X : Cx} {K : PySem.W.Frag} (h : X.K = K) : CallR X (.builtin "len") (fun xs H Q => ∃ p ys, xs = [V.ref p] ∧ (SqL K H p ys ∨ SqT K H p ys) ∧ Q (.int ys.length) H) := by
  subst h; exact call_len_seq
end Rb

set_option Elab.async false
set_option linter.all false
set_option maxRecDepth 100000
set_option maxHeartbeats 4000000
/-! Dicts whose keys are tuples, tracked ones or constants of the module: the dict's own entries stand in dX, its keys are told by SqT. -/
namespace Es
open PySem PySem.Spec PyProof.Rows L2 Bd
/-- tuples stay when something else is written -/
theorem sqT_upd {K : PySem.W.Frag} {H : Hp} {a p : Addr} {xs : List V} {o o' : HO} (hp : H p = some o) (h1 : ∀ ys, o ≠ .tup ys) (h2 : ∀ z u, o ≠ .frz z u) (h : SqT K H a xs) : SqT K (upd H p o') a xs := by
  rcases h with (h | ⟨z, h⟩) | h
  · exact .inl (.inl ((upd_ne fun e => by rw [e, hp] at h; exact h1 _ (Option.some.inj h)).trans h))
  · exact .inl (.inr ⟨z, (upd_ne fun e => by rw [e, hp] at h; exact h2 _ _ (Option.some.inj h)).trans h⟩)
  · exact .inr h
/-- keys (where their tuples stand) and values -/
abbrev KTS (K : PySem.W.Frag) (H : Hp) : List (List Key × V) → List (List Key × Addr × Value) → Prop := Paired fun p q => p.1 = q.1 ∧ SqT K H q.2.1 (p.1.map kV) ∧ RelV p.2 q.2.2
theorem KTS.val {K : PySem.W.Frag} {H : Hp} {kvs : List (List Key × V)} {xs : List (List Key × Addr × Value)} (r : KTS K H kvs xs) (k : List Key) : RelO (valV kvs k) ((atKey xs k).map (·.2)) := by
  induction r with
  | nil => exact True.intro
  | @cons p q ps qs h t ih =>
    obtain ⟨z1, _, z2⟩ := h
    by_cases e : p.1 = k
    · rw [valV_pos e, show atKey (q :: qs) k = some q.2 by simp [atKey, List.find?_cons, z1.symm.trans e]]; exact z2
    · rw [valV_neg e, show atKey (q :: qs) k = atKey qs k by simp [atKey, List.find?_cons, show ¬ q.1 = k from fun y => e (z1.trans y)]]; exact ih
theorem KTS.repl {K : PySem.W.Frag} {H : Hp} {kvs : List (List Key × V)} {xs : List (List Key × Addr × Value)} (r : KTS K H kvs xs) (k : List Key) {y : V} {u : Value} (ry : RelV y u) : KTS K H (kvs.map fun kv => if kv.1 = k then (kv.1, y) else kv) (xs.map (putAt k u)) := by
  induction r with
  | nil => exact .nil
  | @cons p q ps qs h t ih =>
    rw [List.map_cons, List.map_cons]
    refine .cons ?_ ih
    unfold putAt
    by_cases e : p.1 = k
    · rw [if_pos e, if_pos (h.1.symm.trans e)]; exact ⟨h.1, h.2.1, ry⟩
    · rw [if_neg e, if_neg fun z => e (h.1.trans z)]; exact h
theorem KTS.put {K : PySem.W.Frag} {H : Hp} {kvs : List (List Key × V)} {xs : List (List Key × Addr × Value)} (r : KTS K H kvs xs) (k : List Key) {b : Addr} {y : V} {u : Value} (hb : SqT K H b (k.map kV)) (ry : RelV y u) : KTS K H (putK kvs k y) (storedH xs k b u) := by
  unfold putK storedH
  rw [show (kvs.any fun kv => decide (kv.1 = k)) = (atKey xs k).isSome by rw [valV_any, (r.val k).isSome_eq, Option.isSome_map]]
  by_cases q : (atKey xs k).isSome = true
  · rw [if_pos q, if_pos q]; exact r.repl k ry
  · rw [if_neg q, if_neg q]; exact Paired.snoc r ⟨rfl, hb, ry⟩
theorem KTS.keeps {K : PySem.W.Frag} {H H' : Hp} {kvs : List (List Key × V)} {xs : List (List Key × Addr × Value)} (r : KTS K H kvs xs) (ht : ∀ b ys, SqT K H b ys → SqT K H' b ys) : KTS K H' kvs xs := Paired.mapP r fun _ _ z => ⟨z.1, ht _ _ z.2.1, z.2.2⟩
theorem KTS.drop {K : PySem.W.Frag} {H : Hp} (k : List L2.Key) : ∀ {kvs : List (List L2.Key × V)} {xs : List (List L2.Key × Addr × Value)}, KTS K H kvs xs → KTS K H (L2.dropK kvs k) (DT.dropH xs k)
  | _, _, Paired.nil => Paired.nil
  | _, _, Paired.cons (a := p) (b := q) (l₁ := kvs) (l₂ := xs) h t => by
    have ih := KTS.drop k t
    by_cases e : p.1 = k
    · rw [show L2.dropK (p :: kvs) k = L2.dropK kvs k from List.filter_cons_of_neg (by simp [e]), show DT.dropH (q :: xs) k = DT.dropH xs k from List.filter_cons_of_neg (by simp [h.1.symm.trans e])]
      exact ih
    · rw [show L2.dropK (p :: kvs) k = p :: L2.dropK kvs k from List.filter_cons_of_pos (by simp [e]), show DT.dropH (q :: xs) k = q :: DT.dropH xs k from List.filter_cons_of_pos (by simp [show ¬ q.1 = k from fun z => e (h.1.trans z)])]
      exact Paired.cons h ih
def AsS (K : PySem.W.Frag) (H : Hp) (ps : List (Addr × (Str × Int))) : Prop := ∀ z ∈ ps, SqT K H z.1 [.str z.2.1, .int z.2.2]
theorem kts_as {K : PySem.W.Frag} {H : Hp} : ∀ {m : List ((Str × Int) × V)} {ks : List (List Key × Addr × Value)}, KTS K H (m.map fun e => (eK e.1, e.2)) ks → ∃ ps : List (Addr × (Str × Int)), AsS K H ps ∧ ps.map (·.2) = m.map (·.1) ∧ ps.map (·.1) = ks.map fun x => x.2.1
  | [], _, Paired.nil => ⟨[], fun _ h => absurd h List.not_mem_nil, rfl, rfl⟩
  | e :: m, _, Paired.cons (b := x) h t => by
    obtain ⟨ps, h1, h2, h3⟩ := kts_as (m := m) t
    refine ⟨(x.2.1, e.1) :: ps, fun z hz => ?_, by rw [List.map_cons, List.map_cons, h2], by rw [List.map_cons, List.map_cons, h3]⟩
    rcases List.mem_cons.mp hz with rfl | hz
    · exact h.2.1
    · exact h1 z hz
/-- the dict at a, its keys where xs says -/
def dX (P : Program) (w : World) (a : Addr) (xs : List (List Key × Addr × Value)) : HO := .ext fun h => (a == sysModules) = false ∧ ∃ o es ep, h.get? a = some o ∧ o.ExactDict ∧ o.data = .dict es ep ∧ es.toList = xs.map (entryOfKey (tupleKind (mixKind P w))) ∧ (xs.map (·.1)).Nodup
theorem dX_ok {P : Program} {w : World} {H : Hp} {h : Heap} {a : Addr} {xs : List (List Key × Addr × Value)} (z : (a == sysModules) = false)
    (d : ∃ o es ep, h.get? a = some o ∧ o.ExactDict ∧ o.data = .dict es ep ∧ es.toList = xs.map (entryOfKey (tupleKind (mixKind P w))) ∧ (xs.map (·.1)).Nodup) : ObjOk P w H h a (dX P w a xs) := by
  obtain ⟨o, es, ep, e1, e2⟩ := d
  exact ⟨⟨z, o, es, ep, e1, e2⟩, ⟨o, e1⟩, fun g g' ⟨y, o', es', ep', f1, f2⟩ k => ⟨y, o', es', ep', k _ f1, f2⟩⟩
/-- at a stands a dict with the keys and values kvs -/
def DS (P : Program) (w : World) (K : PySem.W.Frag) (H : Hp) (a : Addr) (kvs : List (List Key × V)) : Prop := kvs.length ≤ sizeLine ∧ ∃ xs, H a = some (dX P w a xs) ∧ KTS K H kvs xs
theorem dX_mut {P : Program} {w : World} {a : Addr} {xs : List (List Key × Addr × Value)} : Mut (some (dX P w a xs)) := True.intro
theorem dX_tup {P : Program} {w : World} {a : Addr} {xs : List (List Key × Addr × Value)} {ys : List V} : HO.tup ys ≠ dX P w a xs := fun z => by
  have z' : HO.tup ys = HO.ext _ := z
  cases z'
section
variable {X : Cx} {pins : List (Addr × Obj)} {σ : L2.St} {H : Hp} {s : Shared} {a b : Addr} {k : List Key} {kvs : List (List Key × V)} {y v : V} {u r : Value} {A : Around} {E : Value → Shared → Prop}
theorem keyC (I : Inv X pins σ H s) (e : SqT X.K H b (k.map kV)) : (tupleKind (mixKind X.prog X.w)).is s.heap k b := by
  obtain ⟨its, rel, ⟨o, h1, h2, n, h3⟩, _⟩ := I.tuple e
  exact ⟨o, its.toArray, n, h1, h2, h3, by simpa using items_are rel⟩
theorem dx_at (I : Inv X pins σ H s) (d : DS X.prog X.w X.K H a kvs) : (a == sysModules) = false ∧ ∃ xs, H a = some (dX X.prog X.w a xs) ∧ KTS X.K H kvs xs ∧ s.heap.DictOfH (tupleKind (mixKind X.prog X.w)) a xs := by
  obtain ⟨_, xs, e, rel⟩ := d
  have q : ObjOk X.prog X.w H s.heap a (.ext fun h => (a == sysModules) = false ∧ ∃ o es ep, h.get? a = some o ∧ o.ExactDict ∧ o.data = .dict es ep ∧ es.toList = xs.map (entryOfKey (tupleKind (mixKind X.prog X.w))) ∧ (xs.map (·.1)).Nodup) := I.hok a _ e
  obtain ⟨⟨z, o, es, ep, f1, f2, f3, f4, f5⟩, _⟩ := q
  refine ⟨z, xs, e, rel, o, es, ep, f1, f2, f3, f4, fun x hx => ?_, f5⟩
  have all : ∀ (l : List (List Key × V)) (m : List (List Key × Addr × Value)), KTS X.K H l m → ∀ x ∈ m, (tupleKind (mixKind X.prog X.w)).is s.heap x.1 x.2.1 := by
    intro l m p
    induction p with
    | nil => exact fun x h => absurd h List.not_mem_nil
    | cons t _ ih =>
      intro x hx
      cases List.mem_cons.mp hx with
      | inl e' => rw [e', ← t.1]; exact keyC I t.2.1
      | inr e' => exact ih x e'
  exact all _ _ rel x hx
/-- what the dict holds at the key y -/
def GX (P : Program) (w : World) (K : PySem.W.Frag) (H : Hp) (a : Addr) (y : V) (o : Option V) : Prop := ∃ kvs k b, DS P w K H a kvs ∧ y = .ref b ∧ SqT K H b (k.map kV) ∧ o = valV kvs k
theorem dx_get {Q : Value → Shared → Prop} (hu : A.units + 1 < cLine) (I : Inv X pins σ H s) (g : GX X.prog X.w X.K H a y (some v)) (ry : RelV y u) (h : ∀ w' s', Inv X pins σ H s' → RelV v w' → Q w' s') :
    wpAny (model X.prog X.w) A (getItem (.ref a) u) Q E s := by
  obtain ⟨kvs, k, b, d, rfl, eb, l⟩ := g
  cases (show u = Value.ref b from ry)
  obtain ⟨_, xs, _, rel, dd⟩ := dx_at I d
  have q := rel.val k
  rw [← l] at q
  obtain ⟨w', hw, rw'⟩ := RelO.some_of q
  obtain ⟨p, hp, hp2⟩ := Option.map_eq_some_iff.mp hw
  exact wpAny_getItem_heap (tupleKind_room_in1 hu) (keyC I eb) dd hp (by rw [hp2]; exact h w' _ (I.tok _) rw')
theorem dx_get2 {o : Option V} {d0 : V} {Q : Value → Shared → Prop} (hu : A.units + 1 < cLine) (I : Inv X pins σ H s) (g : GX X.prog X.w X.K H a y o) (ry : RelV y u) (rd : RelV d0 r) (h : ∀ w' s', Inv X pins σ H s' → RelV (o.getD d0) w' → Q w' s') :
    wpAny (model X.prog X.w) A (call (.builtin "dict.get") [.ref a, u, r]) Q E s := by
  obtain ⟨kvs, k, b, d, rfl, eb, rfl⟩ := g
  cases (show u = Value.ref b from ry)
  obtain ⟨hd, xs, _, rel, dd⟩ := dx_at I d
  exact call_meetsIn PySem.F.slot_dict_get dd.typeIs PySem.F.entry_dict_get (PySem.F.args_dict_get_3 _ _ _) (meetsH_dict_get_default (tupleKind (mixKind X.prog X.w)) a b hd r) ⟨tupleKind_room_in1 hu, k, xs, keyC I eb, dd, h _ _ (I.tok _) ((rel.val k).getD rd)⟩
theorem dx_in {o : Option V} {Q : Value → Shared → Prop} (hu : A.units + 1 < cLine) (I : Inv X pins σ H s) (g : GX X.prog X.w X.K H a y o) (ry : RelV y u) (h : ∀ s', Inv X pins σ H s' → Q (.bool o.isSome) s') :
    wpAny (model X.prog X.w) A (compareOp .In u (.ref a)) Q E s := by
  obtain ⟨kvs, k, b, d, rfl, eb, rfl⟩ := g
  cases (show u = Value.ref b from ry)
  obtain ⟨hd, xs, _, rel, dd⟩ := dx_at I d
  refine wpAny_in_heap (tupleKind_room_in1 hu) (keyC I eb) hd dd ?_
  have q := (rel.val k).isSome_eq
  rw [Option.isSome_map] at q
  rw [← q]
  exact h _ (I.tok _)
/-- the dict with one more value, in the heap that has it -/
theorem dx_put {xs : List (List Key × Addr × Value)} {h' : Heap} {t' : Nat} (I : Inv X pins σ H s) (e : H a = some (dX X.prog X.w a xs)) (rel : KTS X.K H kvs xs) (hz : kvs.length < sizeLine) (hd : (a == sysModules) = false)
    (eb : SqT X.K H b (k.map kV)) (rv : RelV v r) (dd' : h'.DictOfH (tupleKind (mixKind X.prog X.w)) a (storedH xs k b r)) (hs : Heap.SameBut a s.heap h') :
    Inv X pins σ (upd H a (dX X.prog X.w a (storedH xs k b r))) { s with heap := h', toks := t' } ∧ DS X.prog X.w X.K (upd H a (dX X.prog X.w a (storedH xs k b r))) a (putK kvs k v) := by
  obtain ⟨o, es, ep, f1, f2, f3, f4, _, f5⟩ := dd'
  refine ⟨d_write I (by rw [e]; exact dX_mut) hs ⟨o, f1⟩ (dX_ok hd ⟨o, es, ep, f1, f2, f3, f4, f5⟩), ?_, _, upd_same, (rel.put k eb rv).keeps fun q ys eq => ?_⟩
  · have := length_putK kvs k v; omega
  · exact sqT_upd (o := dX X.prog X.w a xs) e (fun ys q => by cases q) (fun o u q => by cases q) eq
theorem dx_set {Q : Unit → Shared → Prop} (hu : A.units + 1 < cLine) (I : Inv X pins σ H s) (d : DS X.prog X.w X.K H a kvs) (hz : kvs.length < sizeLine) (eb : SqT X.K H b (k.map kV)) (ry : RelV (.ref b) u) (rv : RelV v r)
    (h : ∀ s' ys, Inv X pins σ (upd H a (dX X.prog X.w a ys)) s' → DS X.prog X.w X.K (upd H a (dX X.prog X.w a ys)) a (putK kvs k v) → Q () s') : wpAny (model X.prog X.w) A (setItem (.ref a) u r) Q E s := by
  cases (show u = Value.ref b from ry)
  obtain ⟨hd, xs, e, rel, dd⟩ := dx_at I d
  have hl : xs.length ≤ sizeLine := by rw [← Paired.length rel]; omega
  exact wpAny_setItem_heap (hsz := hl) (tupleKind_room_in1 hu) (keyC I eb) dd fun h' dd' hs => by
    obtain ⟨J, d'⟩ := dx_put (t' := s.toks + (tupleKind (mixKind X.prog X.w)).draws k) I e rel hz hd eb rv dd' hs
    exact h _ _ J d'
theorem isSI_C {p : Str × Int} (I : Inv X pins σ H s) (e : SqT X.K H b [.str p.1, .int p.2]) : IsSI s.heap (.ref b) p := by
  obtain ⟨its, rel, ⟨o, h1, h2, n, h3⟩, _⟩ := I.tuple e
  cases rel with
  | cons ra rest =>
    cases rest with
    | cons rb rest =>
      cases rest
      obtain ⟨t1, e1⟩ := (show ∃ t, _ = Value.str p.1 t from ra)
      obtain ⟨t2, e2⟩ := (show ∃ t, _ = Value.int p.2 t from rb)
      subst e1 e2
      exact ⟨b, o, t1, t2, n, rfl, h1, h2, h3⟩
end
section
variable {X : Cx}
def rSortedX (P : Program) (w : World) (K : PySem.W.Frag) : List V → Hp → VK → Prop := fun xs H Q => ∃ (a : Addr) (m : List ((Str × Int) × V)), xs = [.ref a] ∧ DS P w K H a (m.map fun e => (eK e.1, e.2)) ∧
  ∀ (ps : List (Addr × (Str × Int))) (p : Addr), AsS K H ps → SrtO.Srtd ltSI (ps.map (·.2)) → (ps.map (·.2)).Perm (m.map (·.1)) → H p = none → Q (.ref p) (upd H p (.lst (ps.map fun z => V.ref z.1)))
theorem cr_sortedX (hcalm : X.calm = true) : CallR X (.builtin "sorted") (rSortedX X.prog X.w X.K) := by
  intro pins s σ H xs us Q I r q
  obtain ⟨a, m, rfl, hd, q⟩ := q
  obtain ⟨u, rfl, rx⟩ := vals1 r
  cases rx
  have z := hd.1
  obtain ⟨hs, ks, _, pr, o, es, ep, ho, hx, hdt, he, _, hn⟩ := dx_at I hd
  have l1 : es.size = ks.length := size_of_entries he
  have l2 : (m.map fun e => (eK e.1, e.2)).length = ks.length := Paired.length pr
  have l3 : m.length = ks.length := by simpa using l2
  refine Calls.call_function_entry PyProof.Rows.kind_sorted PyProof.Rows.plain_sorted PyProof.Rows.entry_sorted (PyProof.Rows.args_sorted1 _) ?_
  unfold Builtin.«sorted»
  refine wpAny_bind (m := checkCount "sorted" 1 1 _) (wpAny_pure ?_)
  refine wpAny_bind (PySem.W.kdu_collect (A := X.A.in1) (kdl_raw hs hx hdt) (I.ok.hd hcalm) ho (by omega) fun h' tk acc hk it => ?_)
  have ea : acc.toList = (ks.map fun x => x.2.1).map Value.ref := by
    have hl : acc.toList.length = ks.length := by rw [Array.length_toList, it.1]; exact l1
    apply List.ext_getElem?
    intro j
    rw [List.map_map, List.getElem?_map]
    cases hj : acc.toList[j]? with
    | none =>
      have h1 := List.getElem?_eq_none_iff.mp hj
      rw [List.getElem?_eq_none (by omega)]
      rfl
    | some v =>
      obtain ⟨en, hen, hv⟩ := it.2 j v (by rw [← Array.getElem?_toList]; exact hj)
      have qe := entry_at he j
      rw [hen] at qe
      cases hb : ks[j]? with
      | none =>
        rw [hb] at qe
        exact nomatch (show some en = none from qe)
      | some b =>
        rw [hb] at qe
        have e2 : en = entryOfKey (tupleKind (mixKind X.prog X.w)) b := Option.some.inj qe
        rw [hv, e2]
        rfl
  have I1 : Inv X pins σ H { s with heap := h', toks := tk } := I.kept hk
  obtain ⟨ps0, a1, a2, a3⟩ := kts_as pr
  have eb : acc.toList = ps0.map fun z => Value.ref z.1 := by rw [ea, ← a3, List.map_map]; rfl
  have hal : acc.toList.length ≤ sizeLine := by
    rw [Array.length_toList, it.1]; omega
  refine wpAny_bind (wpAny_newList ?_ hal)
  have hoL : (h'.push (seqObj "list" acc.toList.toArray 0)).get? h'.objs.size = some (seqObj "list" acc.toList.toArray 0) := Heap.get?_push_size _ rfl
  have hsi : ∀ v ∈ acc.toList, IsSI (h'.push (seqObj "list" acc.toList.toArray 0)) v (siOf s.heap v) := fun v hv => by
    rw [eb] at hv
    obtain ⟨zz, hz, rfl⟩ := List.mem_map.mp hv
    have q := isSI_C I (a1 zz hz)
    rw [q.of]
    exact (isSI_C I1 (a1 zz hz)).keeps fun b ob e _ => Heap.get?_push_of_some _ e
  show wpAny _ _ _ _ _ { s with heap := h'.push (seqObj "list" acc.toList.toArray 0), toks := tk }
  refine wpAny_bind (wpAny_holding (wpAny_call_entry PyProof.Rows.slot_list_sort ⟨_, hoL, rfl⟩ PyProof.Rows.entry_list_sort
    (SrtO.list_sort_ord (ltv := fun v u => ltSI (siOf s.heap v) (siOf s.heap u)) (s := { s with heap := h'.push (seqObj "list" acc.toList.toArray 0), toks := tk }) (swo_SI (siOf s.heap)) hoL hal (fun h2 => si_sortable (by omega) hsi fun ob e => by
      have e' := e.symm.trans hoL
      cases e'
      intro c
      exact absurd (Value.type.inj c) (by decide)) fun out h1 h2 => ⟨_, rfl, ?_⟩)
    (PyProof.Rows.args_list_sort _)))
  obtain ⟨ps, b1, b2⟩ := perm_lift (fun z : Addr × (Str × Int) => Value.ref z.1) h2.perm ps0 eb.symm
  have hAs : AsS X.K H ps := fun z hz => a1 z (b1.mem_iff.mp hz)
  have hk2 : ∀ z ∈ ps, siOf s.heap (Value.ref z.1) = z.2 := fun z hz => (isSI_C I (hAs z hz)).of
  have hsr : SrtO.Srtd ltSI (ps.map (·.2)) := by
    rw [← b2] at h1
    have h1' := List.pairwise_map.mp h1
    refine List.pairwise_map.mpr (h1'.imp_of_mem fun {x y} hx hy hh => ?_)
    have hh' : ltSI (siOf s.heap (Value.ref y.1)) (siOf s.heap (Value.ref x.1)) = false := hh
    rw [hk2 x hx, hk2 y hy] at hh'
    exact hh'
  obtain ⟨e', he'⟩ := PyProof.Rows.sortedHeap_at (vs := acc.toList) (out := out.toArray) hoL
  have hlen : (ps.map fun z => V.ref z.1).length ≤ sizeLine := by
    rw [List.length_map, b1.length_eq]
    have : ps0.length = acc.toList.length := by rw [eb, List.length_map]
    omega
  refine wpAny_pure ⟨_, rfl, .ref h'.objs.size, upd H h'.objs.size (.lst (ps.map fun z => V.ref z.1)), I1.laid (t' := tk) (fun b u e => ?_) (Nat.le_refl _)
    (show ObjOk X.prog X.w _ _ _ (.lst _) from ⟨hlen, out, e', ?_, he'⟩), rfl, q ps _ hAs hsr ((b1.map _).trans (by rw [a2])) (I1.hok.fresh (Nat.le_refl _))⟩
  · have hb : b < h'.objs.size := Heap.lt_size e
    rw [PyProof.Rows.sortedHeap_old (Nat.ne_of_lt hb) (by rw [size_push']; exact Nat.lt_succ_of_lt hb)]
    exact Heap.get?_push_of_some _ e
  · rw [← b2]
    have := vals_refs (ps.map (·.1))
    rw [List.map_map, List.map_map] at this
    exact this
end
end Es
namespace Es
open PySem PySem.Spec PyProof.Rows L2 L2.DX Bd
section
variable {X : Cx}
/-- tuple(d.items()): a row of pairs (asset, value) -/
def rTupX (P : Program) (w : World) (K : PySem.W.Frag) : List V → Hp → VK → Prop := fun vs H Q => ∃ (p a : Addr) (m : List ((Str × Int) × V)), vs = [.ref p] ∧ H p = some (itemsO p a) ∧ DS P w K H a (m.map fun e => (eK e.1, e.2)) ∧
  ∀ (H' : Hp) (q : Addr) (zs : List (Addr × ((Str × Int) × V))), (∀ b o, H b = some o → H' b = some o) → H q = none → zs.map (·.2) = m → H' q = some (.tup (zs.map fun z => V.ref z.1)) →
    (∀ z ∈ zs, ∃ kq, H' z.1 = some (.tup [.ref kq, z.2.2]) ∧ SqT K H' kq [.str z.2.1.1, .int z.2.1.2]) → Q (.ref q) H'
theorem cr_tupX (hc : X.calm = true) : CallR X (.type "tuple") (rTupX X.prog X.w X.K) := by
  intro pins s σ H xs us Q I r h
  obtain ⟨p, a, m, rfl, hp, ha, q⟩ := h
  obtain ⟨u, rfl, ru⟩ := vals1 r
  obtain rfl : u = Value.ref p := ru
  have view : s.heap.IsItemsView p a := (show ObjOk X.prog X.w H s.heap p (itemsO p a) from I.hok p _ hp).1
  have z := ha.1
  obtain ⟨hd, xs', _, rel, o, es, ep, ho, hx, hdat, hes, his, hn⟩ := dx_at I ha
  have l1 : (m.map fun e => (eK e.1, e.2)).length = xs'.length := Paired.length rel
  rw [List.length_map] at l1 z
  have l2 : es.size = xs'.length := size_of_entries hes
  refine call_tuple_items (es := es) (ep := ep) (I.ok.hd hc) view ⟨o, ho, hx, hdat⟩ (by omega) fun h' tk as hk hlt hl hG => ?_
  have lam : as.length = m.length := by omega
  have nd : as.Nodup := List.Pairwise.imp (fun h => Nat.ne_of_lt h) hG.rise
  have hN : s.heap.objs.size < h'.objs.size := hlt
  generalize hh : h'.push { cls := .type "tuple", data := .seq (as.map Value.ref).toArray } = h2
  have ka : ∀ b o, h'.get? b = some o → h2.get? b = some o := fun b o e => by rw [← hh]; exact Heap.get?_push_of_some _ e
  have hob : h2.get? h'.objs.size = some { cls := .type "tuple", data := .seq (as.map Value.ref).toArray } := by rw [← hh]; exact Heap.get?_push_size _ rfl
  have I1 : Inv X pins σ H { s with heap := h2, toks := tk } := I.kept (t' := tk) fun b o e => ka _ _ (hk b o e)
  have hn0 : H h'.objs.size = none := I.hok.fresh (Nat.le_of_lt hN)
  have I2 : Inv X pins σ (upd H h'.objs.size (.tup (as.map V.ref))) { s with heap := h2, toks := tk } :=
    I1.take (h' := h2) (t' := tk) (fun b ob _ e => e) (I.fpOk (Nat.le_of_lt hN) hn0) ⟨by rw [List.length_map]; omega, as.map Value.ref, vals_refs as, ⟨_, hob, rfl, 0, rfl⟩⟩
  obtain ⟨H2, I3, g, qt⟩ := takeT (P := fun b vs => ∃ (j : Nat) (e : (Str × Int) × V) (kq : Addr), as[j]? = some b ∧ m[j]? = some e ∧ vs = [.ref kq, e.2] ∧ SqT X.K H kq [.str e.1.1, .int e.1.2]) I as _ I2 nd fun b hb => by
    obtain ⟨j, hj⟩ := List.mem_iff_getElem?.mp hb
    obtain ⟨en, he, hg⟩ := hG.pairs j b hj
    rw [entry_at hes j] at he
    cases hxj : xs'[j]? with
    | none =>
      rw [hxj] at he
      exact nomatch (show (none : Option DictEntry) = some en from he)
    | some x =>
      rw [hxj] at he
      have een : entryOfKey (tupleKind (mixKind X.prog X.w)) x = en := Option.some.inj he
      obtain ⟨e0, he0, r1, r2, r3⟩ := pget rel hxj
      rw [List.getElem?_map] at he0
      cases hkj : m[j]? with
      | none =>
        rw [hkj] at he0
        exact nomatch (show (none : Option (List L2.Key × V)) = some e0 from he0)
      | some e =>
        rw [hkj] at he0
        have ee : (eK e.1, e.2) = e0 := Option.some.inj he0
        rw [← ee] at r2 r3
        have hbl : s.heap.objs.size ≤ b := Nat.le_of_lt (hG.above b hb)
        have hbn : b ≠ h'.objs.size := Nat.ne_of_lt (Heap.lt_size hg)
        refine ⟨hbl, by rw [upd_ne hbn]; exact I.hok.fresh hbl, [.ref x.2.1, e.2], ⟨j, e, x.2.1, hj, hkj, rfl, r2⟩, fun H3 => ⟨by rw [sizeLine_eq]; show 2 ≤ 16777216; omega, [Value.ref x.2.1, x.2.2], .cons rfl (.cons r3 .nil), ⟨_, ka _ _ hg, rfl, 0, ?_⟩⟩⟩
        rw [← een]
        rfl
  have gr : ∀ b o, H b = some o → H2 b = some o := fun b o e => g b o (by rw [upd_ne (ne_of_none e hn0)]; exact e)
  refine ⟨.ref h'.objs.size, H2, I3, rfl, q H2 h'.objs.size (as.zip m) gr hn0 (List.map_snd_zip (by omega)) ?_ fun z' hz' => ?_⟩
  · have e1 : ((as.zip m).map fun z => V.ref z.1) = as.map V.ref := by
      have := List.map_fst_zip (l₁ := as) (l₂ := m) (by omega)
      conv => rhs; rw [← this]
      rw [List.map_map]; rfl
    rw [e1]
    exact g _ _ upd_same
  · obtain ⟨i, hi⟩ := List.mem_iff_getElem?.mp hz'
    obtain ⟨i1, i2⟩ := List.getElem?_zip_eq_some.mp hi
    obtain ⟨vs, ⟨j, e, kq, j1, j2, ev, hkq⟩, hH⟩ := qt z'.1 (List.mem_of_getElem? i1)
    have eij : i = j := (List.getElem?_inj (List.getElem?_eq_some_iff.mp i1).1 nd).mp (i1.trans j1.symm)
    subst eij
    have ee : e = z'.2 := Option.some.inj (j2.symm.trans i2)
    rw [ev, ee] at hH
    rw [ee] at hkq
    exact ⟨kq, hH, Rd.same_tup gr hkq⟩
end
end Es
namespace Es
open PySem PySem.Spec PyProof.Rows L2 Bd
section
variable {X : Cx} {pins : List (Addr × Obj)} {σ : L2.St} {H : Hp} {s : Shared} {a b : Addr} {k : List Key} {kvs : List (List Key × V)} {y v : V} {u r : Value} {A : Around} {E : Value → Shared → Prop}
theorem dX_new {P : Program} {w : World} {H : Hp} (h : Heap) (hb : sysModules < h.objs.size) : ObjOk P w H (h.push { cls := .type "dict", data := .dict #[] }) h.objs.size (dX P w h.objs.size []) :=
  dX_ok (beq_eq_false_iff_ne.mpr (Ne.symm (Nat.ne_of_lt hb))) ⟨_, #[], 0, Heap.get?_push_size _ rfl, ⟨rfl, rfl, rfl⟩, rfl, rfl, List.nodup_nil⟩
theorem DS.nil {P : Program} {w : World} {K : PySem.W.Frag} {a : Addr} {H : Hp} : DS P w K (upd H a (dX P w a [])) a [] := ⟨Nat.zero_le _, [], upd_same, .nil⟩
theorem dx_dset {Q : Unit → Shared → Prop} (hu : X.A.units + 1 < cLine) (I : Inv X pins σ H s) (d : DS X.prog X.w X.K H a kvs) (hz : kvs.length < sizeLine) (eb : SqT X.K H b (k.map kV)) (ry : RelV (.ref b) u) (rv : RelV v r)
    (h : ∀ s' ys, Inv X pins σ (upd H a (dX X.prog X.w a ys)) s' → DS X.prog X.w X.K (upd H a (dX X.prog X.w a ys)) a (putK kvs k v) → Q () s') : wpAny (model X.prog X.w) X.A (dictSet a u r) Q E s := by
  cases (show u = Value.ref b from ry)
  obtain ⟨hd, xs, e, rel, dd⟩ := dx_at I d
  have hl : xs.length ≤ sizeLine := by rw [← Paired.length rel]; omega
  exact wpAny_dictSet_heap (hsz := hl) (show (tupleKind (mixKind X.prog X.w)).room X.A from (show X.A.units < cLine by omega)) (keyC I eb) dd fun h' dd' hs => by
    obtain ⟨J, d'⟩ := dx_put (t' := s.toks + (tupleKind (mixKind X.prog X.w)).draws k) I e rel hz hd eb rv dd' hs
    exact h _ _ J d'
end
section
variable {X : Cx}
def DcX (P : Program) (w : World) (K : PySem.W.Frag) (g : TG) (tt : TT) (tk tv : TE) (vs : List Nat) (σ : L2.St) (Q : VK) (J : It) (H1 : Hp) : Prop := ∀ D, H1 D = none → ∃ W : Nat → Nat → Hp → Prop, (∃ m, W 0 m (upd H1 D (dX P w D []))) ∧ ∀ i m H, W i m H →
  (J.stop i H ∧ Q (.ref D) H) ∨ (J.go i H ∧ ∃ Nx : Hp → Prop, (∀ H', Nx H' → ∃ m', m' < m ∧ W (i + 1) m' H') ∧ ∀ x H', J.yld i H x H' → g x (wipe σ vs) H' fun σ2 H2 => wipe σ2 vs = wipe σ vs ∧ tt σ2 H2 fun t H3 =>
    if t = true then tk σ2 H3 fun y H4 => tv σ2 H4 fun z H5 => ∃ kvs k b, y = .ref b ∧ SqT K H5 b (k.map kV) ∧ DS P w K H5 D kvs ∧ kvs.length < sizeLine ∧ (∀ ys, DS P w K (upd H5 D (dX P w D ys)) D (putK kvs k z) → Nx (upd H5 D (dX P w D ys))) else Nx H3)
def tDcX (P : Program) (w : World) (K : PySem.W.Frag) (wi : TI) (g : TG) (tt : TT) (tk tv : TE) (vs : List Nat) : TE := fun σ H Q => wi σ H fun J H1 => DcX P w K g tt tk tv vs σ Q J H1
theorem pe_dcX {kx vx tg iter : Expr} {ifs : List Expr} {scope : Scope} {own : List (Str × Nat)} {pos : Pos} {wi : TI} {g : TG} {tt : TT} {tk tv : TE} (hu : X.A.units + 1 < cLine) (hc : X.calm = true) (hN : X.N.Nodup) (hi : PI X tg iter wi) (ok : BlkOk X.N X.env.scope scope own)
    (hg : ∀ (s : Shared) (H : Hp) (C : Addr) (cl : List (Str × Addr)) (fp : List Addr), PG (X.blk s H scope (compEnvC scope cl C X.env) fp) tg g) (ht : ∀ (s : Shared) (H : Hp) (C : Addr) (cl : List (Str × Addr)) (fp : List Addr), PTs (X.blk s H scope (compEnvC scope cl C X.env) fp) ifs tt)
    (hk : ∀ (s : Shared) (H : Hp) (C : Addr) (cl : List (Str × Addr)) (fp : List Addr), PE (X.blk s H scope (compEnvC scope cl C X.env) fp) kx tk)
    (he : ∀ (s : Shared) (H : Hp) (C : Addr) (cl : List (Str × Addr)) (fp : List Addr), PE (X.blk s H scope (compEnvC scope cl C X.env) fp) vx tv) (hs : ∀ x, foldedSetIterable iter X.env x = pure x := by intro _; rfl) :
    PE X (.DictComp kx vx [⟨tg, iter, ifs, 0⟩] scope pos) (tDcX X.prog X.w X.K wi g tt tk tv (own.map (·.2))) := by
  refine ⟨fun pins s σ H Q I h => ?_⟩
  rw [arm_eval_DictComp]
  have free : ∀ y ∈ scope.names, y.2 = .free → ∃ c, X.env.cells.lookup y.1 = some c := fun y hy e => by
    rcases ok.free y hy e with k | k
    · exact I.ok.has _ (.inl k)
    · exact I.ok.has _ (.inr k)
  refine wpAny_comprehension_free rfl hs (closure_ok free) ok.kind (fun y hy e => by rw [ok.uniq y hy, e]) (thn (hi.run pins s σ H _ I h) fun xv s1 hx => thn hx fun itv s2 h2 => ?_)
  obtain ⟨it, fp, tn, J, H2, rfl, I2, T, st2, f2, q⟩ := h2
  -- the dict that is made, at D
  obtain ⟨D, hD⟩ : ∃ D : Addr, D = s2.heap.objs.size := ⟨_, rfl⟩
  have D0 : H2 D = none := I2.hok.fresh (Nat.le_of_eq hD.symm)
  obtain ⟨W, ⟨m0, w0⟩, turn⟩ := q D D0
  refine wpAny_newObj_type (newEnv_comp ?_)
  rw [← hD]
  obtain ⟨s3, e3⟩ : ∃ s3 : Shared, s3 = { s2 with heap := s2.heap.push { cls := .type "dict", data := .dict #[] } } := ⟨_, rfl⟩
  have p3 : ∀ b o, s2.heap.get? b = some o → s3.heap.get? b = some o := fun b o e => by rw [e3]; exact Heap.get?_push_of_some _ e
  have I3 : Inv X pins σ (upd H2 D (dX X.prog X.w D [])) s3 := by
    rw [e3]
    exact I2.laid (t' := s2.toks) (fun b o e => Heap.get?_push_of_some _ e) (Nat.le_of_eq hD.symm) (by rw [hD]; exact dX_new s2.heap I2.big)
  have f3 : ∀ b ∈ fp, FpOk X pins (upd H2 D (dX X.prog X.w D [])) b ∧ b < s3.heap.objs.size := fun b hb => by
    obtain ⟨o, e, _⟩ := T.obj _ _ st2 b hb
    exact ⟨⟨by rw [upd_ne (by rw [hD]; exact Nat.ne_of_lt (Heap.lt_size e))]; exact (f2 b hb).1, (f2 b hb).2⟩, Heap.lt_size (p3 b o e)⟩
  have I4 := block_start I3 ok hN f3
  have pg := hg s3 (upd H2 D (dX X.prog X.w D [])) s3.heap.objs.size (cellsFrom (s3.heap.objs.size + 1) scope.names (cloFrom X.env.cells scope.names [])) fp
  have pt := ht s3 (upd H2 D (dX X.prog X.w D [])) s3.heap.objs.size (cellsFrom (s3.heap.objs.size + 1) scope.names (cloFrom X.env.cells scope.names [])) fp
  have pk := hk s3 (upd H2 D (dX X.prog X.w D [])) s3.heap.objs.size (cellsFrom (s3.heap.objs.size + 1) scope.names (cloFrom X.env.cells scope.names [])) fp
  have pe := he s3 (upd H2 D (dX X.prog X.w D [])) s3.heap.objs.size (cellsFrom (s3.heap.objs.size + 1) scope.names (cloFrom X.env.cells scope.names [])) fp
  rw [← e3]
  show codeAny _ _ (.compStart (.DictComp kx vx [⟨tg, iter, ifs, 0⟩] scope pos) 0 (.ref it) (.ref D) (compEnvC scope (cellsFrom (s3.heap.objs.size + 1) scope.names (cloFrom X.env.cells scope.names [])) s3.heap.objs.size X.env))
    (compPost (model X.prog X.w) X.A X.xe none (EP X pins σ Q) (.ref D) s3.heap.objs.size) { s3 with heap := pushCells (s3.heap.push { cls := .type "dict", data := .dict #[] }) scope.names }
  have nf : ∀ b ∈ fp, (upd H2 D (dX X.prog X.w D [])) b = none := fun b hb => (f3 b hb).1.1
  have t4 : tn 0 (pushCells (s3.heap.push { cls := .type "dict", data := .dict #[] }) scope.names) := T.keep _ _ _ st2 fun b _ o e => pushCells_keeps _ _ _ _ (Heap.get?_push_of_some _ (p3 b o e))
  generalize hce : compEnvC scope (cellsFrom (s3.heap.objs.size + 1) scope.names (cloFrom X.env.cells scope.names [])) s3.heap.objs.size X.env = ce at I4 pg pt pk pe ⊢
  have cL : ce.locals = s3.heap.objs.size := by rw [← hce]; rfl
  generalize upd H2 D (dX X.prog X.w D []) = H3 at I3 f3 I4 pg pt pk pe nf w0
  generalize hs4 : ({ s3 with heap := pushCells (s3.heap.push { cls := .type "dict", data := .dict #[] }) scope.names } : Shared) = s4 at I4 ⊢
  have t4' : tn 0 s4.heap := by rw [← hs4]; exact t4
  -- the iterator's objects stand outside of the block
  have outer : ∀ {σ' : L2.St} {H' : Hp} {s' : Shared}, Inv (X.blk s3 H3 scope ce fp) [] σ' H' s' → (∀ b ∈ fp, H' b = none) → ∀ b ∈ fp, FpOk (X.blk s3 H3 scope ce fp) [] H' b := fun {σ' H' s'} J n b hb =>
    ⟨n b hb, (J.ok.exf b hb).1, J.ok.exfs b hb, .inl hb, fun x c e => (J.ok.exf b hb).2 x c e, fun p hp => absurd (show p ∈ ([] : List (Addr × Obj)) ++ [] from hp) (by simp)⟩
  have loop : codeAny (model X.prog X.w) X.A (.compLoop (.DictComp kx vx [⟨tg, iter, ifs, 0⟩] scope pos) 0 (.ref it) (.ref D) ce) (compPost (model X.prog X.w) X.A X.xe none (EP X pins σ Q) (.ref D) s3.heap.objs.size) s4 := by
    refine compLoop_anyD (fun n s' => ∃ i H', Inv (X.blk s3 H3 scope ce fp) [] (wipe σ (own.map (·.2))) H' s' ∧ tn i s'.heap ∧ (∀ b ∈ fp, H' b = none) ∧ W i n H') ?_ m0 ⟨0, H3, I4, t4', nf, w0⟩
    rintro n s5 ⟨i, H5, I5, t5, n5, w5⟩
    rcases turn i n H5 w5 with ⟨stop, fin⟩ | ⟨go, Nx, hNx, step⟩
    · -- the walk is at its end: the def goes on
      refine thnF (T.done (X.blk s3 H3 scope ce fp) rfl rfl rfl hc i [] s5 _ H5 (fun _ _ => False) I5 (outer I5 n5) t5 stop) fun r s6 ⟨hr, I6⟩ => ?_
      subst hr
      have I7 : Inv X pins σ H5 s6 := I3.call' (ch := fp) I6.os I6.base I6.hok I6.bare fun b hb => ⟨(f3 b hb).1.2.2.2.1, (f3 b hb).1.2.1, (f3 b hb).1.2.2.2.2.1, (f3 b hb).1.2.2.2.2.2⟩
      have nC : H5 s3.heap.objs.size = none := by rw [← cL]; exact I6.free
      obtain ⟨m, hn, _⟩ := I6.loc
      have hn' : s6.heap.Ns s3.heap.objs.size m := by rw [← cL]; exact hn
      obtain ⟨g0, g1, g2, g3, g4, g5⟩ := I3.fpOk (Nat.le_refl _) nC
      exact ⟨m, hn', fun h'' sb => ⟨.ref D, H5, I7.turned (t' := s6.toks) (fun b o hb e => (sb.2 b hb).trans e) g0 g1 g3 g4 g5, rfl, fin⟩⟩
    · -- one more turn
      refine thnF (T.item (X.blk s3 H3 scope ce fp) rfl rfl rfl hc i [] s5 _ H5 (fun _ _ => False) I5 (outer I5 n5) t5 go) fun r s6 ⟨u, hr, h6⟩ => ?_
      subst hr
      refine thnF h6 fun _ s7 ⟨x, H7, I7, r7, y7, t7, n7⟩ => ?_
      have I7' := I7.pinned (outer I7 n7) (T.obj _ _ t7)
      refine thnF (pg.run _ s7 _ H7 x u _ I7' r7 (step x H7 y7)) fun _ s8 ⟨σ8, H8, I8, w8, q8⟩ => ?_
      refine thnF (pt.run _ s8 σ8 H8 _ I8 q8) fun b s9 ⟨H9, I9, q9⟩ => ?_
      have again : ∀ {s' : Shared} {H' : Hp}, Inv (X.blk s3 H3 scope ce fp) ([] ++ pinsAt fp s7.heap) σ8 H' s' → Nx H' → ∃ m, m < n ∧ ∃ i H', Inv (X.blk s3 H3 scope ce fp) [] (wipe σ (own.map (·.2))) H' s' ∧ tn i s'.heap ∧ (∀ b ∈ fp, H' b = none) ∧ W i m H' := by
        intro s' H' J nx
        obtain ⟨m', hm, w'⟩ := hNx H' nx
        have stay : ∀ b ∈ fp, ∀ o, s7.heap.get? b = some o → s'.heap.get? b = some o ∧ H' b = none := fun b hb o e => by
          have z := J.pin (b, o) (List.mem_append_right _ (List.mem_append_right _ (mem_pinsAt hb e)))
          exact ⟨z.1, z.2.1⟩
        refine ⟨m', hm, i + 1, H', (J.unpinned (pins := [])).weak (by rw [← w8, wipe_length]) (fun j v e => ?_), T.keep _ _ _ t7 fun b hb o e => (stay b hb o e).1, fun b hb => ?_, w'⟩
        · rw [← w8] at e; exact (wipe_some e).1
        · obtain ⟨o, e, _⟩ := T.obj _ _ t7 b hb
          exact (stay b hb o e).2
      cases b with
      | false =>
        simp only [Bool.false_eq_true, if_false] at q9 ⊢
        exact again I9 q9
      | true =>
        simp only [if_true] at q9 ⊢
        refine thnF (pk.run _ s9 σ8 H9 _ I9 q9) fun ky s10 ⟨yk, H10, I10, r10, q10⟩ => ?_
        refine thnF (pe.run _ s10 σ8 H10 _ I10 q10) fun vv s11 ⟨yv, H11, I11, r11, kvs, k, kb, ek, hkb, hD11, hz11, nx⟩ => ?_
        subst ek
        exact dx_dset (X := X.blk s3 H3 scope ce fp) hu I11 hD11 hz11 hkb r10 r11 fun s12 ys I12 d12 => again I12 (nx ys d12)
  exact codeAny_compStart_dict loop (T.self X.A 0 _ _ _ t4' loop)
end
/-- d[y] -/
def tDGetX (P : Program) (w : World) (K : PySem.W.Frag) (td ty : TE) : TE := fun σ H Q => td σ H fun x H1 => ty σ H1 fun y H2 => ∃ a v, x = .ref a ∧ GX P w K H2 a y (some v) ∧ Q v H2
/-- d.get(y, z) -/
def tDGet2X (P : Program) (w : World) (K : PySem.W.Frag) (td ty tx : TE) : TE := fun σ H Q => td σ H fun x H1 => ∃ a, x = .ref a ∧ (∃ kvs, DS P w K H1 a kvs) ∧ ty σ H1 fun y H2 => tx σ H2 fun z H3 => ∃ o, GX P w K H3 a y o ∧ Q (o.getD z) H3
/-- y in d -/
def tDInX (P : Program) (w : World) (K : PySem.W.Frag) (ty td : TE) : TE := fun σ H Q => ty σ H fun y H1 => td σ H1 fun x H2 => ∃ a o, x = .ref a ∧ GX P w K H2 a y o ∧ Q (.bl o.isSome) H2
/-- d[y] = v -/
def sDPutX (P : Program) (w : World) (K : PySem.W.Frag) (td ty tv : TE) : TS := fun D σ H => tv σ H fun v H1 => td σ H1 fun x H2 => ty σ H2 fun y H3 => ∃ a kvs k b, x = .ref a ∧ y = .ref b ∧ DS P w K H3 a kvs ∧ kvs.length < sizeLine ∧
  SqT K H3 b (k.map kV) ∧ ∀ ys, DS P w K (upd H3 a (dX P w a ys)) a (putK kvs k v) → D.nx σ (upd H3 a (dX P w a ys))
/-- {} -/
def tDNewX (P : Program) (w : World) (K : PySem.W.Frag) : TE := fun _ H Q => ∀ p, H p = none → DS P w K (upd H p (dX P w p [])) p [] → Q (.ref p) (upd H p (dX P w p []))
section
variable {X : Cx} {o i e f value : Expr} {pos pos' apos cpos : Pos} {td ty tv tx : TE}
theorem dx_typeIs {pins : List (Addr × Obj)} {σ : L2.St} {H : Hp} {s : Shared} {a : Addr} {kvs : List (List Key × V)} (I : Inv X pins σ H s) (d : DS X.prog X.w X.K H a kvs) :
    s.TypeIs (.ref a) "dict" ∧ ∀ b, Value.ref a = .ref b → ∃ ob, s.heap.get? b = some ob ∧ ob.dict = none := by
  obtain ⟨_, xs, _, _, dd⟩ := dx_at I d
  refine ⟨dd.typeIs, fun b q => ?_⟩
  cases q
  obtain ⟨ob, _, _, h1, h2, _⟩ := dd
  exact ⟨ob, h1, h2.2.1⟩
theorem pe_dgetX (hu : X.A.units + 1 < cLine) (ho : PE X o td) (hi : PE X i ty) (hs : NoSl i) : PE X (.Subscript o i pos) (tDGetX X.prog X.w X.K td ty) := by
  refine ⟨fun pins s σ H Q I h => ?_⟩
  refine subD_of PySem.F.slot_dict_getitem.lookup hs (thn (ho.run pins s σ H _ I h) fun u s1 ⟨x, H1, I1, rx, q1⟩ => thn (hi.run pins s1 σ H1 _ I1 q1) fun iv s2 ⟨y, H2, I2, ry, a, v, ex, g, q2⟩ => ?_)
  subst ex
  obtain rfl : u = Value.ref a := rx
  have t := dx_typeIs I2 g.choose_spec.choose_spec.choose_spec.1
  exact ⟨t.1, dx_get hu I2 g ry fun w' s3 I3 rw' => ⟨v, H2, I3, rw', q2⟩⟩
theorem pc_dinX (hu : X.A.units + 1 < cLine) (hi : PE X i ty) (ho : PE X o td) : PC X .In i o (tDInX X.prog X.w X.K ty td) := by
  refine ⟨fun pins s σ H Q I h => ?_⟩
  refine thn (hi.run pins s σ H _ I h) fun iv s1 ⟨y, H1, I1, ry, q1⟩ => thn (ho.run pins s1 σ H1 _ I1 q1) fun u s2 ⟨x, H2, I2, rx, a, ov, ex, g, q2⟩ => ?_
  subst ex
  obtain rfl : u = Value.ref a := rx
  exact dx_in hu I2 g ry fun s3 I3 => ⟨.bl ov.isSome, H2, I3, rfl, q2⟩
theorem pe_dget2X (hu : X.A.units + 1 < cLine) (ho : PE X o td) (he : PE X e ty) (hf : PE X f tx) (m : M2 X o "get" apos e f cpos) : PE X (.Call (.Attribute o "get" apos) [e, f] [] cpos) (tDGet2X X.prog X.w X.K td ty tx) := by
  refine ⟨fun pins s σ H Q I h => ?_⟩
  refine wpAny_Call_method m.base m.few m.line PySem.F.plainAttrs_dict PySem.F.slot_dict_get PySem.F.type_dict_get (thn (ho.run pins s σ H _ I h) fun u s1 ⟨x, H1, I1, rx, a, ex, ⟨kvs, d⟩, q1⟩ => ?_)
  subst ex
  obtain rfl : u = Value.ref a := rx
  obtain ⟨t1, t2⟩ := dx_typeIs I1 d
  refine ⟨t1, t2, ?_⟩
  rw [m.trees]
  refine Calls.callWith_builtin rfl (Calls.evalArgs_plain (Calls.spliced_cons (thn (he.run pins s1 σ H1 _ I1 q1) fun iv s2 ⟨y, H2, I2, ry, q2⟩ =>
    Calls.spliced_cons (thn (hf.run pins s2 σ H2 _ I2 q2) fun fv s3 ⟨z, H3, I3, rz, ov, g, q3⟩ => Calls.spliced_nil ?_))))
  exact dx_get2 hu I3 g ry rz fun w' s4 I4 rw' => ⟨_, H3, I4, rw', q3⟩
theorem ps_dputX (hu : X.A.units + 1 < cLine) (ho : PE X o td) (hi : PE X i ty) (hv : PE X value tv) (hs : swapsWith value (some (.Subscript o i pos')) pos.line X.env = pure false) :
    PS X (.Assign [.Subscript o i pos'] value pos) (sDPutX X.prog X.w X.K td ty tv) := by
  refine ⟨fun pins s σ H D I h => ?_⟩
  refine wpAny_Assign_Subscript (thn (hv.run pins s σ H _ I h) fun r s1 ⟨v, H1, I1, rv, q1⟩ => thn (ho.run pins s1 σ H1 _ I1 q1) fun u s2 ⟨x, H2, I2, rx, q2⟩ => thn (hi.run pins s2 σ H2 _ I2 q2) fun iv s3 ⟨y, H3, I3, ry, a, kvs, k, b, ex, ey, d, hz, eb, q3⟩ => ?_) hs
  subst ex ey
  obtain rfl : u = Value.ref a := rx
  exact dx_set hu I3 d hz eb ry rv fun s4 ys I4 d4 => ⟨σ, _, I4, q3 ys d4⟩
theorem pe_dnewX : PE X (.Dict [] [] pos) (tDNewX X.prog X.w X.K) := ⟨fun pins s σ H Q I h =>
  wpAny_Dict_empty ⟨.ref s.heap.objs.size, _, I.laid (a := s.heap.objs.size) (o := dX X.prog X.w s.heap.objs.size []) (t' := s.toks) (fun _ _ q => Heap.get?_push_of_some _ q) (Nat.le_refl _) (dX_new s.heap I.big), rfl,
    h _ (I.hok.fresh (Nat.le_refl _)) DS.nil⟩⟩
theorem pe_dgetXk {K : PySem.W.Frag} {P : Program} {w : World} (hu : X.A.units + 1 < cLine) (ho : PE X o td) (hi : PE X i ty) (e : X.K = K) (e1 : X.prog = P) (e2 : X.w = w) (hs : NoSl i) : PE X (.Subscript o i pos) (tDGetX P w K td ty) := by
  subst e e1 e2
  exact pe_dgetX hu ho hi hs
/-- d.items() -/
def tItemsX (P : Program) (w : World) (K : PySem.W.Frag) (td : TE) : TE := fun σ H Q => td σ H fun x H1 => ∃ a kvs, x = .ref a ∧ DS P w K H1 a kvs ∧ ∀ p, H1 p = none → Q (.ref p) (upd H1 p (L2.DX.itemsO p a))
theorem pe_ditemsX (ho : PE X o td) (hbase : attributeBase o "items" X.env (eval o X.env) = eval o X.env := by rfl) (hline : (apos.endLine == cpos.line) = true := by rfl) : PE X (.Call (.Attribute o "items" apos) [] [] cpos) (tItemsX X.prog X.w X.K td) := by
  refine ⟨fun pins s σ H Q I h => ?_⟩
  refine wpAny_Call_method0_late hbase hline (thn (ho.run pins s σ H _ I h) fun v s1 ⟨x, H1, I1, r1, a, kvs, ex, d, q⟩ => ?_)
  subst ex
  obtain rfl : v = Value.ref a := r1
  obtain ⟨t1, t2⟩ := dx_typeIs I1 d
  refine ⟨"dict", _, PySem.F.plainAttrs_dict, PySem.F.slot_dict_items, PySem.F.type_dict_items, t1, t2, Calls.callWith_builtin rfl (PySem.evalArgs_none ?_)⟩
  obtain ⟨hd, xs, _, _, o', es, ep, e1, e2, e3, _⟩ := dx_at I1 d
  exact DT.callItems (es := es) (ep := ep) hd ⟨o', e1, e2, e3⟩ ⟨.ref s1.heap.objs.size, upd H1 s1.heap.objs.size (L2.DX.itemsO s1.heap.objs.size a), I1.laid (t' := s1.toks) (fun b u e => Heap.get?_push_of_some _ e) (Nat.le_refl _) (L2.DX.itemsO_ok (Heap.get?_push_size _ rfl)), rfl, q _ (I1.hok.fresh (Nat.le_refl _))⟩
end
end Es

set_option Elab.async false
set_option linter.all false
set_option maxRecDepth 100000
set_option maxHeartbeats 4000000
/-! iter of a tuple; for .. in an object of an own class, by its own __iter__ that gives a tuple's iterator. -/
namespace Bd
open PySem PySem.Spec PyProof.Rows L2
open Builtin Builtin.ObjectAttr
/-- at it an iterator over the tuple at t that has given nothing -/
def TtO (t it : Addr) : HO := .ext fun h => h.get? it = some { cls := .type "tuple_iterator", data := .fields #[.ref t, .int 0 0] }
theorem ttO_ok {P : Program} {w : World} {H : Hp} {h : Heap} {t it : Addr} (e : h.get? it = some { cls := .type "tuple_iterator", data := .fields #[.ref t, .int 0 0] }) : ObjOk P w H h it (TtO t it) := ⟨e, ⟨_, e⟩, fun _ _ q k => k _ q⟩
theorem call_iterTup {prog : Program} {w : World} {A : Around} {E : Value → Shared → Prop} {s : Shared} {t : Addr} {items : Array Value} {Q : Value → Shared → Prop} (ht : s.heap.IsTuple t items)
    (hQ : Q (.ref s.heap.objs.size) { s with heap := s.heap.push { cls := .type "tuple_iterator", data := .fields #[.ref t, .int 0 0] } }) : wpAny (model prog w) A (call (.builtin "iter") [.ref t]) Q E s := by
  refine PySem.Calls.call_function_entry (by decide +kernel) (by decide +kernel) PySem.W.kdk_entry_iter (PySem.W.kdk_args_iter _) ?_
  unfold PySem.Builtin.«iter»
  refine wpAny_bind (m := someArgs "iter" 1 2 _) (wpAny_of_eq (a := [Value.ref t]) (by first | rfl | kernel_rfl!) ?_)
  show wpAny _ _ (pyIter (.ref t) >>= _) _ _ _
  exact wpAny_bind (wpAny_pyIter_tuple ht (wpAny_pure ⟨_, rfl, hQ⟩))
def rIterT (K : PySem.W.Frag) : List V → Hp → VK → Prop := fun xs H Q => ∃ (t : Addr) (zs : List V), xs = [.ref t] ∧ SqT K H t zs ∧ ∀ it, H it = none → (∀ z o, H z = some o → z < it) → Q (.ref it) (upd H it (TtO t it))
/-- {}, and it is younger than the frame -/
def tDNewN (n : Nat) : TE := fun _ H Q => ∀ p, H p = none → n ≤ p → Q (.ref p) (upd H p (.dT []))
/-- list(xs), and it is younger than the frame -/
def rListN (K : PySem.W.Frag) (n : Nat) : List V → Hp → VK → Prop := fun xs H Q => ∃ p ys, xs = [.ref p] ∧ SqL K H p ys ∧ ∀ l, H l = none → n ≤ l → Q (.ref l) (upd H l (.lst ys))
section
variable {X : Cx}
theorem cr_iterT : CallR X (.builtin "iter") (rIterT X.K) := by
  intro pins s σ H xs us Q I r h
  obtain ⟨t, zs, rfl, hq, q⟩ := h
  obtain rfl := Vals.ref1 r
  obtain ⟨its, rv, p, hz⟩ := I.tuple hq
  refine call_iterTup (show s.heap.IsTuple t its.toArray from p) ?_
  refine ⟨.ref s.heap.objs.size, _, I.laid (t' := s.toks) (fun b u e => Heap.get?_push_of_some _ e) (Nat.le_refl _) (ttO_ok (Heap.get?_push_size _ rfl)), rfl, q _ (I.hok.fresh (Nat.le_refl _)) fun z o e => ?_⟩
  obtain ⟨u, hu⟩ := objOk_get (I.hok z o e)
  exact Heap.lt_size hu
theorem pe_dnewN {pos : Pos} : PE X (.Dict [] [] pos) (tDNewN X.s_0.heap.objs.size) := ⟨fun pins s σ H Q I h =>
  wpAny_Dict_empty ⟨.ref s.heap.objs.size, _, I.laid (a := s.heap.objs.size) (o := .dT []) (t' := s.toks) (fun _ _ q => Heap.get?_push_of_some _ q) (Nat.le_refl _) (dt_empty s.heap I.big), rfl, h _ (I.hok.fresh (Nat.le_refl _)) I.sz⟩⟩
theorem call_listN : CallR X (.type "list") (rListN X.K X.s_0.heap.objs.size) := by
  intro pins s σ H xs us Q I r h
  obtain ⟨p, ys, rfl, hq, q⟩ := h
  obtain ⟨u, rfl, rx⟩ := vals1 r
  cases rx
  obtain ⟨its, r', pl, hz⟩ := I.list hq
  have hlen := r'.length
  obtain ⟨o, ho, hc, n, hd⟩ := pl.isList
  refine call_list_seq p (.inl rfl) ho hc hd (fun h' c' kp e => ?_) (by simp only [List.size_toArray] <;> omega)
  exact ⟨.ref s.heap.objs.size, _, I.laid (t' := s.toks) kp (Nat.le_refl _) (show ObjOk X.prog X.w _ h' _ (.lst ys) from ⟨hz, its, c', r', e⟩), rfl, q _ (I.hok.fresh (Nat.le_refl _)) I.sz⟩
variable {pins : List (Addr × Obj)} {σ : L2.St} {H : Hp} {s : Shared} {CT : CXT} {n : Nat} {C f : Addr} {fd : FuncData} {ps : List Str} {sp : Sp} {E : XK} {tg e : Expr} {te : TE}
/-- e an object of the class at C, walked by its own __iter__ -/
def iOwn (K : PySem.W.Frag) (n : Nat) (C : Addr) (sp : Sp) (E : XK) (te : TE) : TI := fun σ H R => te σ H fun x H1 => ∃ a dx fs, x = .ref a ∧ H1 a = some (.ins C dx fs) ∧
  sp [.ref a] H1 (fun v H2 => ∃ it t xs, v = .ref it ∧ n ≤ it ∧ H2 it = some (TtO t it) ∧ SqT K H2 t xs ∧ R (Itt K t) (ItX.dropH H2 it)) E
theorem pi_own (F : FnOk X.prog X.w X.K X.mg X.base CT n f fd ps sp) (hs : PySem.W.findIn X.K (.ref C) "__iter__" = some (some (.ref f))) (hf : PySem.W.isFn X.K (.ref f) = true) (hb : Binds X.K fd ps []) (hx : Passes CT X E) (hr : Room n X.A) (he : PE X e te) :
    PI X tg e (iOwn X.K X.s_0.heap.objs.size C sp E te) := by
  refine ⟨fun pins s σ H R I h => ?_⟩
  refine thn (he.run pins s σ H _ I h) fun u s1 ⟨x, H1, I1, r1, a, dx, fs, ex, ea, hsp⟩ => ?_
  subst ex
  obtain rfl : u = Value.ref a := r1
  obtain ⟨mA, J, _⟩ := ins_get I1.hok ea
  obtain ⟨od, J, _⟩ := J.look
  obtain ⟨m, hF⟩ := I1.fr
  refine PySem.W.owit_iter hF I1.ok.mod.kin J hs hf ?_
  refine thn (call_def F hb hx hr I1 (vs := [.ref a]) (.cons rfl .nil) hsp) fun u s2 ⟨v, H2, I2, r2, it, t, xs, ev, hsz, hit, hq, hR⟩ => ?_
  subst ev
  obtain rfl : u = Value.ref it := r2
  have ho : s2.heap.get? it = some { cls := .type "tuple_iterator", data := .fields #[.ref t, .int 0 0] } := (I2.hok it _ hit).1
  have hT : s2.TypeIs (.ref it) "tuple_iterator" := ⟨_, ho, rfl⟩
  unfold PySem.W.OwitIt
  refine wpAny_specialOf (name := Str.ofString "__next__") hT slot_tupleiter_next.lookup ?_
  have hit' := hit
  unfold TtO at hit'
  refine ⟨it, [it], _, _, ItX.dropH H2 it, rfl, ItX.inv_drop I2 hit', turn_tuple t it, ⟨_, ho, rfl, rfl⟩, fun b hb => ?_, hR⟩
  have e : b = it := by simpa using hb
  rw [e]
  exact ItX.inv_fp I2 hit hsz
/-- e a list, a tuple, or an object of the class at C -/
def iAny (K : PySem.W.Frag) (n : Nat) (C : Addr) (sp : Sp) (E : XK) (te : TE) : TI := fun σ H R => iLt K te σ H R ∨ iOwn K n C sp E te σ H R
theorem pi_any (F : FnOk X.prog X.w X.K X.mg X.base CT n f fd ps sp) (hs : PySem.W.findIn X.K (.ref C) "__iter__" = some (some (.ref f))) (hf : PySem.W.isFn X.K (.ref f) = true) (hb : Binds X.K fd ps []) (hx : Passes CT X E) (hr : Room n X.A) (he : PE X e te) :
    PI X tg e (iAny X.K X.s_0.heap.objs.size C sp E te) := ⟨fun pins s σ H R I h => h.elim ((pi_lt he).run pins s σ H R I) ((pi_own F hs hf hb hx hr he).run pins s σ H R I)⟩
end
end Bd
namespace Rb
open PySem PySem.Spec PyProof.Rows L2
theorem op_neDK {X : Cx} {K : PySem.W.Frag} (h : X.K = K) (hu : X.A.units + 64 < cLine) : OpR X (compareOp .NotEq) (rNeD K) := h ▸ op_neD hu
end Rb

set_option Elab.async false
set_option linter.all false
set_option maxRecDepth 100000
set_option maxHeartbeats 4000000
/-! bool of a tuple and of an object with an own __bool__; in, by an own __contains__; C.m(..) of a staticmethod. -/
namespace Bd
open PySem PySem.Spec PyProof.Rows L2
open Builtin Builtin.ObjectAttr
section
variable {prog : Program} {w : World} {A : Around} {E : Value → Shared → Prop} {s : Shared}
/-- bool(x), by what x is as a test -/
theorem call_boolBy {x : Value} {Q : Value → Shared → Prop} (h : wpAny (model prog w) A.in1.in1 (truthy x) (fun b s' => Q (.bool b) s') E s) : wpAny (model prog w) A (call (.type "bool") [x]) Q E s := by
  refine callType_newIn (S := fun A R s => wpAny (model prog w) A.in1 (truthy x) (fun b s' => R (.ok (.ret (.bool b))) s') (fun e s' => R (.error e) s') s) F.called_bool F.newNe_bool (F.typeCall_bool_1 x) (F.newCall_bool_1 x) (fun obj => F.args_object_init_2 obj x) F.entry_bool_new (MeetsIn.of_wp fun A R s h => ?_) ?_
  · have hsub := F.called_bool.sub
    unfold PySem.Builtin.«bool.__new__»
    have key : wpAny (model prog w) A.in1 (truthy x >>= fun b => ret (.bool b)) (fun fin s' => ∃ v, fin = Fin.done (Flow.ret v) ∧ R (Except.ok (Flow.ret v)) s') (fun e s' => R (Except.error e) s') s :=
      wpAny_bind (wpAny_mono h (fun b s' hq => wpAny_pure ⟨_, rfl, hq⟩) fun _ _ z => z)
    repeat (first | exact key | assumption | wp_step)
  · exact wpAny_mono h (fun b s' hq => ⟨rfl, hq⟩) fun _ _ z => z
end
section
variable {X : Cx} {pins : List (Addr × Obj)} {σ : L2.St} {H : Hp} {s : Shared} {CT : CXT} {n : Nat} {C f : Addr} {fd : FuncData} {ps : List Str} {sp : Sp} {E : XK}
/-- bool(t), t a tuple -/
def rBoolT (K : PySem.W.Frag) : List V → Hp → VK → Prop := fun xs H Q => ∃ (a : Addr) (zs : List V), xs = [.ref a] ∧ H a = some (.tup zs) ∧ Q (.bl (!zs.isEmpty)) H
theorem call_boolT : CallR X (.type "bool") (rBoolT X.K) := by
  intro pins s σ H xs us Q I r h
  obtain ⟨a, zs, rfl, hq, q⟩ := h
  obtain rfl := Vals.ref1 r
  obtain ⟨hz, its, rv, o, ho, hc, m, hd⟩ := (show ObjOk X.prog X.w H s.heap a (.tup zs) from I.hok a _ hq)
  have hl := line63
  have hlen := rv.length
  refine call_boolBy (PyProof.Rows.truthy_tuple (items := its.toArray) ⟨o, ho, hc, m, hd⟩ (by rw [List.size_toArray]; omega) ?_)
  exact ⟨.bl (!zs.isEmpty), H, I.tok _, by rw [isEmpty_of rv]; rfl, q⟩
/-- a call of a def two calls down -/
theorem call_def2 {vs : List V} {us : List Value} {Q : VK} (F : FnOk X.prog X.w X.K X.mg X.base CT n f fd ps sp) (hb : Binds X.K fd ps []) (hx : Passes CT X E) (hr : Room n X.A.in1.in1) (I : Inv X pins σ H s) (r : Vals vs us) (hsp : sp vs H Q E) :
    wpAny (model X.prog X.w) X.A.in1.in1 (call (.ref f) us) (EP X pins σ Q) X.xe s := by
  have hl := F.len _ _ _ _ hsp
  have hu : us.length = ps.length := by rw [← r.length]; exact hl
  refine wpAny_call (codeAny_mono (F.run X.A.in1.in1 X.stack s H ⟨us, []⟩ us vs Q E hr I.env0.in1.in1 (by
    have := hb s us I.kIn (by simpa using hu)
    simpa using this) r hsp) fun z s' hq => ?_)
  cases z with
  | error e => exact hx pins σ H s e s' I hq
  | ok fl =>
    cases fl with
    | ret w => exact I.after hq
    | next => exact False.elim hq
    | brk => exact False.elim hq
    | cont => exact False.elim hq
/-- bool(x), x an object of the class at C that has its own __bool__ -/
def rBoolOwn (C : Addr) (sp : Sp) (E : XK) : List V → Hp → VK → Prop := fun xs H Q => ∃ a dx fs, xs = [.ref a] ∧ H a = some (.ins C dx fs) ∧ sp [.ref a] H (fun v H' => ∃ t, v = .bl t ∧ Q (.bl t) H') E
theorem call_boolOwn (F : FnOk X.prog X.w X.K X.mg X.base CT n f fd ps sp) (hs : PySem.W.findIn X.K (.ref C) "__bool__" = some (some (.ref f))) (hf : PySem.W.isFn X.K (.ref f) = true) (hb : Binds X.K fd ps []) (hx : Passes CT X E) (hr : Room (n + 2) X.A) : CallR X (.type "bool") (rBoolOwn C sp E) := by
  intro pins s σ H xs us Q I r h
  obtain ⟨a, dx, fs, rfl, ha, hsp⟩ := h
  obtain rfl := Vals.ref1 r
  obtain ⟨mA, J, _⟩ := ins_get I.hok ha
  obtain ⟨od, J, _⟩ := J.look
  refine call_boolBy ?_
  unfold truthy
  have key : wpAny (model X.prog X.w) X.A.in1.in1 (callSpecial? (.ref a) (Str.ofString "__bool__") []) (fun r s' => ∃ t, r = some (Value.bool t) ∧ EP X pins σ Q (.bool t) s') X.xe s := by
    refine PySem.W.special_fn I.kIn J hs (beq_iff_eq.mp hf) ?_
    refine thn (call_def2 F hb hx hr.in1.in1 I (vs := [.ref a]) (.cons rfl .nil) hsp) fun u s' ⟨v, H', I', r', t, ev, q⟩ => ?_
    subst ev
    cases r'
    exact ⟨t, rfl, .bl t, H', I', rfl, q⟩
  refine wpAny_bind (wpAny_mono key (fun r s' h' => ?_) fun _ _ z => z)
  obtain ⟨t, rfl, q⟩ := h'
  exact wpAny_pure q
/-- x in y, y an object of the class at C that has its own __contains__ -/
def rInOwn (C : Addr) (sp : Sp) (E : XK) : R2 := fun x y H Q => ∃ b dx fs, y = .ref b ∧ H b = some (.ins C dx fs) ∧ sp [.ref b, x] H (fun v H' => ∃ t, v = .bl t ∧ Q (.bl t) H') E
theorem op_inOwn (F : FnOk X.prog X.w X.K X.mg X.base CT n f fd ps sp) (hs : PySem.W.findIn X.K (.ref C) "__contains__" = some (some (.ref f))) (hf : PySem.W.isFn X.K (.ref f) = true) (hb : Binds X.K fd ps []) (hx : Passes CT X E) (hr : Room n X.A) : OpR X (compareOp .In) (rInOwn C sp E) := by
  intro pins s σ H x y v u Q I rx ry h
  obtain ⟨b, dx, fs, rfl, hb', hsp⟩ := h
  obtain rfl : u = Value.ref b := ry
  obtain ⟨mA, J, _⟩ := ins_get I.hok hb'
  obtain ⟨od, J, _⟩ := J.look
  have X0 := I.kIn
  have cl : wpAny (model X.prog X.w) X.A (call (.ref f) [.ref b, v]) (fun r s' => ∃ t, r = Value.bool t ∧ EP X pins σ Q (.bool t) s') X.xe s := by
    refine thn (call_def F hb hx hr I (vs := [.ref b, x]) (.cons rfl (.cons rx .nil)) hsp) fun u s' ⟨v, H', I', r', t, ev, q⟩ => ?_
    subst ev
    cases r'
    exact ⟨t, rfl, .bl t, H', I', rfl, q⟩
  show wpAny _ _ (contains (.ref b) v >>= fun t => pure (Value.bool t)) _ _ _
  refine wpAny_bind ?_
  unfold contains
  refine wpAny_holding ?_
  show wpAny _ _ (specialOf (.ref b) (Str.ofString "__contains__") >>= _) _ _ _
  refine wpAny_bind (wpAny_bind (J.type.here ((PySem.W.looks_findIn X0 hs).here ?_)))
  show wpAny _ _ (callSpecialUnlessNone? (.ref b) (Str.ofString "__contains__") [v] _ >>= _) _ _ _
  unfold callSpecialUnlessNone?
  refine wpAny_bind (wpAny_bind (wpAny_bind (J.type.here ((PySem.W.looks_findIn X0 hs).here ?_))))
  refine wpAny_holding (wpAny_bind ((PySem.W.bind_fn X0 _ (beq_iff_eq.mp hf)).here ?_))
  refine PySem.W.KFB.if_not rfl ?_
  refine wpAny_bind (wpAny_mono cl (fun r s' h' => ?_) fun _ _ z => z)
  obtain ⟨t, rfl, q⟩ := h'
  exact wpAny_pure (wpAny_pure (wpAny_pure q))
/-- what is told of a staticmethod m of the class at C: its record at p, its def at g -/
structure StatC (K : PySem.W.Frag) (C : Addr) (m : Str) (g : Addr) : Prop where
  rd : PySem.W.readsIn K C (.type "type") = true
  ga : PySem.W.specialIn K (.ref C) "__getattribute__" = some (some (.builtin "type.__getattribute__"))
  at_ : ∃ p, PySem.W.findCls K (.ref C) (.type "type") m = some (.get (.builtin "staticmethod.__get__") (.ref p) .none (.ref C)) ∧ ∃ rest, PySem.W.recIn K p "staticmethod" = some (.ref g :: rest)
  kp : PySem.W.keepIn K (.ref g) = true
/-- o.m(..), o the class at C, m a staticmethod -/
def tStat (C : Addr) (sp : Sp) (E : XK) (ta : TE) (t : TA) : TE := fun σ H Q => ta σ H fun x H1 => x = .ref C ∧ t σ H1 fun vs H2 => sp vs H2 Q E
theorem pe_static {g : Addr} {m : Str} {o e : Expr} {es : List Expr} {pos apos : Pos} {ta : TE} {t : TA} {pl : Sem Bool} (he : PE X o ta) (c : StatC X.K C m g) (F : FnOk X.prog X.w X.K X.mg X.base CT n g fd ps sp) (hr : Room n X.A) (hb : Binds X.K fd ps []) (hx : Passes CT X E) (ha : PA X (e :: es) t)
    (hst : starEach (e :: es) X.env = (false, eval e X.env) :: starEach es X.env := by rfl) (hpl : (backTo pos (starEach es X.env)).any (·.1) = false := by rfl)
    (ht : eval (.Call (.Attribute o m apos) (e :: es) [] pos) X.env = (do
      let ov ← eval o X.env
      standAt apos.atName
      let (f, first) ← holding [ov] (getMethod ov m pl)
      callWith pos f first (backTo pos (starEach (e :: es) X.env)) (backToKw pos (keywordEach [] X.env))) := by rfl) :
    PE X (.Call (.Attribute o m apos) (e :: es) [] pos) (tStat C sp E ta t) := by
  refine ⟨fun pins s σ H Q I h => ?_⟩
  refine PySem.W.methodCall_KW (pl := pl) (thn (he.run pins s σ H _ I h) fun u s1 ⟨x, H1, I1, rx, ex, q⟩ => ?_) ht
  subst ex
  obtain rfl : u = Value.ref C := rx
  obtain ⟨p, h1, rest, h2⟩ := c.at_
  refine PySem.W.method_cls I1.kIn c.ga (PySem.W.cls_bind I1.kIn c.rd h1 ?_)
  refine wpAny_call (PySem.W.sm_get (s := { s1 with toks := s1.toks + 1 }) I1.kIn h2 (PySem.W.handed_on rfl ?_))
  have I2 := I1.tok (s1.toks + 1)
  refine PySem.W.callWith_K (h₀ := X.base) I2.ok.mod.kin c.kp (thn (ha.run pos pins _ σ H1 _ I2 q) fun us s3 ⟨vs, H2, I3, rv, q2⟩ => ⟨I3.kIn, ?_⟩) hst hpl
  exact call_def F hb hx hr I3 rv q2
end
end Bd

set_option Elab.async false
set_option linter.all false
set_option maxRecDepth 100000
set_option maxHeartbeats 4000000
/-! What the start leaves, with defs that stand behind a property or a staticmethod. -/
namespace Bd
open PySem PySem.Spec PyProof.Rows L2
/-- the part of the heap that is looked at -/
def fragY (n : Nat) (g : Addr → Option Obj) : PySem.W.Frag := He.frG g (He.asD g n ++ [cStatics])
/-- all that is told of it -/
structure SaysY (fa : List He.Fa) (fn : List He.DefD) (ex : PySem.W.Frag → Bool) (fx : List He5.DefA) (K : PySem.W.Frag) : Prop where
  d : He.SaysD fa fn K
  more : ex K = true
  fns : (fx.map fun z => He5.fnA K (z.at_ K)) = fx.map He5.DefA.val
  oks : (fx.all fun z => z.ok K) = true
abbrev TellY : Type := He.AlD × (Bool × (List He5.FnW × Bool))
def tellY (fa : List He.Fa) (fn : List He.DefD) (ex : PySem.W.Frag → Bool) (fx : List He5.DefA) (K : PySem.W.Frag) : TellY := (He.obsD fa fn K, ex K, fx.map (fun z => He5.fnA K (z.at_ K)), fx.all fun z => z.ok K)
def wantY (fn : List He.DefD) (fx : List He5.DefA) : TellY := (He.valD fn, true, fx.map He5.DefA.val, true)
theorem saysY {fa : List He.Fa} {fn : List He.DefD} {ex : PySem.W.Frag → Bool} {fx : List He5.DefA} {K : PySem.W.Frag} (e : tellY fa fn ex fx K = wantY fn fx) : SaysY fa fn ex fx K :=
  ⟨congrArg (fun z : TellY => z.1) e, congrArg (fun z : TellY => z.2.1) e, congrArg (fun z : TellY => z.2.2.1) e, congrArg (fun z : TellY => z.2.2.2) e⟩
def hookY (n : Nat) (fa : List He.Fa) (fn : List He.DefD) (ex : PySem.W.Frag → Bool) (fx : List He5.DefA) : PySem.W.Hook where
  α := TellY
  obs := fun s => tellY fa fn ex fx (fragY n s.heap.get?)
  val := fun _ => wantY fn fx
  says := fun _ h => ∃ K : PySem.W.Frag, K.In h ∧ SaysY fa fn ex fx K
  of := fun _ _ e => ⟨_, He.frG_in, saysY e⟩
  keeps := fun _ _ _ ⟨K, hK, c⟩ k => ⟨K, PySem.W.Frag.In.keeps hK k, c⟩
def obsY (n : Nat) (fa : List He.Fa) (fn : List He.DefD) (ex : PySem.W.Frag → Bool) (fx : List He5.DefA) (g : Addr → Option Obj) : TellY := tellY fa fn ex fx (fragY n g)
theorem obsY_eq {n : Nat} {fa : List He.Fa} {fn : List He.DefD} {ex : PySem.W.Frag → Bool} {fx : List He5.DefA} {g : Addr → Option Obj} {s : Shared} (h : ∀ a, g a = s.heap.get? a) : obsY n fa fn ex fx g = (hookY n fa fn ex fx).obs s := by
  have e : g = s.heap.get? := funext h
  rw [e]
  rfl
/-- the i-th of these defs -/
theorem SaysY.def_ {fa : List He.Fa} {fn : List He.DefD} {ex : PySem.W.Frag → Bool} {fx : List He5.DefA} {K : PySem.W.Frag} (c : SaysY fa fn ex fx K) (i : Nat) {d : He5.DefA} (h : fx[i]? = some d) :
    ∃ fd, FunD K d.name d.qual d.params d.body d.scope (d.dvs K) (d.kws K) (d.at_ K) fd := by
  have e : (fx.map fun z => He5.fnA K (z.at_ K))[i]? = (fx.map He5.DefA.val)[i]? := by rw [c.fns]
  rw [List.getElem?_map, List.getElem?_map, h] at e
  exact He5.DefA.funD (Option.some.inj e) (List.all_eq_true.mp c.oks d (List.mem_of_getElem? h))
/-- the def behind a record -/
abbrev pAd (K : PySem.W.Frag) (c m : Str) : Addr := He5.wf K (He.ga K c) "property" m
abbrev sAd (K : PySem.W.Frag) (c m : Str) : Addr := He5.wf K (He.ga K c) "staticmethod" m
def recB (K : PySem.W.Frag) (p g : Addr) (T : String) : Bool := match PySem.W.recIn K p T with
  | some (.ref f :: _) => decide (f = g)
  | _ => false
theorem recB_ok {K : PySem.W.Frag} {p g : Addr} {T : String} (h : recB K p g T = true) : ∃ rest, PySem.W.recIn K p T = some (.ref g :: rest) := by
  unfold recB at h
  split at h
  · rename_i f r e
    rw [e, of_decide_eq_true h]
    exact ⟨r, rfl⟩
  · cases h
def propB (K : PySem.W.Frag) (C : Addr) (m : Str) : Bool :=
  He.eqO (PySem.W.findIn K (.ref C) m) (some (some (.ref (He.ma K C m)))) && (He.eqO (PySem.W.specialIn K (.ref (He.ma K C m)) "__get__") (some (some (.builtin "property.__get__"))) &&
  (decide (PySem.W.takesIn K (.ref (He.ma K C m)) = some true) && recB K (He.ma K C m) (He5.wf K C "property" m) "property"))
theorem propB_ok {K : PySem.W.Frag} {C : Addr} {m : Str} (h : propB K C m = true) : PropOf K C m (He.ma K C m) (He5.wf K C "property" m) := by
  unfold propB at h
  simp only [Bool.and_eq_true] at h
  exact ⟨He.eqO_ok h.1, He.eqO_ok h.2.1, of_decide_eq_true h.2.2.1, recB_ok h.2.2.2⟩
def statB (K : PySem.W.Frag) (C : Addr) (m : Str) : Bool :=
  PySem.W.readsIn K C (.type "type") && (He.eqO (PySem.W.specialIn K (.ref C) "__getattribute__") (some (some (.builtin "type.__getattribute__"))) &&
  (He5.wrapB K C "staticmethod" "staticmethod.__get__" m && PySem.W.keepIn K (.ref (He5.wf K C "staticmethod" m))))
theorem statB_ok {K : PySem.W.Frag} {C : Addr} {m : Str} (h : statB K C m = true) : StatC K C m (He5.wf K C "staticmethod" m) := by
  unfold statB at h
  simp only [Bool.and_eq_true] at h
  obtain ⟨h1, h2⟩ := He5.wrapB_ok h.2.2.1
  exact ⟨h.1, He.eqO_ok h.2.1, ⟨_, h1, h2⟩, h.2.2.2⟩
end Bd

set_option Elab.async false
set_option linter.all false
set_option maxRecDepth 100000
set_option maxHeartbeats 4000000
/-! Rows and bundles as data; dicts with tuple keys, as rules of reading. -/
namespace Es
open PySem PySem.Spec PyProof.Rows L2 Bd Dj
theorem DS.keep {P : Program} {w : World} {K : PySem.W.Frag} {H H' : Hp} {a : Addr} {kvs : List (List Key × V)} (e : Same H H') (h : DS P w K H a kvs) : DS P w K H' a kvs := by
  obtain ⟨z, xs, h1, h2⟩ := h
  exact ⟨z, xs, e _ _ h1, h2.keeps fun b ys q => Rd.same_tup e q⟩
theorem DS.keepT {P : Program} {w : World} {K : PySem.W.Frag} {H H' : Hp} {a : Addr} {kvs : List (List Key × V)} (e : H' a = H a) (t : ∀ q ys, SqT K H q ys → SqT K H' q ys) (h : DS P w K H a kvs) : DS P w K H' a kvs := by
  obtain ⟨z, xs, h1, h2⟩ := h
  exact ⟨z, xs, e.trans h1, h2.keeps t⟩
theorem GX.of {P : Program} {w : World} {K : PySem.W.Frag} {H : Hp} {a kq : Addr} {p : Ast} {m : List (Ast × V)} (d : DS P w K H a (eD m)) (e : SqT K H kq [.str p.1, .int p.2]) : GX P w K H a (.ref kq) (valV (eD m) (eK p)) := ⟨eD m, eK p, kq, d, rfl, e, rfl⟩
theorem encR_nl (e : Ast × Int) : nl (encR e) = true := by simp [encR, nl, nlAll]
theorem encR_nd (e : Ast × Int) : nd (encR e) = true := by simp [encR, nd, ndAll]
theorem encR_nb (e : Ast × Int) : nb (encR e) = true := by simp [encR, nb, nbAll]
theorem encA_nl (e : Ast) : nl (encA e) = true := by simp [encA, nl, nlAll]
theorem encA_nd (e : Ast) : nd (encA e) = true := by simp [encA, nd, ndAll]
theorem encA_nb (e : Ast) : nb (encA e) = true := by simp [encA, nb, nbAll]
section
variable {K : PySem.W.Frag} {H : Hp}
theorem dpRow {x : V} {e : Ast × Int} (h : Dp K H x (encR e)) : ∃ z kq, x = .ref z ∧ SqT K H z [.ref kq, .int e.2] ∧ SqT K H kq [.str e.1.1, .int e.1.2] := by
  obtain ⟨z, u, v, rfl, hz, hu, hv⟩ := dp_pair h
  obtain ⟨kq, a, b, rfl, hk, ha, hb⟩ := dp_pair hu
  cases dp_str ha; cases dp_int hb; cases dp_int hv
  exact ⟨z, kq, rfl, hz, hk⟩
theorem rowDp {z kq : Addr} {p : Ast} {q : Int} (h : SqT K H z [.ref kq, .int q]) (k : SqT K H kq [.str p.1, .int p.2]) : Dp K H (.ref z) (encR (p, q)) := .tup h (.cons (.tup k (.cons (.str _) (.cons (.int _) .nil))) (.cons (.int _) .nil))
theorem astDp {kq : Addr} {p : Ast} (k : SqT K H kq [.str p.1, .int p.2]) : Dp K H (.ref kq) (encA p) := .tup k (.cons (.str _) (.cons (.int _) .nil))
theorem dpAst {x : V} {p : Ast} (h : Dp K H x (encA p)) : ∃ z, x = .ref z ∧ SqT K H z [.str p.1, .int p.2] := by
  obtain ⟨z, u, v, rfl, hz, hu, hv⟩ := dp_pair h
  cases dp_str hu; cases dp_int hv
  exact ⟨z, rfl, hz⟩
theorem rowAt {xs : List V} {R : List (Ast × Int)} {i : Nat} {x : V} (h : DpAll K H xs (R.map encR)) (hi : xs[i]? = some x) : ∃ z kq e, x = .ref z ∧ R[i]? = some e ∧ SqT K H z [.ref kq, .int e.2] ∧ SqT K H kq [.str e.1.1, .int e.1.2] := by
  obtain ⟨d, hd, hx⟩ := dpAll_at h hi
  obtain ⟨e, he, rfl⟩ := map_at hd
  obtain ⟨z, kq, rfl, h1, h2⟩ := dpRow hx
  exact ⟨z, kq, e, rfl, he, h1, h2⟩
theorem rowsLen {xs : List V} {R : List (Ast × Int)} (h : DpAll K H xs (R.map encR)) : xs.length = R.length := by rw [Rd.dpAll_len h, List.length_map]
theorem rowsOf : ∀ {zs : List (Addr × (Ast × V))} {R : List (Ast × Int)}, zs.map (·.2) = R.map (fun e => (e.1, V.int e.2)) →
    (∀ z ∈ zs, ∃ kq, H z.1 = some (.tup [.ref kq, z.2.2]) ∧ SqT K H kq [.str z.2.1.1, .int z.2.1.2]) → DpAll K H (zs.map fun z => V.ref z.1) (R.map encR)
  | [], [], _, _ => .nil
  | z :: zs, [], h, _ => by simp at h
  | [], e :: R, h, _ => by simp at h
  | z :: zs, e :: R, h, k => by
    simp only [List.map_cons, List.cons.injEq] at h
    obtain ⟨kq, h1, h2⟩ := k z List.mem_cons_self
    rw [h.1] at h1 h2
    exact .cons (rowDp (SqT.of h1) h2) (rowsOf h.2 fun y hy => k y (List.mem_cons_of_mem _ hy))
end
/-- the bundle at b has the rows N -/
def BdS (P : Program) (w : World) (K : PySem.W.Frag) (H : Hp) (b : Addr) (N : List (Ast × Int)) : Prop := ∃ dx r d xs, H b = some (.ins (He.ga K "Bundle") dx [("_quantities", .ref d), ("rows", .ref r)]) ∧ H r = some (.tup xs) ∧ DpAll K H xs (N.map encR) ∧ DS P w K H d (eD (N.map fun e => (e.1, V.int e.2))) ∧ Nrm N
theorem BdS.keep {P : Program} {w : World} {K : PySem.W.Frag} {H H' : Hp} {b : Addr} {N : List (Ast × Int)} (h : BdS P w K H b N) (e : Same H H') : BdS P w K H' b N := by
  obtain ⟨dx, r, d, xs, h1, h2, h3, h4, h5⟩ := h
  exact ⟨dx, r, d, xs, e _ _ h1, e _ _ h2, dpAll_same e h3, h4.keep e, h5⟩
theorem BdS.nrm {P : Program} {w : World} {K : PySem.W.Frag} {H : Hp} {b : Addr} {N : List (Ast × Int)} (h : BdS P w K H b N) : Nrm N := by
  obtain ⟨_, _, _, _, _, _, _, _, h⟩ := h; exact h
/-- what tells the quantity of an asset in a bundle's dict -/
theorem tot_of {p : Ast} : ∀ {N : List (Ast × Int)}, (N.map (·.1)).Nodup → (valV (N.map fun e => (e.1, V.int e.2)) p).getD (.int 0) = .int (tot N p)
  | [], _ => rfl
  | e :: N, h => by
    have h1 : e.1 ∉ N.map (·.1) := (List.nodup_cons.mp h).1
    have h2 := tot_of (p := p) (List.nodup_cons.mp h).2
    by_cases q : e.1 = p
    · have hz : tot N p = 0 := tot_none (by rw [← q]; exact h1)
      rw [List.map_cons, valV_pos q]
      show V.int e.2 = V.int (tot (e :: N) p)
      have : tot (e :: N) p = e.2 + tot N p := by show (if e.1 = p then e.2 else 0) + tot N p = _; rw [if_pos q]
      rw [this, hz, Int.add_zero]
    · rw [List.map_cons, valV_neg q, h2]
      have : tot (e :: N) p = tot N p := by show (if e.1 = p then e.2 else 0) + tot N p = _; rw [if_neg q, Int.zero_add]
      rw [this]
theorem has_of {p : Ast} : ∀ {N : List (Ast × Int)}, (N.map (·.1)).Nodup → (∀ e ∈ N, e.2 ≠ 0) → (valV (N.map fun e => (e.1, V.int e.2)) p).isSome = decide (tot N p ≠ 0)
  | [], _, _ => rfl
  | e :: N, h, z => by
    have h1 : e.1 ∉ N.map (·.1) := (List.nodup_cons.mp h).1
    have h2 := has_of (p := p) (List.nodup_cons.mp h).2 fun f hf => z f (List.mem_cons_of_mem _ hf)
    by_cases q : e.1 = p
    · have hz : tot N p = 0 := tot_none (by rw [← q]; exact h1)
      rw [List.map_cons, valV_pos q]
      have : tot (e :: N) p = e.2 + tot N p := by show (if e.1 = p then e.2 else 0) + tot N p = _; rw [if_pos q]
      rw [this, hz, Int.add_zero]
      exact (decide_eq_true (z e List.mem_cons_self)).symm
    · rw [List.map_cons, valV_neg q, h2]
      have : tot (e :: N) p = tot N p := by show (if e.1 = p then e.2 else 0) + tot N p = _; rw [if_neg q, Int.zero_add]
      rw [this]
/-- the same of the first i keys, each taken once -/
theorem rowsC_dp {K : PySem.W.Frag} {H : Hp} {ps : List (Addr × Ast)} (h : AsS K H ps) : DpAll K H (ps.map fun z => V.ref z.1) ((ps.map (·.2)).map encA) := by
  induction ps with
  | nil => exact .nil
  | cons z ps ih => exact .cons (astDp (h z List.mem_cons_self)) (ih fun y hy => h y (List.mem_cons_of_mem _ hy))
end Es
namespace Re
open PySem PySem.Spec PyProof.Rows L2 Bd Es
section
variable {P : Program} {w : World} {K : PySem.W.Frag} {σ : L2.St} {H : Hp} {Q : VK} {td ty tx tv : TE} {n b c : L2.St → Hp → Prop} {r : VK}
theorem itemsX (k : td σ H fun x H1 => ∃ a kvs, x = .ref a ∧ DS P w K H1 a kvs ∧ ∀ p, H1 p = none → Q (.ref p) (upd H1 p (L2.DX.itemsO p a))) : tItemsX P w K td σ H Q := k
theorem dnewX (k : ∀ p, H p = none → DS P w K (upd H p (dX P w p [])) p [] → Q (.ref p) (upd H p (dX P w p []))) : tDNewX P w K σ H Q := k
theorem dget2X (k : td σ H fun x H1 => ∃ a, x = .ref a ∧ (∃ kvs, DS P w K H1 a kvs) ∧ ty σ H1 fun y H2 => tx σ H2 fun z H3 => ∃ o, GX P w K H3 a y o ∧ Q (o.getD z) H3) : tDGet2X P w K td ty tx σ H Q := k
theorem dgetX (k : td σ H fun x H1 => ty σ H1 fun y H2 => ∃ a v, x = .ref a ∧ GX P w K H2 a y (some v) ∧ Q v H2) : tDGetX P w K td ty σ H Q := k
theorem dinX (k : ty σ H fun y H1 => td σ H1 fun x H2 => ∃ a o, x = .ref a ∧ GX P w K H2 a y o ∧ Q (.bl o.isSome) H2) : tDInX P w K ty td σ H Q := k
theorem isX {a : Addr} {kvs : List (List Key × V)} {R : Addr → Prop} (h : DS P w K H a kvs) (k : R a) : ∃ a', V.ref a = .ref a' ∧ (∃ kvs, DS P w K H a' kvs) ∧ R a' := ⟨a, rfl, ⟨kvs, h⟩, k⟩
theorem dgetOX {a z : Addr} {m : List (Ast × V)} {p : Ast} {R : Option V → Prop} (h : DS P w K H a (eD m)) (hz : SqT K H z [.str p.1, .int p.2]) (k : R (valV m p)) : ∃ o, GX P w K H a (.ref z) o ∧ R o := ⟨_, GX.of h hz, by rw [valV_eD]; exact k⟩
theorem dgetSX {a z : Addr} {m : List (Ast × V)} {p : Ast} {v : V} {R : V → Prop} (h : DS P w K H a (eD m)) (hz : SqT K H z [.str p.1, .int p.2]) (e : valV m p = some v) (k : R v) : ∃ a' v', V.ref a = .ref a' ∧ GX P w K H a' (.ref z) (some v') ∧ R v' :=
  ⟨a, v, rfl, by rw [← e, ← valV_eD]; exact GX.of h hz, k⟩
theorem dputX (k : tv σ H fun v H1 => td σ H1 fun x H2 => ty σ H2 fun y H3 => ∃ a kvs k b, x = .ref a ∧ y = .ref b ∧ DS P w K H3 a kvs ∧ kvs.length < sizeLine ∧
  SqT K H3 b (k.map kV) ∧ ∀ ys, DS P w K (upd H3 a (dX P w a ys)) a (putK kvs k v) → n σ (upd H3 a (dX P w a ys))) : sDPutX P w K td ty tv ⟨n, r, b, c⟩ σ H := k
theorem dcTX {wi : TI} {g : TG} {tt : TT} {tk : TE} {vs : List Nat} (k : wi σ H fun J H1 => DcX P w K g tt tk tv vs σ Q J H1) : tDcX P w K wi g tt tk tv vs σ H Q := k
theorem dcLX {a : Addr} {xs : List V} {g : TG} {tt : TT} {tk : TE} {vs : List Nat} {H1 : Hp} (Pv : Addr → Nat → Hp → Prop) (h : SqL K H1 a xs) (h0 : ∀ D, H1 D = none → DS P w K (upd H1 D (dX P w D [])) D [] → Pv D 0 (upd H1 D (dX P w D [])))
    (hl : ∀ D i H, i ≤ xs.length → Pv D i H → SqL K H a xs)
    (hs : ∀ D i x H, H1 D = none → xs[i]? = some x → Pv D i H → g x (wipe σ vs) H fun σ2 H2 => wipe σ2 vs = wipe σ vs ∧ tt σ2 H2 fun t H3 =>
      if t = true then tk σ2 H3 fun y H4 => tv σ2 H4 fun z H5 => ∃ kvs k b, y = .ref b ∧ SqT K H5 b (k.map kV) ∧ DS P w K H5 D kvs ∧ kvs.length < sizeLine ∧
        (∀ ys, DS P w K (upd H5 D (dX P w D ys)) D (putK kvs k z) → Pv D (i + 1) (upd H5 D (dX P w D ys))) else Pv D (i + 1) H3)
    (hd : ∀ D H, H1 D = none → Pv D xs.length H → Q (.ref D) H) : ∃ p, V.ref a = .ref p ∧ (∃ ys, SqL K H1 p ys) ∧ DcX P w K g tt tk tv vs σ Q (Itl K p) H1 := by
  refine ⟨a, rfl, ⟨_, h⟩, fun D hD => ⟨fun i m H => m = xs.length - i ∧ i ≤ xs.length ∧ Pv D i H, ⟨xs.length, by simp, Nat.zero_le _, h0 D hD DS.nil⟩, ?_⟩⟩
  rintro i m H ⟨rfl, hi, p⟩
  have q := hl D i H hi p
  by_cases hlt : i < xs.length
  · refine .inr ⟨⟨xs, xs[i], q, by simp [hlt]⟩, Pv D (i + 1), fun H' p' => ⟨xs.length - (i + 1), by omega, rfl, hlt, p'⟩, fun x H' y => ?_⟩
    obtain ⟨e, y⟩ := y
    subst e
    exact hs D i x _ hD (y xs q) p
  · have e : i = xs.length := by omega
    subst e
    refine .inl ⟨⟨xs, q, Nat.le_refl _⟩, hd D H hD p⟩
end
end Re
namespace Re
open PySem PySem.Spec PyProof.Rows L2 Bd Es
theorem cxP {CX : CXT} {P : Program} {w : World} {K : PySem.W.Frag} {mg : Str → Option Value} {base : Heap} {N : List Str} {q : Str} {sc : Scope} {f : Addr} {cdv : Value} {A : Around} {outer : List Env} {s : Shared} {H : Hp} {E : XK} : (cxOf CX P w K mg base N q sc f cdv A outer s H E).prog = P := rfl
theorem cxW {CX : CXT} {P : Program} {w : World} {K : PySem.W.Frag} {mg : Str → Option Value} {base : Heap} {N : List Str} {q : Str} {sc : Scope} {f : Addr} {cdv : Value} {A : Around} {outer : List Env} {s : Shared} {H : Hp} {E : XK} : (cxOf CX P w K mg base N q sc f cdv A outer s H E).w = w := rfl
end Re
namespace Es
open PySem PySem.Spec PyProof.Rows L2 Bd Dj
section
variable {P : Program} {w : World} {K : PySem.W.Frag} {H H' : Hp} {b : Addr}
/-- all but what stands at b -/
def Beside (b : Addr) (H H' : Hp) : Prop := ∀ a o, a ≠ b → H a = some o → H' a = some o
theorem Beside.sqT {C dx : Addr} {fs : List (Str × V)} (e : Beside b H H') (hb : H b = some (.ins C dx fs)) {a : Addr} {xs : List V} (h : SqT K H a xs) : SqT K H' a xs := by
  rcases h with (h | ⟨o, h⟩) | h
  · exact .inl (.inl (e _ _ (fun q => by rw [q, hb] at h; cases h) h))
  · exact .inl (.inr ⟨o, e _ _ (fun q => by rw [q, hb] at h; cases h) h⟩)
  · exact .inr h
theorem Beside.sqL {C dx : Addr} {fs : List (Str × V)} (e : Beside b H H') (hb : H b = some (.ins C dx fs)) {a : Addr} {xs : List V} (h : SqL K H a xs) : SqL K H' a xs := by
  rcases h with (h | ⟨o, h⟩) | h
  · exact .inl (.inl (e _ _ (fun q => by rw [q, hb] at h; cases h) h))
  · exact .inl (.inr ⟨o, e _ _ (fun q => by rw [q, hb] at h; cases h) h⟩)
  · exact .inr h
theorem Beside.dp {C dx : Addr} {fs : List (Str × V)} (e : Beside b H H') (hb : H b = some (.ins C dx fs)) : ∀ {x : V} {d : PyData}, Dp K H x d → Dp K H' x d
  | _, _, .non => .non
  | _, _, .bl b => .bl b
  | _, _, .int i => .int i
  | _, _, .str x => .str x
  | _, _, .lst h a => .lst (e.sqL hb h) (go e hb a)
  | _, _, .tup h a => .tup (e.sqT hb h) (go e hb a)
where go {C dx : Addr} {fs : List (Str × V)} (e : Beside b H H') (hb : H b = some (.ins C dx fs)) : ∀ {xs : List V} {ds : List PyData}, DpAll K H xs ds → DpAll K H' xs ds
  | _, _, .nil => .nil
  | _, _, .cons h t => .cons (Beside.dp e hb h) (go e hb t)
theorem Beside.dpAll {C dx : Addr} {fs : List (Str × V)} (e : Beside b H H') (hb : H b = some (.ins C dx fs)) {xs : List V} {ds : List PyData} (h : DpAll K H xs ds) : DpAll K H' xs ds := Beside.dp.go e hb h
end
/-- what isinstance and != ask of a class -/
structure IsX (K : PySem.W.Frag) (C : Addr) : Prop where
  isc : C8.InsC K C
  ne : PySem.W.findIn K (.ref C) "__ne__" = some (some (.builtin "object.__ne__"))
  ob : PySem.W.subIn K (.ref C) (.type "object") = some true
theorem IsX.mk' {K : PySem.W.Frag} {C : Addr} (c : Cls K C) (h : exE K C = true) : IsX K C := by
  unfold exE at h
  simp only [Bool.and_eq_true] at h
  obtain ⟨h1, h2, h3, h4, h5, h6, h7⟩ := h
  exact ⟨⟨c, He.eqO_ok h1, of_decide_eq_true h2, of_decide_eq_true h3, of_decide_eq_true h4, of_decide_eq_true h5⟩, He.eqO_ok h6, of_decide_eq_true h7⟩
end Es
namespace Re
open PySem PySem.Spec PyProof.Rows L2 Bd Es
section
variable {P : Program} {w : World} {K : PySem.W.Frag} {σ : L2.St} {H : Hp} {Q : VK} {E : XK} {ta : TE} {t : TA} {C a dx : Addr} {fs : List (Str × V)} {m : Str} {sp : Sp} {dvs : List V} {R : Prop}
theorem meth (k : ta σ H fun x H1 => ∃ a dx fs, x = .ref a ∧ H1 a = some (.ins C dx fs) ∧ fs.lookup m = none ∧ t σ H1 fun vs H2 => sp (x :: (vs ++ dvs)) H2 Q E) : tMeth C m sp dvs E ta t σ H Q := k
theorem prop (k : ta σ H fun x H1 => ∃ a dx fs, x = .ref a ∧ H1 a = some (.ins C dx fs) ∧ sp (.ref a :: dvs) H1 Q E) : tProp C sp dvs E ta σ H Q := k
theorem stat (k : ta σ H fun x H1 => x = .ref C ∧ t σ H1 fun vs H2 => sp vs H2 Q E) : tStat C sp E ta t σ H Q := k
theorem statC {x : V} (k : R) (e : x = .ref C) : x = .ref C ∧ R := ⟨e, k⟩
/-- an object that is told: its method, its property -/
theorem methI (h : H a = some (.ins C dx fs)) (l : fs.lookup m = none) (k : R) : ∃ a' dx' fs', V.ref a = .ref a' ∧ H a' = some (.ins C dx' fs') ∧ fs'.lookup m = none ∧ R := ⟨a, dx, fs, rfl, h, l, k⟩
theorem propI {S : Addr → Prop} (h : H a = some (.ins C dx fs)) (k : S a) : ∃ a' dx' fs', V.ref a = .ref a' ∧ H a' = some (.ins C dx' fs') ∧ S a' := ⟨a, dx, fs, rfl, h, k⟩
theorem bd_ins {b : Addr} {N : List (Ast × Int)} (h : BdS P w K H b N) : ∃ dx fs, H b = some (.ins (He.ga K "Bundle") dx fs) ∧ ∃ u v : V, fs = [(("_quantities" : Str), u), (("rows" : Str), v)] := by
  obtain ⟨dx, r, d, xs, h1, _⟩ := h
  exact ⟨dx, _, h1, _, _, rfl⟩
theorem methB {b : Addr} {N : List (Ast × Int)} (h : BdS P w K H b N) (n : ("_quantities" : Str) ≠ m ∧ ("rows" : Str) ≠ m) (k : R) : ∃ a' dx' fs', V.ref b = .ref a' ∧ H a' = some (.ins (He.ga K "Bundle") dx' fs') ∧ fs'.lookup m = none ∧ R := by
  obtain ⟨dx, fs, h1, u, v, rfl⟩ := bd_ins h
  exact ⟨b, dx, _, rfl, h1, by simp [List.lookup, beq_eq_false_iff_ne.mpr (Ne.symm n.1), beq_eq_false_iff_ne.mpr (Ne.symm n.2)], k⟩
theorem propB {b : Addr} {N : List (Ast × Int)} {S : Addr → Prop} (h : BdS P w K H b N) (k : S b) : ∃ a' dx' fs', V.ref b = .ref a' ∧ H a' = some (.ins (He.ga K "Bundle") dx' fs') ∧ S a' := by
  obtain ⟨dx, fs, h1, _⟩ := bd_ins h
  exact ⟨b, dx, _, rfl, h1, k⟩
theorem own2B {b c : Addr} {N M : List (Ast × Int)} (h : BdS P w K H b N) (h' : BdS P w K H c M) (k : sp [.ref b, .ref c] H Q E) : rOwn2 (He.ga K "Bundle") sp E (.ref b) (.ref c) H Q := by
  obtain ⟨dx, fs, h1, _⟩ := bd_ins h
  obtain ⟨dy, gs, h2, _⟩ := bd_ins h'
  exact ⟨b, c, dx, dy, fs, gs, rfl, rfl, h1, h2, k⟩
theorem own1B {b : Addr} {N : List (Ast × Int)} (h : BdS P w K H b N) (k : sp [.ref b] H Q E) : rOwn1 (He.ga K "Bundle") sp E (.ref b) H Q := by
  obtain ⟨dx, fs, h1, _⟩ := bd_ins h
  exact ⟨b, dx, fs, rfl, h1, k⟩
theorem rowsB {b : Addr} {N : List (Ast × Int)} {f : V → Prop} (h : BdS P w K H b N) (c : Cls K (He.ga K "Bundle")) (n : NoAttr K (He.ga K "Bundle") "rows") (k : ∀ r xs, H r = some (.tup xs) → DpAll K H xs (N.map encR) → f (.ref r)) :
    ∃ a' C' dx' fs' v', V.ref b = .ref a' ∧ H a' = some (.ins C' dx' fs') ∧ Cls K C' ∧ NoAttr K C' "rows" ∧ fs'.lookup ("rows" : Str) = some v' ∧ f v' := by
  obtain ⟨dx, r, d, xs, h1, h2, h3, _⟩ := h
  exact ⟨b, _, dx, _, _, rfl, h1, c, n, rfl, k r xs h2 h3⟩
theorem catT {a b : Addr} {xs ys : List V} (ha : SqT K H a xs) (hb : SqT K H b ys) (hl : xs.length + ys.length ≤ 100000) (k : ∀ p H', Same H H' → SqT K H' p (xs ++ ys) → Q (.ref p) H') : rCatA K (.ref a) (.ref b) H Q := Rb.catA ha hb hl k
end
end Re
namespace Re
open PySem PySem.Spec PyProof.Rows L2 Bd Es Dj
section
variable {K : PySem.W.Frag} {H : Hp} {Q : VK} {a b : Addr} {x y : Str} {i j : Int}
theorem neAst (h1 : SqT K H a [.str x, .int i]) (h2 : SqT K H b [.str y, .int j]) (o1 : OkA (x, i)) (o2 : OkA (y, j)) (k : Q (.bl (!decide ((x, i) = (y, j)))) H) : rNeD K (.ref a) (.ref b) H Q :=
  ⟨encA (x, i), encA (y, j), astDp h1, astDp h2, encA_shaped o1, encA_shaped o2, by rw [encA_eqv]; exact k⟩
theorem eqAst (h1 : SqT K H a [.str x, .int i]) (h2 : SqT K H b [.str y, .int j]) (o1 : OkA (x, i)) (o2 : OkA (y, j)) (k : Q (.bl (decide ((x, i) = (y, j)))) H) : rEqD K (.ref a) (.ref b) H Q :=
  ⟨encA (x, i), encA (y, j), astDp h1, astDp h2, encA_shaped o1, encA_shaped o2, by rw [encA_eqv]; exact k⟩
end
end Re
namespace Es
open PySem Bd
theorem fm_no {α β : Type} (f : α → β) (p : α → Prop) [DecidablePred p] : ∀ N : List α, N.filterMap (fun e => if p e then none else some (f e)) = (N.filter fun e => !decide (p e)).map f
  | [] => rfl
  | a :: N => by
    have ih := fm_no f p N
    by_cases h : p a <;> simp [List.filterMap_cons, List.filter_cons, h, ih]
theorem fm_yes {α β : Type} (f : α → β) (p : α → Prop) [DecidablePred p] : ∀ N : List α, N.filterMap (fun e => if p e then some (f e) else none) = (N.filter fun e => decide (p e)).map f
  | [] => rfl
  | a :: N => by
    have ih := fm_yes f p N
    by_cases h : p a <;> simp [List.filterMap_cons, List.filter_cons, h, ih]
end Es
namespace Es
open PySem PySem.Spec PyProof.Rows L2 Bd Dj
theorem asS_of {K : PySem.W.Frag} {H : Hp} : ∀ {xs : List V} {A : List Ast}, DpAll K H xs (A.map encA) → ∃ ps : List (Addr × Ast), xs = ps.map (fun z => V.ref z.1) ∧ ps.map (·.2) = A ∧ AsS K H ps
  | _, [], .nil => ⟨[], rfl, rfl, fun _ h => absurd h List.not_mem_nil⟩
  | _, p :: A, .cons h t => by
    obtain ⟨z, rfl, hz⟩ := dpAst h
    obtain ⟨ps, rfl, h2, h3⟩ := asS_of t
    refine ⟨(z, p) :: ps, rfl, by rw [List.map_cons, h2], fun y hy => ?_⟩
    rcases List.mem_cons.mp hy with rfl | hy
    · exact hz
    · exact h3 y hy
section
variable {X : Cx}
/-- sorted(xs), xs a list of assets -/
def rSortedSS (K : PySem.W.Frag) : List V → Hp → VK → Prop := fun vs H Q => ∃ (a : Addr) (xs : List V) (A : List Ast), vs = [.ref a] ∧ SqL K H a xs ∧ DpAll K H xs (A.map encA) ∧
  ∀ (B : List Ast) (ys : List V) (p : Addr), B.Perm A → SrtO.Srtd ltSI B → H p = none → DpAll K H ys (B.map encA) → Q (.ref p) (upd H p (.lst ys))
theorem cr_sortedSS : CallR X (.builtin "sorted") (rSortedSS X.K) := by
  intro pins s σ H xs us Q I r q
  obtain ⟨a, xs0, A, rfl, hs, hA0, q⟩ := q
  obtain ⟨ps0, rfl, rfl, hA⟩ := asS_of hA0
  obtain ⟨its, rv, hl, hz⟩ := I.list hs
  obtain ⟨u, rfl, ru⟩ := vals1 r
  obtain rfl : u = Value.ref a := ru
  have eb : its = ps0.map fun z => Value.ref z.1 := by
    have h1 : ∀ {ps : List (Addr × (Str × Int))} {us : List Value}, Vals (ps.map fun z => V.ref z.1) us → us = ps.map fun z => Value.ref z.1 := by
      intro ps
      induction ps with
      | nil => intro us h; cases h; rfl
      | cons z ps ih =>
        intro us h
        rw [List.map_cons] at h
        cases h with
        | cons h t => rw [ih t, List.map_cons, show _ = Value.ref z.1 from h]
    exact h1 rv
  have hsi : ∀ v ∈ its, IsSI s.heap v (siOf s.heap v) := fun v hv => by
    rw [eb] at hv
    obtain ⟨zz, hz, rfl⟩ := List.mem_map.mp hv
    have q := isSI_C I (hA zz hz)
    rw [q.of]; exact q
  refine SrtO.sorted_ord (ltv := fun v u => ltSI (siOf s.heap v) (siOf s.heap u)) (swo_SI (siOf s.heap)) hl.isList (by rw [← rv.length]; exact hz) (fun h2 h₁ a' ha' kk => ?_) fun out h1 h2 => ?_
  · refine si_sortable (s := { s with heap := h₁ }) (by omega) (fun v hm => (hsi v hm).keeps fun b o e _ => (kk b o e).2) fun o e => ?_
    have e' : some o = some (seqObj "list" its.toArray 0) := e.symm.trans ha'
    cases e'
    intro c
    exact absurd (Value.type.inj c) (by decide)
  · obtain ⟨ps, b1, b2⟩ := perm_lift (fun z : Addr × (Str × Int) => Value.ref z.1) h2.perm ps0 eb.symm
    have hAs : AsS X.K H ps := fun z hz => hA z (b1.mem_iff.mp hz)
    have hk2 : ∀ z ∈ ps, siOf s.heap (Value.ref z.1) = z.2 := fun z hz => (isSI_C I (hAs z hz)).of
    have hsr : SrtO.Srtd ltSI (ps.map (·.2)) := by
      rw [← b2] at h1
      have h1' := List.pairwise_map.mp h1
      refine List.pairwise_map.mpr (h1'.imp_of_mem fun {x y} hx hy hh => ?_)
      have hh' : ltSI (siOf s.heap (Value.ref y.1)) (siOf s.heap (Value.ref x.1)) = false := hh
      rw [hk2 x hx, hk2 y hy] at hh'
      exact hh'
    have hd : s.heap.objs.size ≤ s.heap.objs.size + 1 := Nat.le_succ _
    obtain ⟨n, hn⟩ := sortedAll_at s.heap its out.toArray
    refine ⟨.ref (s.heap.objs.size + 1), upd H (s.heap.objs.size + 1) (.lst (ps.map fun z => V.ref z.1)), I.laid (t' := s.toks) (fun b o e => sortedAll_old e) hd ⟨?_, out, n, ?_, hn⟩, rfl, q (ps.map (·.2)) _ _ (b1.map _) hsr (I.hok.fresh hd) (rowsC_dp hAs)⟩
    · rw [List.length_map] at hz ⊢; rw [b1.length_eq]; exact hz
    · rw [← b2]
      have := vals_refs (ps.map (·.1))
      rw [List.map_map, List.map_map] at this
      exact this
end
end Es
namespace Re
open PySem PySem.Spec PyProof.Rows L2 Bd Es Dj
theorem notInAst {K : PySem.W.Frag} {H : Hp} {Q : VK} {a b : Addr} {x : Str} {i : Int} {xs : List V} {A : List Ast} (h1 : SqT K H a [.str x, .int i]) (h2 : SqL K H b xs) (hA : DpAll K H xs (A.map encA)) (o1 : OkA (x, i)) (o2 : ∀ p ∈ A, OkA p) (k : Q (.bl (!decide ((x, i) ∈ A))) H) : rNotInD K (.ref a) (.ref b) H Q :=
  ⟨encA (x, i), A.map encA, astDp h1, .lst h2 hA, encA_shaped o1, encAs_shaped o2, by rw [encA_any]; exact k⟩
end Re
namespace Re
open PySem PySem.Spec PyProof.Rows L2 Bd Es Dj
theorem inOwnB {P : Program} {w : World} {K : PySem.W.Frag} {H : Hp} {Q : VK} {E : XK} {sp : Sp} {x : V} {b : Addr} {N : List (Ast × Int)} (h : BdS P w K H b N) (k : sp [.ref b, x] H (fun v H' => ∃ t, v = .bl t ∧ Q (.bl t) H') E) : rInOwn (He.ga K "Bundle") sp E x (.ref b) H Q := by
  obtain ⟨dx, fs, h1, _⟩ := bd_ins h
  exact ⟨b, dx, fs, rfl, h1, k⟩
theorem boolOwnB {P : Program} {w : World} {K : PySem.W.Frag} {H : Hp} {Q : VK} {E : XK} {sp : Sp} {b : Addr} {N : List (Ast × Int)} (h : BdS P w K H b N) (k : sp [.ref b] H (fun v H' => ∃ t, v = .bl t ∧ Q (.bl t) H') E) : rBoolOwn (He.ga K "Bundle") sp E [.ref b] H Q := by
  obtain ⟨dx, fs, h1, _⟩ := bd_ins h
  exact ⟨b, dx, fs, rfl, h1, k⟩
end Re
namespace Re
open PySem PySem.Spec PyProof.Rows L2 Bd Es Dj
theorem fldK {K : PySem.W.Frag} {H : Hp} {R : V → Prop} {a C dx : Addr} {fs : List (Str × V)} {f : Str} {v : V} (h : H a = some (.ins C dx fs)) (c : Cls K C) (n : NoAttr K C f) (l : fs.lookup f = some v) (k : R v) :
    ∃ a' C' dx' fs' v', V.ref a = .ref a' ∧ H a' = some (.ins C' dx' fs') ∧ Cls K C' ∧ NoAttr K C' f ∧ fs'.lookup f = some v' ∧ R v' := ⟨a, C, dx, fs, v, rfl, h, c, n, l, k⟩
end Re
namespace Es
open PySem PySem.Spec PyProof.Rows L2 Bd Dj
theorem astAt {K : PySem.W.Frag} {H : Hp} {xs : List V} {A : List Ast} {i : Nat} (h : DpAll K H xs (A.map encA)) (hi : i < A.length) : ∃ z p, atI xs (i : Int) = some (.ref z) ∧ A[i]? = some p ∧ p ∈ A ∧ SqT K H z [.str p.1, .int p.2] := by
  have hl : xs.length = A.length := by rw [Rd.dpAll_len h, List.length_map]
  have h1 : xs[i]? = some xs[i] := List.getElem?_eq_getElem (by omega)
  obtain ⟨d, hd, hx⟩ := dpAll_at h h1
  obtain ⟨p, hp, rfl⟩ := map_at hd
  obtain ⟨z, hz0, hz⟩ := dpAst hx
  exact ⟨z, p, atI_nat (h1.trans (by rw [hz0])), hp, List.mem_of_getElem? hp, hz⟩
theorem strOk_SS {l m : List Nat} (h : PyData.strOk (Rd.S l) = true) (k : PyData.strOk (Rd.S m) = true) : PyData.strOk (Rd.S (l ++ m)) = true := by rw [← Rd.S_app]; exact strOk_app h k
end Es

set_option Elab.async false
set_option linter.all false
set_option maxRecDepth 100000
/-! Texts of up to a million signs; a scanner over a text; the notation of values. -/
namespace Ez
open PySem PySem.Spec PyProof.Rows L2 Dj Es
theorem sz2 {n : Nat} (h : n ≤ 1000000) : n ≤ sizeLine := Nat.le_trans h (by decide)
section
variable {X : Cx} {K : PySem.W.Frag} {σ : L2.St} {H : Hp} {Q : VK}
def LeSK : R2 := fun x y H Q => ∃ i j : List Nat, x = .str (Rd.S i) ∧ y = .str (Rd.S j) ∧ Q (.bl (!decide (j < i))) H
theorem op_leS : OpR X (compareOp .LtE) LeSK := by
  intro pins s σ H x y v u Q I rx ry h
  obtain ⟨i, j, e1, e2, q⟩ := h
  exact op_le_str pins s σ H x y v u Q I rx ry ⟨_, _, e1, e2, by rw [Rd.S_tl, Rd.S_tl]; exact q⟩
theorem leS {i j : List Nat} (k : Q (.bl (!decide (j < i))) H) : LeSK (.str (Rd.S i)) (.str (Rd.S j)) H Q := ⟨i, j, rfl, rfl, k⟩
theorem ixS2 {l : List Nat} {i : Int} {c : Nat} (h : l.length ≤ 1000000) (a : atI l i = some c) (k : Q (.str (Rd.S [c])) H) : rIxS (.str (Rd.S l)) (.int i) H Q := ⟨Rd.S l, i, c, rfl, rfl, sz2 (by rw [Rd.S_len]; exact h), by rw [Rd.S_tl]; exact a, k⟩
theorem lenS2 {l : List Nat} (h : l.length ≤ 1000000) (k : Q (.int l.length) H) : Rd.LenSK [.str (Rd.S l)] H Q := ⟨_, rfl, sz2 (by rw [Rd.S_len]; exact h), by rw [Rd.S_len]; exact k⟩
theorem addS2 {l m : List Nat} (h : l.length + m.length ≤ 1000000) (k : Q (.str (Rd.S (l ++ m))) H) : Rd.AddSK (.str (Rd.S l)) (.str (Rd.S m)) H Q := ⟨_, _, rfl, rfl, sz2 (by rw [Rd.S_len, Rd.S_len]; exact h), by rw [Rd.S_app]; exact k⟩
theorem slS2 {l : List Nat} {a b : Nat} {i j : Int} (ha : i = a) (hb : j = b) (hl : l.length ≤ 1000000) (hab : a ≤ l.length) (k : Q (.str (Rd.S ((l.drop a).take (b - a)))) H) : rSlS (.str (Rd.S l)) (some i) (some j) H Q := by
  subst ha hb
  refine ⟨Rd.S l, rfl, sz2 (by rw [Rd.S_len]; exact hl), ?_⟩
  have e : cutS (Rd.S l) (some (a : Int)) (some (b : Int)) = Rd.S ((l.drop a).take (b - a)) := by
    unfold cutS
    rw [Rd.S_tl, Rd.S_len, HT.sIx_nat, HT.sIx_nat]
    show Rd.S _ = Rd.S _
    congr 1
    rw [Nat.min_eq_left hab]
    by_cases h : b ≤ l.length
    · rw [Nat.min_eq_left h]
    · rw [Nat.min_eq_right (by omega), List.take_of_length_le (by simp), List.take_of_length_le (by simp; omega)]
  rw [e]; exact k
/-- for sign in a text -/
theorem iS {te : TE} {R : It → Hp → Prop} (k : te σ H fun v H1 => ∃ x, v = .str x ∧ R (Its x) H1) : iStr te σ H R := k
theorem forS {l : List Nat} {j : Nat} {tb : TS} {n b c : L2.St → Hp → Prop} {r : VK} (Pv : Nat → L2.St → Hp → Prop) (h0 : Pv 0 σ H)
    (hs : ∀ (i : Nat) (x : Nat) (σ' : L2.St) (H' : Hp), l[i]? = some x → Pv i σ' H' → tb ⟨Pv (i + 1), r, n, Pv (i + 1)⟩ (σ'.set j (some (.str (Rd.S [x])))) H') (hd : ∀ σ' H', Pv l.length σ' H' → n σ' H') :
    ∃ x, V.str (Rd.S l) = V.str x ∧ Rd.ForJ (gName j) tb ⟨n, r, b, c⟩ σ (Its x) H := by
  refine ⟨_, rfl, fun i m σ H => m = l.length - i ∧ i ≤ l.length ∧ Pv i σ H, ⟨_, rfl, Nat.zero_le _, h0⟩, ?_⟩
  rintro i m σ' H' ⟨rfl, hi, p⟩
  have hz : (Rd.S l).cps.size = l.length := Rd.S_len l
  by_cases hlt : i < l.length
  · refine .inr ⟨by show i < (Rd.S l).cps.size; omega, Pv (i + 1), fun σ2 H2 p2 => ⟨l.length - (i + 1), by omega, rfl, hlt, p2⟩, ?_⟩
    rintro x H2 ⟨e, z, hz2, rfl⟩
    subst e
    have hz3 : l[i]? = some z := by
      have : (Rd.S l).cps[i]? = l[i]? := by show l.toArray[i]? = l[i]?; simp
      rw [← this]; exact hz2
    exact hs i z σ' _ hz3 p
  · have e : i = l.length := by omega
    subst e
    exact .inl ⟨by show (Rd.S l).cps.size ≤ l.length; omega, hd _ _ p⟩
/-- sep.join(texts) -/
def JoinK (K : PySem.W.Frag) : V → List V → Hp → VK → Prop := fun x xs H Q => ∃ (a : List Nat) (p : Addr) (ys : List (List Nat)), x = .str (Rd.S a) ∧ xs = [.ref p] ∧ SqL K H p (ys.map fun y => V.str (Rd.S y)) ∧ (ys.map List.length).sum + ys.length * a.length ≤ 16777216 ∧ Q (.str (Rd.S (TL.joinL a ys))) H
theorem mt_joinK : MtR X "str.join" (JoinK X.K) := by
  intro pins s σ H x xs v us Q I rx rs h
  obtain ⟨a, p, ys, e1, e2, h1, h2, q⟩ := h
  refine mt_join pins s σ H x xs v us Q I rx rs ⟨Rd.S a, p, ys.map Rd.S, e1, e2, .inl (by rw [List.map_map]; exact h1), ?_, ?_⟩
  · rw [List.map_map, List.length_map, Rd.S_len]
    have e : (ys.map ((fun x : Str => x.length) ∘ Rd.S)) = ys.map List.length := List.map_congr_left fun y _ => Rd.S_len y
    rw [e]; exact h2
  · have e : Txt.join (Rd.S a) (ys.map Rd.S) = Rd.S (TL.joinL a ys) := SX.join_S a ys
    rw [e]; exact q
theorem pe_joinK {o e : Expr} {to te : TE} {apos pos : Pos} (ho : PE X o to) (he : PE X e te) (hs : starEach [e] X.env = [(false, eval e X.env)] := by rfl) (hbase : attributeBase o "join" X.env (eval o X.env) = eval o X.env := by rfl) (hline : (apos.endLine == pos.line) = true := by rfl) :
    PE X (.Call (.Attribute o "join" apos) [e] [] pos) (tM1 (JoinK X.K) to te) :=
  pe_m1 PySem.F.slot_str_join PySem.F.type_str_join mt_joinK ho he hs hbase hline
theorem joinR {r : V → List V → Hp → VK → Prop} {to te : TE} (k : to σ H fun x H1 => (∃ a, x = .str a) ∧ te σ H1 fun y H2 => r x [y] H2 Q) : tM1 r to te σ H Q := k
theorem strA {a : Str} {P : Prop} (k : P) : (∃ b, V.str a = .str b) ∧ P := ⟨⟨a, rfl⟩, k⟩
theorem joinS {a : List Nat} {p : Addr} {ys : List (List Nat)} (h : SqL K H p (ys.map fun y => V.str (Rd.S y))) (hz : (ys.map List.length).sum + ys.length * a.length ≤ 16777216) (k : Q (.str (Rd.S (TL.joinL a ys))) H) : JoinK K (.str (Rd.S a)) [.ref p] H Q := ⟨a, p, ys, rfl, rfl, h, hz, k⟩
/-- f-strings -/
theorem tJ0 {acc : Str} {Qs : Str → Hp → Prop} (k : Qs acc H) : tJs [] acc σ H Qs := k
theorem tJ1 {t : TE} {ts : List TE} {acc : Str} {Qs : Str → Hp → Prop} (k : t σ H fun x H1 => ∃ y : Str, x = .str y ∧ (acc ++ y).length ≤ sizeLine ∧ tJs ts (acc ++ y) σ H1 Qs) : tJs (t :: ts) acc σ H Qs := k
theorem fmt {te : TE} (k : te σ H fun x H1 => (∃ y : Str, x = .str y ∧ y.length ≤ sizeLine ∧ Q (.str y) H1) ∨ ∃ i : Int, x = .int i ∧ i.natAbs.log2 < 1920 ∧ Q (.str (toString i)) H1) : tFmt te σ H Q := k
/-- a field that grows -/
theorem fldAug {ta tv : TE} {rd : V → V → Hp → VK → Prop} {f : Str} {n b c : L2.St → Hp → Prop} {r : VK} (k : ta σ H fun x H1 => ∃ a C dx fs v, x = .ref a ∧ H1 a = some (.ins C dx fs) ∧ Cls K C ∧ NoAttr K C f ∧ fs.lookup f = some v ∧
  tv σ H1 fun y H2 => rd v y H2 fun z H3 => ∃ dx' fs', H3 a = some (.ins C dx' fs') ∧ fs'.length < 1000 ∧ n σ (upd H3 a (.ins C dx' (putF f z fs')))) : sFldAug K ta tv rd f ⟨n, r, b, c⟩ σ H := k
def OrdK : List V → Hp → VK → Prop := fun xs H Q => ∃ c : Nat, xs = [.str (Rd.S [c])] ∧ Q (.int (c : Int)) H
theorem call_ordK : CallR X (.builtin "ord") OrdK := by
  intro pins s σ H xs us Q I r h
  obtain ⟨c, e, q⟩ := h
  exact call_ord pins s σ H xs us Q I r ⟨Rd.S [c], e, rfl, q⟩
theorem ordS {c : Nat} (k : Q (.int (c : Int)) H) : OrdK [.str (Rd.S [c])] H Q := ⟨c, rfl, k⟩
/-- the greatest of a list -/
theorem maxL {a : Addr} {ns : List Int} (h : SqL K H a (ns.map V.int)) (hl : 0 < ns.length) (k : ∀ m, m ∈ ns → (∀ y, y ∈ ns → y ≤ m) → Q (.int m) H) : rMax K [.ref a] H Q := ⟨a, ns, rfl, h, hl, k⟩
end
theorem iteC {p : Prop} [Decidable p] {σ : L2.St} {H : Hp} {Q : VK} {a b : Int} (L : Int → Prop) (ha : p → L a) (hb : ¬ p → L b) (hQ : ∀ M, L M → Q (.int M) H) : if decide p = true then tC (.int a) σ H Q else tC (.int b) σ H Q := by
  by_cases h : p
  · rw [decide_eq_true h, if_pos rfl]; exact hQ a (ha h)
  · rw [decide_eq_false h, if_neg Bool.false_ne_true]; exact hQ b (hb h)
/-! the notation -/
def num (i : Int) : List Nat := if i < 0 then 45 :: TL.numL i.natAbs else TL.numL i.natAbs
mutual
def wr : PyData → List Nat
  | .bool b => [if b then 84 else 70]
  | .int i => num i
  | .str s => TL.numL s.cps.toList.length ++ 58 :: s.cps.toList
  | .tuple ds => 40 :: (TL.joinL [32] (wrl ds) ++ [41])
  | _ => [63]
def wrl : List PyData → List (List Nat)
  | [] => []
  | d :: ds => wr d :: wrl ds
end
def gs (l : List Nat) : Bool := decide (l.length ≤ 1000) && l.all fun c => decide (32 ≤ c) && decide (c ≤ 126) && !decide (c = 37)
mutual
def gd : PyData → Bool
  | .bool _ => true
  | .int i => decide (i.natAbs < 10 ^ 60)
  | .str s => gs s.cps.toList
  | .tuple ds => decide (ds.length ≤ 1000) && gds ds
  | _ => false
def gds : List PyData → Bool
  | [] => true
  | d :: ds => gd d && gds ds
end
theorem wrl_map : ∀ ds : List PyData, wrl ds = ds.map wr
  | [] => by simp only [wrl, List.map_nil]
  | d :: ds => by simp only [wrl, List.map_cons, wrl_map ds]
theorem gds_mem : ∀ {ds : List PyData}, gds ds = true ↔ ∀ d ∈ ds, gd d = true
  | [] => by simp [gds]
  | d :: ds => by simp only [gds, Bool.and_eq_true, List.mem_cons, forall_eq_or_imp, gds_mem (ds := ds)]
theorem gd_tup {ds : List PyData} (h : gd (.tuple ds) = true) : ds.length ≤ 1000 ∧ gds ds = true := by
  simp only [gd, Bool.and_eq_true] at h
  exact ⟨of_decide_eq_true h.1, h.2⟩
mutual
theorem gd_nl : ∀ {d : PyData}, gd d = true → nl d = true
  | .bool _, _ => rfl
  | .int _, _ => rfl
  | .str _, _ => rfl
  | .tuple ds, h => by simp only [gd, Bool.and_eq_true] at h; simp only [nl]; exact gds_nl h.2
  | .none, h => by simp [gd] at h
  | .list _, h => by simp [gd] at h
  | .dict _, h => by simp [gd] at h
theorem gds_nl : ∀ {ds : List PyData}, gds ds = true → nlAll ds = true
  | [], _ => rfl
  | d :: ds, h => by simp only [gds, Bool.and_eq_true] at h; simp only [nlAll, Bool.and_eq_true]; exact ⟨gd_nl h.1, gds_nl h.2⟩
end
theorem num_str (i : Int) : (Str.ofString (toString i)) = Rd.S (num i) := by
  unfold num
  by_cases h : i < 0
  · rw [if_pos h, PyProof.Rows.toString_neg h]
    obtain ⟨n, hn⟩ : ∃ n : Nat, 0 - i = (n : Int) := ⟨(-i).toNat, by omega⟩
    have hn2 : i.natAbs = n := by omega
    have e := SX.num_S n
    rw [hn, hn2]
    rw [Str.ofString_eq_toList] at e ⊢
    rw [String.toList_append, List.map_append]
    have e2 : ((toString (n : Int)).toList.map Char.toNat) = TL.numL n := SX.S_inj e
    rw [e2]
    rfl
  · rw [if_neg h]
    obtain ⟨n, rfl⟩ : ∃ n : Nat, i = (n : Int) := ⟨i.toNat, by omega⟩
    exact SX.num_S n

/-! the scanner -/
section
variable {K : PySem.W.Frag} {H H1 H2 : Hp} {s dx p : Addr} {t : List Nat} {i j : Nat} {o : HO}
abbrev scO (K : PySem.W.Frag) (dx : Addr) (t : List Nat) (i : Int) : HO := .ins (He.ga K "Scanner") dx [(("text" : Str), .str (Rd.S t)), (("at" : Str), .int i)]
abbrev Sc (K : PySem.W.Frag) (H : Hp) (s dx : Addr) (t : List Nat) (i : Nat) : Prop := H s = some (scO K dx t (i : Int))
structure Adv (K : PySem.W.Frag) (s dx : Addr) (t : List Nat) (i : Nat) (H H' : Hp) : Prop where
  keep : Beside s H H'
  sc : Sc K H' s dx t i
theorem Adv.refl (h : Sc K H s dx t i) : Adv K s dx t i H H := ⟨fun _ _ _ e => e, h⟩
theorem Adv.trans (a : Adv K s dx t i H H1) (b : Adv K s dx t j H1 H2) : Adv K s dx t j H H2 := ⟨fun x o h e => b.keep x o h (a.keep x o h e), b.sc⟩
theorem Adv.same (a : Adv K s dx t i H H1) (e : Same H1 H2) : Adv K s dx t i H H2 := ⟨fun x o h q => e _ _ (a.keep x o h q), e _ _ a.sc⟩
theorem Adv.new (a : Adv K s dx t i H H1) (hp : H1 p = none) : Adv K s dx t i H (upd H1 p o) := a.same (Rd.same_new hp)
theorem Adv.step (a : Adv K s dx t i H H1) {z : Int} (e : z = (j : Int)) : Adv K s dx t j H (upd H1 s (scO K dx t z)) := ⟨fun x o h q => (upd_ne h).trans (a.keep x o h q), by subst e; exact upd_same⟩
theorem Adv.step0 (h : Sc K H s dx t i) {z : Int} (e : z = (j : Int)) : Adv K s dx t j H (upd H s (scO K dx t z)) := (Adv.refl h).step e
theorem Adv.dp (a : Adv K s dx t j H H1) (h : Sc K H s dx t i) {x : V} {d : PyData} (q : Dp K H x d) : Dp K H1 x d := a.keep.dp h q
theorem Adv.dpAll (a : Adv K s dx t j H H1) (h : Sc K H s dx t i) {xs : List V} {ds : List PyData} (q : DpAll K H xs ds) : DpAll K H1 xs ds := a.keep.dpAll h q
/-- a list beside the scanner that grows -/
theorem Adv.at (a : Adv K s dx t j H H1) (h : Sc K H s dx t i) {xs : List V} (q : H p = some (.lst xs)) : H1 p = some (.lst xs) := a.keep _ _ (fun e => by subst e; have h2 := q.symm.trans h; cases h2) q
end
section
variable {K : PySem.W.Frag} {H H1 H2 : Hp} {s dx p : Addr} {t : List Nat} {i j : Nat} {o : HO}
theorem Adv.free (a : Adv K s dx t i H H1) (hp : H1 p = none) : H p = none := by
  cases e : H p with
  | none => rfl
  | some o =>
    by_cases q : p = s
    · subst q; have h2 := hp.symm.trans a.sc; cases h2
    · rw [a.keep _ _ q e] at hp; cases hp
theorem Adv.mut (a : Adv K s dx t i H H1) (hp : H p = none) (h : Sc K H s dx t j) : Adv K s dx t i H (upd H1 p o) := by
  have hne : s ≠ p := fun e => by subst e; have h2 := hp.symm.trans h; cases h2
  exact ⟨fun x o h e => by
    rw [upd_ne (fun q => by subst q; rw [hp] at e; cases e)]
    exact a.keep x o h e, (upd_ne hne).trans a.sc⟩
end
theorem augSc {K : PySem.W.Frag} {σ : L2.St} {H : Hp} {s dx : Addr} {t : List Nat} {i q : Nat} {n b c : L2.St → Hp → Prop} {r : VK} (hv : σ[q]? = some (some (.ref s))) (h : Sc K H s dx t i) (hc : Cls K (He.ga K "Scanner")) (hn : NoAttr K (He.ga K "Scanner") "at")
    (k : n σ (upd H s (scO K dx t ((i : Int) + 1)))) : sFldAug K (tVar q) (tC (.int 1)) rAdd "at" ⟨n, r, b, c⟩ σ H := by
  refine fldAug (Rd.var hv ⟨s, _, dx, _, _, rfl, h, hc, hn, rfl, ?_⟩)
  exact Rd.cst ⟨_, _, rfl, rfl, dx, _, h, by show 2 < 1000; decide, k⟩
theorem head_at {t r : List Nat} {i c : Nat} (h : t.drop i = c :: r) : t[i]? = some c ∧ i < t.length ∧ t.drop (i + 1) = r := by
  have h1 : i < t.length := by
    by_cases q : i < t.length
    · exact q
    · rw [List.drop_of_length_le (by omega)] at h; cases h
  refine ⟨?_, h1, ?_⟩
  · have := congrArg List.head? h
    rw [List.head?_drop] at this
    exact this
  · rw [← List.drop_drop, h]; rfl
theorem drop_app {t l r : List Nat} {i : Nat} (h : t.drop i = l ++ r) : t.drop (i + l.length) = r := by rw [← List.drop_drop, h, List.drop_left]
theorem drop_bd {t l r : List Nat} {i : Nat} (h : t.drop i = l ++ r) (hl : l ≠ []) : i + l.length ≤ t.length := by
  have e := congrArg List.length h
  rw [List.length_drop, List.length_append] at e
  have : 0 < l.length := List.length_pos_iff.mpr hl
  omega
def isd : List Nat → Bool
  | [] => false
  | c :: _ => decide (48 ≤ c) && decide (c ≤ 57)
theorem lt11 {a b : Nat} : (([a] : List Nat) < [b]) ↔ a < b := by simp [List.cons_lt_cons_iff]
theorem lt01 {b : Nat} : (([] : List Nat) < [b]) := by simp
theorem numL_head (n : Nat) : ∃ c r, TL.numL n = c :: r ∧ 48 ≤ c ∧ c ≤ 57 ∧ (0 < n → 49 ≤ c) ∧ (c = 48 → r = []) := by
  induction n using Nat.strongRecOn with
  | _ n ih =>
    by_cases h : n < 10
    · rw [TL.numL_lt h]
      exact ⟨48 + n, [], rfl, by omega, by omega, by omega, fun _ => rfl⟩
    · rw [TL.numL_step (by omega)]
      obtain ⟨c, r, e, h1, h2, h3, h4⟩ := ih (n / 10) (by omega)
      have h5 := h3 (by omega)
      exact ⟨c, r ++ [48 + n % 10], by rw [e]; rfl, h1, h2, fun _ => h5, by omega⟩
theorem numL_int {n : Nat} (h : n < 10 ^ 60) : PySem.intText? (Rd.S (TL.numL n)) = some (n : Int) ∧ (TL.numL n).length ≤ 60 := by
  have hl := TL.numL_len (n := n) (k := 60) (by decide) h
  have e := TL.int_num (n := n) (by omega)
  rw [SX.num_S] at e
  exact ⟨e, hl⟩
/-- what may stand behind a value -/
def stp (r : List Nat) : Prop := ∀ c l, r = c :: l → c = 32 ∨ c = 41
theorem stp_nil : stp [] := fun _ _ h => by cases h
theorem stp_32 (l : List Nat) : stp (32 :: l) := fun c l' h => by cases h; exact .inl rfl
theorem stp_41 (l : List Nat) : stp (41 :: l) := fun c l' h => by cases h; exact .inr rfl
/-- what stands behind a tuple's first item -/
def tlw : List PyData → List Nat
  | [] => []
  | e :: es => 32 :: (wr e ++ tlw es)
theorem wr_head {d : PyData} (h : gd d = true) : ∃ c l, wr d = c :: l ∧ c ≠ 32 ∧ c ≠ 41 := by
  cases d with
  | bool b => exact ⟨_, _, rfl, by cases b <;> decide, by cases b <;> decide⟩
  | int i =>
    simp only [wr, num]
    split
    · exact ⟨_, _, rfl, by decide, by decide⟩
    · obtain ⟨c, r, e, h1, h2, _⟩ := numL_head i.natAbs
      exact ⟨c, r, e, by omega, by omega⟩
  | str z =>
    obtain ⟨c, r, e, h1, h2, _⟩ := numL_head z.cps.toList.length
    exact ⟨c, r ++ 58 :: z.cps.toList, by simp only [wr, e, List.cons_append], by omega, by omega⟩
  | tuple ds => exact ⟨_, _, rfl, by decide, by decide⟩
  | none => simp [gd] at h
  | list _ => simp [gd] at h
  | dict _ => simp [gd] at h
theorem wr_tup (d : PyData) (ds : List PyData) : TL.joinL [32] (wrl (d :: ds)) = wr d ++ tlw ds := by
  induction ds generalizing d with
  | nil => simp [wrl, TL.joinL, tlw]
  | cons e es ih =>
    have h := ih e
    simp only [wrl] at h ⊢
    simp only [TL.joinL, tlw, h, List.cons_append, List.nil_append]
theorem stp_tlw (es : List PyData) (r : List Nat) : stp (tlw es ++ 41 :: r) := by
  cases es with
  | nil => exact stp_41 _
  | cons e es => exact stp_32 _
theorem stp_isd {r : List Nat} (h : stp r) : isd r = false := by
  cases r with
  | nil => rfl
  | cons c l =>
    have := h c l rfl
    show (decide (48 ≤ c) && decide (c ≤ 57)) = false
    rw [decide_eq_false (by omega : ¬ 48 ≤ c)]; rfl
theorem wr_neg {m : Nat} (h : 0 < m) : wr (.int (-(m : Int))) = 45 :: TL.numL m := by
  simp only [wr, num]
  rw [if_pos (by omega), Int.natAbs_neg, Int.natAbs_natCast]
theorem wr_nat {m : Nat} : wr (.int (m : Int)) = TL.numL m := by
  simp only [wr, num]
  rw [if_neg (by omega), Int.natAbs_natCast]
theorem gd_nat {m : Nat} (h : gd (.int (m : Int)) = true) : m < 10 ^ 60 := by
  simp only [gd] at h
  have := of_decide_eq_true h
  omega
theorem gd_neg {m : Nat} (h : gd (.int (-(m : Int))) = true) : m < 10 ^ 60 := by
  simp only [gd] at h
  have := of_decide_eq_true h
  omega
theorem gs_len {l : List Nat} (h : gs l = true) : l.length ≤ 1000 := by
  unfold gs at h
  rw [Bool.and_eq_true] at h
  exact of_decide_eq_true h.1
theorem appd2 {l : Addr} {xs : List V} {v : V} {H : Hp} {Q : VK} (h : H l = some (.lst xs)) (hz : xs.length < 1000000) (k : Q .non (upd H l (.lst (xs ++ [v])))) : rAppend (.ref l) [v] H Q := ⟨l, xs, v, rfl, rfl, h, Nat.lt_of_lt_of_le hz (by decide), k⟩
theorem len_tlw (es : List PyData) : es.length ≤ (tlw es).length := by
  induction es with
  | nil => simp
  | cons e es ih => simp only [tlw, List.length_cons, List.length_append]; omega
theorem wr_len (d : PyData) (ds : List PyData) : (wr (.tuple (d :: ds))).length = (wr d).length + (tlw ds).length + 2 := by
  simp only [wr, wr_tup, List.length_cons, List.length_append, List.length_nil]
theorem z60 {z : Int} (h : gd (.int z) = true) : z.natAbs.log2 < 1920 := by
  simp only [gd] at h
  have h2 := of_decide_eq_true h
  exact Nat.lt_of_lt_of_le (PySem.Flt.log2_lt_of (k := 200) (by decide) (Nat.lt_of_lt_of_le h2 (by decide))) (by decide)
theorem join_sum : ∀ ys : List (List Nat), (ys.map List.length).sum + ys.length ≤ (TL.joinL [32] ys).length + 1
  | [] => by simp [TL.joinL]
  | [y] => by simp [TL.joinL]
  | y :: z :: ys => by
    have := join_sum (z :: ys)
    simp only [TL.joinL, List.map_cons, List.sum_cons, List.length_cons, List.length_append, List.length_nil] at this ⊢
    omega
theorem join_mem {y : List Nat} : ∀ {ys : List (List Nat)}, y ∈ ys → y.length ≤ (TL.joinL [32] ys).length := fun {ys} h => by
  have h1 := join_sum ys
  have h2 : y.length ≤ (ys.map List.length).sum := by
    clear h1
    induction ys with
    | nil => cases h
    | cons z ys ih =>
      rcases List.mem_cons.mp h with rfl | h
      · simp only [List.map_cons, List.sum_cons]; omega
      · have := ih h; simp only [List.map_cons, List.sum_cons]; omega
  have h3 : 0 < ys.length := List.length_pos_of_mem h
  omega
theorem strI2 {z : Int} (h : gd (.int z) = true) {H : Hp} {Q : VK} (k : Q (.str (Rd.S (wr (.int z)))) H) : Rd.StrIK [.int z] H Q := Rd.strI (z60 h) (num_str z) k
theorem gdN {m : Nat} (h : m < 10 ^ 60) : gd (.int (m : Int)) = true := by simp only [gd]; exact decide_eq_true (by omega)
theorem strN {m : Nat} (h : m < 10 ^ 60) {H : Hp} {Q : VK} (k : Q (.str (Rd.S (TL.numL m))) H) : Rd.StrIK [.int (m : Int)] H Q := Rd.strI (z60 (gdN h)) (SX.num_S m) k
theorem dp_strs {K : PySem.W.Frag} {H : Hp} : ∀ {xs : List V} {ls : List PyData}, DpAll K H xs (ls.map fun d => .str (Rd.S (wr d))) → xs = (wrl ls).map fun y => V.str (Rd.S y)
  | _, [], .nil => rfl
  | _, l :: ls, .cons h t => by cases h; rw [dp_strs t]; simp only [wrl, List.map_cons]
section
variable {σ : L2.St} {H : Hp} {Q : VK}
theorem fmtI {R : Str → Prop} {m : Nat} (h : m < 10 ^ 60) (k : R (Rd.S (TL.numL m))) : (∃ y : Str, V.int (m : Int) = .str y ∧ y.length ≤ sizeLine ∧ R y) ∨ ∃ i : Int, V.int (m : Int) = .int i ∧ i.natAbs.log2 < 1920 ∧ R (toString i) :=
  .inr ⟨m, rfl, z60 (gdN h), by rw [SX.num_S m]; exact k⟩
theorem fmtS {R : Str → Prop} {l : List Nat} (h : l.length ≤ 1000000) (k : R (Rd.S l)) : (∃ y : Str, V.str (Rd.S l) = .str y ∧ y.length ≤ sizeLine ∧ R y) ∨ ∃ i : Int, V.str (Rd.S l) = .int i ∧ i.natAbs.log2 < 1920 ∧ R (toString i) :=
  .inl ⟨_, rfl, sz2 (by rw [Rd.S_len]; exact h), k⟩
theorem jS {ts : List TE} {Qs : Str → Hp → Prop} {a l : List Nat} (h : a.length + l.length ≤ 1000000) (k : tJs ts (Rd.S (a ++ l)) σ H Qs) : ∃ y : Str, V.str (Rd.S l) = .str y ∧ (Rd.S a ++ y).length ≤ sizeLine ∧ tJs ts (Rd.S a ++ y) σ H Qs :=
  ⟨_, rfl, by rw [Rd.S_app, Rd.S_len, List.length_append]; exact sz2 h, by rw [Rd.S_app]; exact k⟩
theorem jS0 {ts : List TE} {Qs : Str → Hp → Prop} {l : List Nat} (h : l.length ≤ 1000000) (k : tJs ts (Rd.S l) σ H Qs) : ∃ y : Str, V.str (Rd.S l) = .str y ∧ (Str.empty ++ y).length ≤ sizeLine ∧ tJs ts (Str.empty ++ y) σ H Qs := by
  have e : (Str.empty : Str) = Rd.S [] := rfl
  rw [e]
  exact jS (by simpa using h) k
end
end Ez

set_option Elab.async false
set_option linter.all false
set_option maxRecDepth 100000
set_option maxHeartbeats 4000000
/-! Data with lists in it that stands in a list that grows; dicts of written keys. -/
namespace Ef
open PySem PySem.Spec PyProof.Rows L2 Dj Es
section
variable {K : PySem.W.Frag} {H H1 H2 : Hp} {p : Addr} {o o' : HO}
/-- the heap without what stands at p -/
def dl (H : Hp) (p : Addr) : Hp := fun a => if a = p then none else H a
theorem dl_ne {a : Addr} (h : a ≠ p) : dl H p a = H a := if_neg h
theorem dl_self : dl H p p = none := if_pos rfl
theorem dl_same : Same (dl H p) H := fun a o h => by
  by_cases e : a = p
  · subst e; rw [dl_self] at h; cases h
  · rw [dl_ne e] at h; exact h
theorem dl_upd : dl (upd H p o) p = dl H p := by
  funext a
  by_cases e : a = p
  · subst e; rw [dl_self, dl_self]
  · rw [dl_ne e, dl_ne e, upd_ne e]
theorem same_dl (s : Same H1 H2) : Same (dl H1 p) (dl H2 p) := fun a o h => by
  by_cases e : a = p
  · subst e; rw [dl_self] at h; cases h
  · rw [dl_ne e] at h ⊢; exact s _ _ h
theorem sameT_dl {l : List V} (h : H p = some (.lst l)) : SameT H (dl H p) := fun a o ha n => by
  rw [dl_ne fun e => by subst e; rw [h] at ha; exact n l (Option.some.inj ha).symm]; exact ha
/-- data that leans on no list that stood before -/
def FrD (K : PySem.W.Frag) (H H' : Hp) (v : V) (d : PyData) : Prop := ∀ p l, H p = some (.lst l) → Dp K (dl H' p) v d
/-- data behind a store at something else -/
theorem sqT_off {a : Addr} {xs : List V} (hp : H p = some o) (h1 : ∀ ys, o ≠ .tup ys) (h2 : ∀ z u, o ≠ .frz z u) (h : SqT K H a xs) : SqT K (upd H p o') a xs := sqT_upd hp h1 h2 h
theorem sqL_off {a : Addr} {xs : List V} (hp : H p = some o) (h1 : ∀ ys, o ≠ .lst ys) (h2 : ∀ z u, o ≠ .frz z u) (h : SqL K H a xs) : SqL K (upd H p o') a xs := by
  rcases h with (h | ⟨z, h⟩) | h
  · exact .inl (.inl ((upd_ne fun e => by rw [e, hp] at h; exact h1 _ (Option.some.inj h)).trans h))
  · exact .inl (.inr ⟨z, (upd_ne fun e => by rw [e, hp] at h; exact h2 _ _ (Option.some.inj h)).trans h⟩)
  · exact .inr h
theorem dp_off (hp : H p = some o) (h0 : ∀ ys, o ≠ .lst ys) (h1 : ∀ ys, o ≠ .tup ys) (h2 : ∀ z u, o ≠ .frz z u) : ∀ {x : V} {d : PyData}, Dp K H x d → Dp K (upd H p o') x d
  | _, _, .non => .non
  | _, _, .bl b => .bl b
  | _, _, .int i => .int i
  | _, _, .str x => .str x
  | _, _, .lst h a => .lst (sqL_off hp h0 h2 h) (go hp h0 h1 h2 a)
  | _, _, .tup h a => .tup (sqT_off hp h1 h2 h) (go hp h0 h1 h2 a)
where go (hp : H p = some o) (h0 : ∀ ys, o ≠ .lst ys) (h1 : ∀ ys, o ≠ .tup ys) (h2 : ∀ z u, o ≠ .frz z u) : ∀ {xs : List V} {ds : List PyData}, DpAll K H xs ds → DpAll K (upd H p o') xs ds
  | _, _, .nil => .nil
  | _, _, .cons h t => .cons (dp_off hp h0 h1 h2 h) (go hp h0 h1 h2 t)
theorem dpAll_off (hp : H p = some o) (h0 : ∀ ys, o ≠ .lst ys) (h1 : ∀ ys, o ≠ .tup ys) (h2 : ∀ z u, o ≠ .frz z u) {xs : List V} {ds : List PyData} (h : DpAll K H xs ds) : DpAll K (upd H p o') xs ds := dp_off.go hp h0 h1 h2 h
end
/-! dicts of written keys -/
section
variable {K : PySem.W.Frag} {σ : L2.St} {H : Hp} {Q : VK}
theorem disp {trs : List (TE × TE)} (k : ∀ p, H p = none → tPairs trs σ (upd H p (.dK [])) fun ps H2 => H2 p = some (.dK []) ∧ ∃ kvs : List (L2.Key × V), ps = kvs.map (fun kv => (kV kv.1, kv.2)) ∧ kvs.length ≤ 15 ∧ Q (.ref p) (upd H2 p (.dK (mergeK [] kvs)))) : tDisp trs σ H Q := k
theorem pairS {tk tv : TE} {r : List (TE × TE)} {R : List (V × V) → Hp → Prop} (k : tk σ H fun x H1 => tv σ H1 fun y H2 => tPairs r σ H2 fun ps H3 => R ((x, y) :: ps) H3) : tPairs ((tk, tv) :: r) σ H R := k
theorem pairN {R : List (V × V) → Hp → Prop} (k : R [] H) : tPairs [] σ H R := k
theorem putK_new {kvs : List (L2.Key × V)} {k : L2.Key} {v : V} (h : k ∉ kvs.map (·.1)) : putK kvs k v = kvs ++ [(k, v)] := by
  unfold putK
  rw [if_neg]
  intro q
  rw [List.any_eq_true] at q
  obtain ⟨x, hx, e⟩ := q
  exact h (List.mem_map.mpr ⟨x, hx, by simpa using e⟩)
theorem merge_id : ∀ {more kvs : List (L2.Key × V)}, ((kvs ++ more).map (·.1)).Nodup → mergeK kvs more = kvs ++ more
  | [], kvs, _ => by show kvs = kvs ++ []; rw [List.append_nil]
  | p :: r, kvs, h => by
    show mergeK (putK kvs p.1 p.2) r = kvs ++ p :: r
    have hn : p.1 ∉ kvs.map (·.1) := by
      intro q
      rw [List.map_append, List.nodup_append] at h
      exact h.2.2 p.1 q p.1 (by simp) rfl
    rw [putK_new hn, merge_id (by rw [List.append_assoc]; exact h), List.append_assoc]
    rfl
/-- a dict with these keys at f, its values the data ds -/
def FdAt (K : PySem.W.Frag) (H : Hp) (f : Addr) (names : List Str) (ds : List PyData) : Prop := names.Nodup ∧ ∃ vs, H f = some (.dK ((names.map Sum.inr).zip vs)) ∧ DpAll K H vs ds
theorem FdAt.keep {f : Addr} {names : List Str} {ds : List PyData} {H' : Hp} (h : FdAt K H f names ds) (s : Same H H') : FdAt K H' f names ds := by
  obtain ⟨n, vs, h1, h2⟩ := h
  exact ⟨n, vs, s _ _ h1, dpAll_same s h2⟩
theorem fd_val : ∀ {names : List Str} {vs : List V} {ds : List PyData} {i : Nat} {s : Str} {d : PyData}, names.Nodup → DpAll K H vs ds → names[i]? = some s → ds[i]? = some d → ∃ v, valV ((names.map (Sum.inr : Str → L2.Key)).zip vs) (.inr s) = some v ∧ Dp K H v d
  | [], _, _, i, s, d, _, _, h, _ => by simp at h
  | n :: ns, _, _, i, s, d, hn, .nil, h, k => by simp at k
  | n :: ns, v :: vs, d0 :: ds, i, s, d, hn, .cons h t, h1, h2 => by
    have hn2 := List.nodup_cons.mp hn
    cases i with
    | zero =>
      simp only [List.getElem?_cons_zero, Option.some.injEq] at h1 h2
      subst h1 h2
      exact ⟨v, by rw [List.map_cons, List.zip_cons_cons]; exact valV_pos rfl, h⟩
    | succ i =>
      simp only [List.getElem?_cons_succ] at h1 h2
      obtain ⟨w, hw, hd⟩ := fd_val hn2.2 t h1 h2
      have ne : n ≠ s := fun e => hn2.1 (by rw [e]; exact List.mem_of_getElem? h1)
      exact ⟨w, by rw [List.map_cons, List.zip_cons_cons, valV_neg (fun e => ne (Sum.inr.inj e))]; exact hw, hd⟩
theorem dgetS {td ty : TE} (k : td σ H fun x H1 => ty σ H1 fun y H2 => ∃ a v, x = .ref a ∧ DGet H2 a y (some v) ∧ Q v H2) : tDGet td ty σ H Q := k
theorem fdGet {f : Addr} {names : List Str} {ds : List PyData} {s : Str} {d : PyData} {R : V → Prop} (i : Nat) (h : FdAt K H f names ds) (h1 : names[i]? = some s) (h2 : ds[i]? = some d) (k : ∀ v, Dp K H v d → R v) : ∃ a v, V.ref f = .ref a ∧ DGet H a (.str s) (some v) ∧ R v := by
  obtain ⟨n, vs, h3, h4⟩ := h
  obtain ⟨v, hv, hd⟩ := fd_val n h4 h1 h2
  refine ⟨f, v, rfl, ?_, k v hd⟩
  have := DGet.k (k := .inr s) h3
  rw [hv] at this
  exact this
theorem fdGetS {H0 : Hp} {f : Addr} {names : List Str} {ds : List PyData} {s : Str} {d : PyData} {R : V → Prop} (i : Nat) (h : FdAt K H0 f names ds) (e : Same H0 H) (h1 : names[i]? = some s) (h2 : ds[i]? = some d) (k : ∀ v, Dp K H0 v d → R v) : ∃ a v, V.ref f = .ref a ∧ DGet H a (.str s) (some v) ∧ R v := by
  obtain ⟨n, vs, h3, h4⟩ := h
  obtain ⟨v, hv, hd⟩ := fd_val n h4 h1 h2
  refine ⟨f, v, rfl, ?_, k v hd⟩
  have := DGet.k (k := .inr s) (e _ _ h3)
  rw [hv] at this
  exact this
theorem same_to_dl {H0 : Hp} {D : Addr} (s : Same H0 H) (n : H0 D = none) : Same H0 (dl H D) := fun a o e => (dl_ne (ne_of_none e n)).trans (s a o e)
theorem ixLt {l : Addr} {ns : List Int} {i n : Int} (h : SqL K H l (ns.map V.int)) (hb : ∀ x ∈ ns, 0 ≤ x ∧ x < n) (h0 : 0 ≤ i) (h1 : i < (ns.length : Int)) (k : ∀ v : Int, 0 ≤ v → v < n → Q (.int v) H) : rIxL K (.ref l) (.int i) H Q := by
  have hg := hb (ns.getD i.toNat 0) (by
    have h2 : i.toNat < ns.length := by omega
    rw [List.getD_eq_getElem?_getD, List.getElem?_eq_getElem h2]
    exact List.getElem_mem h2)
  exact Rd.ixL h (Rd.atI_ints h0 h1) (k _ hg.1 hg.2)
theorem slFrom {a : Addr} {ns : List Int} {k : Nat} (h : SqL K H a (ns.map V.int)) (hk : k ≤ ns.length) (kk : ∀ p, H p = none → Q (.ref p) (upd H p (.lst ((ns.drop k).map V.int)))) : rSlL K (.ref a) (some (k : Int)) none H Q := by
  refine Rd.slL' h fun p hp => ?_
  rw [show cutV (ns.map V.int) (some (k : Int)) none = (ns.drop k).map V.int from (Bd.cut_drop (by rw [List.length_map]; exact hk)).trans List.map_drop.symm]
  exact kk p hp
theorem FrD.of_nl {H' : Hp} {v : V} {d : PyData} (s : Same H H') (n : nl d = true) (h : Dp K H' v d) : FrD K H H' v d := fun p l e => dp_keep (sameT_dl (s _ _ e)) n h
/-- [data for k in range(m)], each leaning on no list that stood before -/
theorem lcG {α : Type} {m : Int} {j : Nat} {te : TE} (enc : α → PyData) (Ok : α → Prop) (hb : 0 ≤ m ∧ m ≤ 1000)
    (hs : ∀ (i : Nat) (D : Addr) (acc : List V) (H' : Hp) (C : VK), (i : Int) < m → Same H H' → H' D = some (.lst acc) → (∀ y e H3, Same H' H3 → Dp K H3 y (enc e) → FrD K H' H3 y (enc e) → Ok e → C y H3) → te (σ.set j (some (.int (i : Int)))) H' C)
    (hd : ∀ D acc (L : List α) H', H D = none → Same H H' → H' D = some (.lst acc) → DpAll K (dl H' D) acc (L.map enc) → (∀ e ∈ L, Ok e) → L.length = m.toNat → Q (.ref D) H') :
    ∃ q : Int, [V.int m] = [V.int q] ∧ -(2 ^ 62) ≤ q ∧ q < 2 ^ 62 ∧ Rd.LcJ (gName j) tYes te [j] σ Q (Itr 0 q.toNat) H := by
  refine Rd.lcR1 (fun D i acc H' => ∃ L : List α, DpAll K (dl H' D) acc (L.map enc) ∧ (∀ e ∈ L, Ok e) ∧ L.length = i) ⟨by omega, by omega⟩ (fun D H' _ _ _ => ⟨[], .nil, fun _ h => absurd h List.not_mem_nil, rfl⟩) ?_ ?_
  · rintro i acc D H' hD s hi hl hDl ⟨L, hL, hO, hLl⟩
    refine hs i D acc H' _ hi s hDl fun y e H3 s3 hy hf ho => ?_
    refine Rd.lcE hD (s3 _ _ hDl) (s.trans s3) hl (by omega) ⟨L ++ [e], ?_, ?_, by rw [List.length_append]; simp; omega⟩
    · rw [dl_upd, List.map_append]
      exact dpAll_app (dpAll_same (same_dl s3) hL) (dpAll_one (hf D acc hDl))
    · intro x hx
      rcases List.mem_append.mp hx with h | h
      · exact hO x h
      · rw [List.mem_singleton.mp h]; exact ho
  · rintro D acc H' hD s hDl hal ⟨L, hL, hO, hLl⟩
    have := Rd.dpAll_len hL
    rw [List.length_map] at this
    exact hd D acc L H' hD s hDl hL hO (by omega)
theorem triple_of {z : Addr} {x y w : V} {i j l : Nat} {Qd : L2.St → Hp → Prop} (h : SqT K H z [x, y, w]) (k : Qd (((σ.set i (some x)).set j (some y)).set l (some w)) H) : gTup K 3 (gCons (gName i) (gCons (gName j) (gCons (gName l) gNil))) (.ref z) σ H Qd :=
  ⟨z, _, rfl, h, rfl, x, [y, w], rfl, y, [w], rfl, w, [], rfl, rfl, k⟩
/-- tuple(xs), xs a list or a tuple, told beside an object t in the making -/
theorem tupE {t a : Addr} {us : List V} {o : HO} (ht : H t = some o) (h : SqL K (dl H t) a us ∨ SqT K (dl H t) a us) (k : ∀ p H', Same H H' → SqT K (dl H' t) p us → Q (.ref p) H') : Rd.TupK K [.ref a] H Q := by
  rcases h with h | h
  · exact Rd.tupL (dl_same.seq h) fun p hp => k p _ (Rd.same_new hp) (SqT.of ((dl_ne (fun e => by subst e; rw [ht] at hp; cases hp)).trans upd_same))
  · exact Rd.tupT (Rd.same_tup dl_same h) (k a H (Same.refl H) h)
theorem dl_store {t : Addr} {o : HO} : Same (dl H t) (dl (upd H t o) t) := by rw [dl_upd]; exact Same.refl _
end
/-- {}, younger than the frame -/
def tDNewXN (P : Program) (w : World) (K : PySem.W.Frag) (n : Nat) : TE := fun _ H Q => ∀ p, H p = none → n ≤ p → DS P w K (upd H p (dX P w p [])) p [] → Q (.ref p) (upd H p (dX P w p []))
theorem pe_dnewXN {X : Cx} {pos : Pos} : PE X (.Dict [] [] pos) (tDNewXN X.prog X.w X.K X.s_0.heap.objs.size) := ⟨fun pins s σ H Q I h =>
  wpAny_Dict_empty ⟨.ref s.heap.objs.size, _, I.laid (a := s.heap.objs.size) (o := dX X.prog X.w s.heap.objs.size []) (t' := s.toks) (fun _ _ q => Heap.get?_push_of_some _ q) (Nat.le_refl _) (dX_new s.heap I.big), rfl,
    h _ (I.hok.fresh (Nat.le_refl _)) I.sz DS.nil⟩⟩
theorem dnewXN {P : Program} {w : World} {K : PySem.W.Frag} {σ : L2.St} {H : Hp} {Q : VK} {n : Nat} (k : ∀ p, H p = none → n ≤ p → DS P w K (upd H p (dX P w p [])) p [] → Q (.ref p) (upd H p (dX P w p []))) : tDNewXN P w K n σ H Q := k
/-- [.. for i, x in enumerate(xs)] -/
theorem lcEn {K : PySem.W.Frag} {σ : L2.St} {H : Hp} {Q : VK} {a : Addr} {xs : List V} {g : TG} {te : TE} {vs : List Nat} (Pv : Addr → Nat → List V → Hp → Prop) (h : SqL K H a xs) (h0 : ∀ D H', H D = none → Same H H' → H' D = some (.lst []) → Pv D 0 [] H')
    (hs : ∀ (i : Nat) (x : V) (acc : List V) (D : Addr) (H' : Hp) (T : Addr), H D = none → Same H H' → xs[i]? = some x → acc.length = i → H' D = some (.lst acc) → Pv D i acc H' → H' T = none →
      g (.ref T) (wipe σ vs) (upd H' T (.tup [.int (i : Nat), x])) fun σ2 H2 => wipe σ2 vs = wipe σ vs ∧ te σ2 H2 (Rd.LcE H D i Pv))
    (hd : ∀ D acc H', H D = none → Same H H' → H' D = some (.lst acc) → acc.length = xs.length → Pv D xs.length acc H' → Q (.ref D) H') :
    ∃ a' xs', [V.ref a] = [V.ref a'] ∧ SqL K H a' xs' ∧ Rd.LcJ g tYes te vs σ Q (Ite K a') H := by
  refine ⟨a, xs, rfl, h, fun D hD => ⟨fun i m H' => m = xs.length - i ∧ i ≤ xs.length ∧ ∃ acc, Same H H' ∧ acc.length = i ∧ H' D = some (.lst acc) ∧ Pv D i acc H', ⟨xs.length, by simp, Nat.zero_le _, [], Rd.same_new hD, rfl, upd_same, h0 D _ hD (Rd.same_new hD) upd_same⟩, ?_⟩⟩
  rintro i m H' ⟨rfl, hi, acc, s, hl, hDl, p⟩
  have q := s.seq h
  by_cases hlt : i < xs.length
  · refine .inr ⟨⟨xs, xs[i], q, by simp [hlt]⟩, fun H2 => ∃ acc2, Same H H2 ∧ acc2.length = i + 1 ∧ H2 D = some (.lst acc2) ∧ Pv D (i + 1) acc2 H2, fun H2 p' => ⟨xs.length - (i + 1), by omega, rfl, hlt, p'⟩, ?_⟩
    rintro x H2 ⟨T, x', rfl, hT, rfl, hx⟩
    exact hs i x' acc D H' T hD s (hx xs q) hl hDl p hT
  · have e : i = xs.length := by omega
    subst e
    exact .inl ⟨⟨xs, q, Nat.le_refl _⟩, hd D acc H' hD s hDl hl p⟩
theorem iEn {K : PySem.W.Frag} {σ : L2.St} {H : Hp} {ta : TA} {R : It → Hp → Prop} (k : ta σ H fun vs H1 => ∃ a xs, vs = [.ref a] ∧ SqL K H1 a xs ∧ R (Ite K a) H1) : iEnum K ta σ H R := k
/-- t[lo:hi] of a tuple -/
theorem slA {K : PySem.W.Frag} {H : Hp} {Q : VK} {a : Addr} {xs : List V} {lo hi : Option Int} (h : SqT K H a xs) (k : ∀ p H', Same H H' → SqT K H' p (cutV xs lo hi) → Q (.ref p) H') : rSlA K (.ref a) lo hi H Q :=
  ⟨a, xs, rfl, h, fun e => k a H (Same.refl H) (by
    have q : cutV xs lo hi = xs := by
      unfold cutV
      rw [e.1, e.2, List.drop_zero]
      simp
    rw [q]; exact h), fun _ p hp => k p _ (Rd.same_new hp) (SqT.of upd_same)⟩
end Ef
namespace Rb
open PySem PySem.Spec PyProof.Rows L2
theorem call_tupK {X : Cx} {K : PySem.W.Frag} (h : X.K = K) : CallR X (.type "tuple") (fun xs H Q => ∃ p ys, xs = [V.ref p] ∧ ((SqL K H p ys ∧ ∀ l, H l = none → Q (.ref l) (upd H l (.tup ys))) ∨ (SqT K H p ys ∧ Q (.ref p) H))) := by
  subst h; exact call_tuple_of
theorem call_lstK {X : Cx} {K : PySem.W.Frag} (h : X.K = K) : CallR X (.type "list") (fun xs H Q => ∃ p ys, xs = [V.ref p] ∧ (SqL K H p ys ∨ SqT K H p ys) ∧ ∀ l, H l = none → Q (.ref l) (upd H l (.lst ys))) := by
  subst h; exact call_list_of
end Rb

set_option Elab.async false
set_option linter.all false
set_option maxRecDepth 100000
set_option maxHeartbeats 4000000
/-! More of dicts whose keys are tuples told by SqT: setdefault, del, pop, get without a default; a dict beside another. -/
namespace Es
open PySem PySem.Spec PyProof.Rows L2 Bd
section
variable {X : Cx} {pins : List (Addr × Obj)} {σ : L2.St} {H : Hp} {s : Shared} {a b : Addr} {k : List Key} {kvs : List (List Key × V)} {y v : V} {u r : Value} {A : Around} {E : Value → Shared → Prop}
theorem relO_of {o : Option V} {p : Value} (h : RelO o (some p)) : ∃ v, o = some v ∧ RelV v p := by
  cases o with
  | none => cases h
  | some v => exact ⟨v, rfl, h⟩
theorem relO_none {o : Option V} (h : RelO o none) : o = none := by
  cases o with
  | none => rfl
  | some v => cases h
theorem dx_setd {d0 : V} {Q : Value → Shared → Prop} (hu : A.units + 1 < cLine) (I : Inv X pins σ H s) (d : DS X.prog X.w X.K H a kvs) (hz : kvs.length < sizeLine) (eb : SqT X.K H b (k.map kV)) (ry : RelV (.ref b) u) (rd : RelV d0 r)
    (h1 : ∀ v w' s', valV kvs k = some v → Inv X pins σ H s' → RelV v w' → Q w' s')
    (h2 : ∀ s' ys, valV kvs k = none → Inv X pins σ (upd H a (dX X.prog X.w a ys)) s' → DS X.prog X.w X.K (upd H a (dX X.prog X.w a ys)) a (putK kvs k d0) → Q r s') :
    wpAny (model X.prog X.w) A (call (.builtin "dict.setdefault") [.ref a, u, r]) Q E s := by
  cases (show u = Value.ref b from ry)
  obtain ⟨hd, xs, e, rel, dd⟩ := dx_at I d
  have hl : xs.length ≤ sizeLine := by rw [← Paired.length rel]; omega
  have q := rel.val k
  refine call_setdefault_heap (tupleKind_room_in1 hu) (keyC I eb) hd dd (fun p hp => ?_) (fun hn h' dd' hs => ?_) hl
  · rw [hp] at q
    obtain ⟨v, hv, rv⟩ := relO_of q
    exact h1 v p.2 _ hv (I.tok _) rv
  · rw [hn] at q
    obtain ⟨I2, d2⟩ := dx_put (t' := s.toks + (tupleKind (mixKind X.prog X.w)).draws k) I e rel hz hd eb rd dd' hs
    exact h2 _ _ (relO_none q) I2 d2
/-- the dict without the key, in the heap that has it so -/
theorem dx_drop {xs : List (List Key × Addr × Value)} {h' : Heap} {t' : Nat} (I : Inv X pins σ H s) (e : H a = some (dX X.prog X.w a xs)) (rel : KTS X.K H kvs xs) (hz : kvs.length ≤ sizeLine) (hd : (a == sysModules) = false)
    (dd' : h'.DictOfH (tupleKind (mixKind X.prog X.w)) a (withoutH xs k)) (hs : Heap.SameBut a s.heap h') :
    Inv X pins σ (upd H a (dX X.prog X.w a (withoutH xs k))) { s with heap := h', toks := t' } ∧ DS X.prog X.w X.K (upd H a (dX X.prog X.w a (withoutH xs k))) a (L2.dropK kvs k) := by
  obtain ⟨o, es, ep, f1, f2, f3, f4, _, f5⟩ := dd'
  refine ⟨d_write I (by rw [e]; exact dX_mut) hs ⟨o, f1⟩ (dX_ok hd ⟨o, es, ep, f1, f2, f3, f4, f5⟩), Nat.le_trans (List.length_filter_le _ _) hz, _, upd_same, (KTS.drop k rel).keeps fun q ys eq => ?_⟩
  exact sqT_upd (o := dX X.prog X.w a xs) e (fun ys q => by cases q) (fun o u q => by cases q) eq
theorem dx_pop {Q : Value → Shared → Prop} (hu : A.units + 1 < cLine) (I : Inv X pins σ H s) (d : DS X.prog X.w X.K H a kvs) (eb : SqT X.K H b (k.map kV)) (ry : RelV (.ref b) u) (hv : valV kvs k = some v)
    (h : ∀ w' s' ys, Inv X pins σ (upd H a (dX X.prog X.w a ys)) s' → DS X.prog X.w X.K (upd H a (dX X.prog X.w a ys)) a (L2.dropK kvs k) → RelV v w' → Q w' s') :
    wpAny (model X.prog X.w) A (call (.builtin "dict.pop") [.ref a, u]) Q E s := by
  cases (show u = Value.ref b from ry)
  have hz := d.1
  obtain ⟨hd, xs, e, rel, dd⟩ := dx_at I d
  have hl : xs.length ≤ sizeLine := by rw [← Paired.length rel]; omega
  have q := rel.val k
  rw [hv] at q
  obtain ⟨w', hw, rw'⟩ := RelO.some_of q
  obtain ⟨p, hp, hp2⟩ := Option.map_eq_some_iff.mp hw
  refine call_pop_heap (more := []) (.inl rfl) (PySem.F.args_dict_pop_2 _ _) (tupleKind_room_in1 hu) (keyC I eb) hd dd hp (fun h' dd' hs => ?_) hl
  obtain ⟨I2, d2⟩ := dx_drop (t' := s.toks + (tupleKind (mixKind X.prog X.w)).draws k) I e rel hz hd dd' hs
  rw [hp2]
  exact h w' _ _ I2 d2 rw'
theorem dx_del {Q : Unit → Shared → Prop} (hu : A.units + 1 < cLine) (I : Inv X pins σ H s) (d : DS X.prog X.w X.K H a kvs) (eb : SqT X.K H b (k.map kV)) (ry : RelV (.ref b) u) (hv : (valV kvs k).isSome = true)
    (h : ∀ s' ys, Inv X pins σ (upd H a (dX X.prog X.w a ys)) s' → DS X.prog X.w X.K (upd H a (dX X.prog X.w a ys)) a (L2.dropK kvs k) → Q () s') :
    wpAny (model X.prog X.w) A (delItem (.ref a) u) Q E s := by
  cases (show u = Value.ref b from ry)
  have hz := d.1
  obtain ⟨hd, xs, e, rel, dd⟩ := dx_at I d
  have hl : xs.length ≤ sizeLine := by rw [← Paired.length rel]; omega
  have q := rel.val k
  obtain ⟨v, hv2⟩ := Option.isSome_iff_exists.mp hv
  rw [hv2] at q
  obtain ⟨w', hw, rw'⟩ := RelO.some_of q
  obtain ⟨p, hp, hp2⟩ := Option.map_eq_some_iff.mp hw
  refine wpAny_delItem_heap (tupleKind_room_in1 hu) (keyC I eb) hd dd hp (fun h' dd' hs => ?_) hl
  obtain ⟨I2, d2⟩ := dx_drop (t' := s.toks + (tupleKind (mixKind X.prog X.w)).draws k) I e rel hz hd dd' hs
  exact h _ _ I2 d2
theorem dx_get1 {o : Option V} {Q : Value → Shared → Prop} (hu : A.units + 1 < cLine) (I : Inv X pins σ H s) (g : GX X.prog X.w X.K H a y o) (ry : RelV y u) (h : ∀ w' s', Inv X pins σ H s' → RelV (o.getD .non) w' → Q w' s') :
    wpAny (model X.prog X.w) A (call (.builtin "dict.get") [.ref a, u]) Q E s := by
  obtain ⟨kvs, k, b, d, rfl, eb, rfl⟩ := g
  cases (show u = Value.ref b from ry)
  obtain ⟨hd, xs, _, rel, dd⟩ := dx_at I d
  refine call_meetsIn PySem.F.slot_dict_get dd.typeIs PySem.F.entry_dict_get (PySem.F.args_dict_get_2 _ _) (meetsH_dict_get (tupleKind (mixKind X.prog X.w)) a b hd) ?_
  exact ⟨tupleKind_room_in1 hu, k, xs, keyC I eb, dd, h _ _ (I.tok _) ((rel.val k).getD rfl)⟩
end
/-- d.setdefault(y, z) -/
def tDSetdX (P : Program) (w : World) (K : PySem.W.Frag) (td ty tx : TE) : TE := fun σ H Q => td σ H fun x H1 => ∃ a, x = .ref a ∧ (∃ kvs, DS P w K H1 a kvs) ∧ ty σ H1 fun y H2 => tx σ H2 fun z H3 => ∃ kvs k b, y = .ref b ∧ DS P w K H3 a kvs ∧ kvs.length < sizeLine ∧ SqT K H3 b (k.map kV) ∧
  (∀ v, valV kvs k = some v → Q v H3) ∧ (valV kvs k = none → ∀ ys, DS P w K (upd H3 a (dX P w a ys)) a (putK kvs k z) → Q z (upd H3 a (dX P w a ys)))
/-- d.pop(y), the key there -/
def tDPopX (P : Program) (w : World) (K : PySem.W.Frag) (td ty : TE) : TE := fun σ H Q => td σ H fun x H1 => ∃ a, x = .ref a ∧ (∃ kvs, DS P w K H1 a kvs) ∧ ty σ H1 fun y H2 => ∃ kvs k b v, y = .ref b ∧ DS P w K H2 a kvs ∧ SqT K H2 b (k.map kV) ∧ valV kvs k = some v ∧
  ∀ ys, DS P w K (upd H2 a (dX P w a ys)) a (L2.dropK kvs k) → Q v (upd H2 a (dX P w a ys))
/-- d.get(y) -/
def tDGet1X (P : Program) (w : World) (K : PySem.W.Frag) (td ty : TE) : TE := fun σ H Q => td σ H fun x H1 => ∃ a, x = .ref a ∧ (∃ kvs, DS P w K H1 a kvs) ∧ ty σ H1 fun y H2 => ∃ o, GX P w K H2 a y o ∧ Q (o.getD .non) H2
/-- del d[y], the key there -/
def sDDelX (P : Program) (w : World) (K : PySem.W.Frag) (td ty : TE) : TS := fun D σ H => td σ H fun x H1 => ty σ H1 fun y H2 => ∃ a kvs k b, x = .ref a ∧ y = .ref b ∧ DS P w K H2 a kvs ∧ SqT K H2 b (k.map kV) ∧ (valV kvs k).isSome = true ∧
  ∀ ys, DS P w K (upd H2 a (dX P w a ys)) a (L2.dropK kvs k) → D.nx σ (upd H2 a (dX P w a ys))
section
variable {X : Cx} {o i e f value : Expr} {pos pos' apos cpos tpos : Pos} {td ty tv tx : TE}
theorem pe_dsetdX (hu : X.A.units + 1 < cLine) (ho : PE X o td) (he : PE X e ty) (hf : PE X f tx) (m : M2 X o "setdefault" apos e f cpos) : PE X (.Call (.Attribute o "setdefault" apos) [e, f] [] cpos) (tDSetdX X.prog X.w X.K td ty tx) := by
  refine ⟨fun pins s σ H Q I h => ?_⟩
  refine wpAny_Call_method m.base m.few m.line PySem.F.plainAttrs_dict PySem.F.slot_dict_setdefault PySem.F.type_dict_setdefault (thn (ho.run pins s σ H _ I h) fun u s1 ⟨x, H1, I1, rx, a, ex, ⟨kvs, d⟩, q1⟩ => ?_)
  subst ex
  obtain rfl : u = Value.ref a := rx
  obtain ⟨t1, t2⟩ := dx_typeIs I1 d
  refine ⟨t1, t2, ?_⟩
  rw [m.trees]
  refine Calls.callWith_builtin rfl (Calls.evalArgs_plain (Calls.spliced_cons (thn (he.run pins s1 σ H1 _ I1 q1) fun iv s2 ⟨y, H2, I2, ry, q2⟩ =>
    Calls.spliced_cons (thn (hf.run pins s2 σ H2 _ I2 q2) fun fv s3 ⟨z, H3, I3, rz, kvs, k, b, ey, d3, hz, eb, q3, q4⟩ => Calls.spliced_nil ?_))))
  subst ey
  exact dx_setd hu I3 d3 hz eb ry rz (fun v w' s4 hv I4 rw' => ⟨v, H3, I4, rw', q3 v hv⟩) (fun s4 ys hn I4 d4 => ⟨z, _, I4, rz, q4 hn ys d4⟩)
theorem pe_dpopX (hu : X.A.units + 1 < cLine) (ho : PE X o td) (he : PE X e ty) (m : M1 X o "pop" apos e cpos) : PE X (.Call (.Attribute o "pop" apos) [e] [] cpos) (tDPopX X.prog X.w X.K td ty) := by
  refine ⟨fun pins s σ H Q I h => ?_⟩
  refine wpAny_Call_method m.base m.few m.line PySem.F.plainAttrs_dict PySem.F.slot_dict_pop PySem.F.type_dict_pop (thn (ho.run pins s σ H _ I h) fun u s1 ⟨x, H1, I1, rx, a, ex, ⟨kvs, d⟩, q1⟩ => ?_)
  subst ex
  obtain rfl : u = Value.ref a := rx
  obtain ⟨t1, t2⟩ := dx_typeIs I1 d
  refine ⟨t1, t2, ?_⟩
  rw [m.trees]
  refine Calls.callWith_builtin rfl (Calls.evalArgs_plain (Calls.spliced_cons (thn (he.run pins s1 σ H1 _ I1 q1) fun iv s2 ⟨y, H2, I2, ry, kvs, k, b, v, ey, d2, eb, hv, q2⟩ => Calls.spliced_nil ?_)))
  subst ey
  exact dx_pop hu I2 d2 eb ry hv fun w' s3 ys I3 d3 rw' => ⟨v, _, I3, rw', q2 ys d3⟩
theorem pe_dget1X (hu : X.A.units + 1 < cLine) (ho : PE X o td) (he : PE X e ty) (m : M1 X o "get" apos e cpos) : PE X (.Call (.Attribute o "get" apos) [e] [] cpos) (tDGet1X X.prog X.w X.K td ty) := by
  refine ⟨fun pins s σ H Q I h => ?_⟩
  refine wpAny_Call_method m.base m.few m.line PySem.F.plainAttrs_dict PySem.F.slot_dict_get PySem.F.type_dict_get (thn (ho.run pins s σ H _ I h) fun u s1 ⟨x, H1, I1, rx, a, ex, ⟨kvs, d⟩, q1⟩ => ?_)
  subst ex
  obtain rfl : u = Value.ref a := rx
  obtain ⟨t1, t2⟩ := dx_typeIs I1 d
  refine ⟨t1, t2, ?_⟩
  rw [m.trees]
  refine Calls.callWith_builtin rfl (Calls.evalArgs_plain (Calls.spliced_cons (thn (he.run pins s1 σ H1 _ I1 q1) fun iv s2 ⟨y, H2, I2, ry, ov, g, q2⟩ => Calls.spliced_nil ?_)))
  exact dx_get1 hu I2 g ry fun w' s3 I3 rw' => ⟨_, H2, I3, rw', q2⟩
theorem ps_ddelX (hu : X.A.units + 1 < cLine) (ho : PE X o td) (hi : PE X i ty) : PS X (.Delete [.Subscript o i tpos] pos) (sDDelX X.prog X.w X.K td ty) := by
  refine ⟨fun pins s σ H D I h => ?_⟩
  refine wpAny_Delete (wpAny_deleteEach_cons (wpAny_delete_Subscript (thn (ho.run pins s σ H _ I h) fun u s1 ⟨x, H1, I1, rx, q1⟩ => thn (hi.run pins s1 σ H1 _ I1 q1) fun iv s2 ⟨y, H2, I2, ry, a, kvs, k, b, ex, ey, d, eb, hv, q2⟩ => ?_)))
  subst ex ey
  obtain rfl : u = Value.ref a := rx
  exact dx_del hu I2 d eb ry hv fun s3 ys I3 d3 => wpAny_deleteEach_nil ⟨σ, _, I3, q2 ys d3⟩
end
end Es

set_option Elab.async false
set_option linter.all false
set_option maxRecDepth 100000
set_option maxHeartbeats 4000000
/-! Pairs of numbers: their order, sorted lists of them, dicts with such keys. -/
namespace Bd
open PySem PySem.W PySem.Calls PyProof.Rows
def ltII (p q : Int × Int) : Bool := if p.1 = q.1 then decide (p.2 < q.2) else decide (p.1 < q.1)
theorem ltII_iff {p q : Int × Int} : ltII p q = true ↔ p.1 < q.1 ∨ (p.1 = q.1 ∧ p.2 < q.2) := by
  unfold ltII
  by_cases e : p.1 = q.1
  · rw [if_pos e]; simp only [decide_eq_true_eq]; omega
  · rw [if_neg e]; simp only [decide_eq_true_eq]; omega
theorem ltII_no {p q : Int × Int} : ltII p q = false ↔ ¬ (p.1 < q.1 ∨ (p.1 = q.1 ∧ p.2 < q.2)) := by
  rw [← ltII_iff]; simp
theorem swo_II {α : Type} (k : α → Int × Int) : SrtO.Swo fun v u => ltII (k v) (k u) := by
  refine ⟨fun x y h => ?_, fun x y z h1 h2 => ?_⟩
  · have a := ltII_iff.mp h
    exact ltII_no.mpr (by omega)
  · have a := ltII_no.mp h1
    have b := ltII_no.mp h2
    exact ltII_no.mpr (by omega)
/-- a pair of a text and a number -/
def IsII (h : Heap) (v : Value) (p : Int × Int) : Prop := ∃ a o t u n, v = .ref a ∧ h.get? a = some o ∧ o.cls = .type "tuple" ∧ o.data = .seq #[.int p.1 t, .int p.2 u] n
theorem IsII.keeps {h h' : Heap} {v : Value} {p : Int × Int} (x : IsII h v p) (k : ∀ b o, h.get? b = some o → o.cls = .type "tuple" → h'.get? b = some o) : IsII h' v p := by
  obtain ⟨a, o, t, u, n, e, ho, hc, hd⟩ := x
  exact ⟨a, o, t, u, n, e, k _ _ ho hc, hc, hd⟩
section
variable {prog : Program} {w : World} {A : Around} {s : Shared}
theorem ii_cmp {vs : List Value} {k : Value → Int × Int} (hp : ∀ v ∈ vs, IsII s.heap v (k v)) : SrtO.Cmp prog w A s (tuples' true) (fun p => p.1 ∈ vs) (SrtO.lt2 fun v u => ltII (k v) (k u)) := by
  intro p q hm hm'
  have h1 := hp _ hm
  have h2 := hp _ hm'
  show wpAny (model prog w) A (keyLt' (tuples' true) p.1 q.1) (fun r s' => s' = s ∧ r = ltII (k p.1) (k q.1)) (fun _ _ => False) s
  generalize k p.1 = x at h1 ⊢
  generalize k q.1 = y at h2 ⊢
  obtain ⟨a, o, t, u, n, e, ho, hc, hd⟩ := h1
  obtain ⟨a', o', t', u', n', e', ho', hc', hd'⟩ := h2
  rw [e, e']
  refine PySem.W.kat_lt ho hd ho' hd' ?_
  show PySem.W.KatLex prog w A true (decide (2 < 2)) _ [(.int x.1 t, .int y.1 t'), (.int x.2 u, .int y.2 u')] 0 s
  refine PySem.W.kat_cons (SeqAt.EqAt.int_int x.1 t y.1 t' prog w _ _ ?_)
  refine PySem.W.kat_go (fun e1 => ?_) (fun e1 => ?_)
  · have ex : x.1 = y.1 := by simpa using e1
    refine PySem.W.kat_yes (PySem.W.kat_cons (SeqAt.EqAt.int_int x.2 u y.2 u' prog w _ _ ?_))
    refine PySem.W.kat_go (fun e2 => ?_) (fun e2 => ?_)
    · have ey : x.2 = y.2 := by simpa using e2
      refine PySem.W.kat_yes (PySem.W.kat_nil ⟨rfl, ?_⟩)
      unfold ltII
      rw [if_pos ex, ey]
      exact (decide_eq_false (Int.lt_irrefl _)).symm
    · refine PySem.W.kat_no (PySem.W.kat_one _ _ (PyProof.Rows.lt_int ?_))
      refine ⟨rfl, ?_⟩
      unfold ltII
      rw [if_pos ex]
  · have ex : ¬ x.1 = y.1 := by simpa using e1
    refine PySem.W.kat_no (oneLt_int ⟨rfl, ?_⟩)
    unfold ltII
    rw [if_neg ex]
theorem ii_firsts {h : Heap} {k : Value → Int × Int} : ∀ {vs : List Value}, (∀ v ∈ vs, IsII h v (k v)) → ∃ fs : List Value, PySem.W.KatTups h vs fs ∧ fs.length = vs.length ∧ ∀ f ∈ fs, ∃ x t, f = Value.int x t
  | [], _ => ⟨[], PySem.W.KatTups.nil, rfl, fun _ hm => by simp at hm⟩
  | v :: vs, hp => by
    obtain ⟨fs, h1, h2, h3⟩ := ii_firsts (vs := vs) fun v' hm => hp v' (List.mem_cons_of_mem _ hm)
    obtain ⟨a, o, t, u, n, e, ho, hc, hd⟩ := hp v (List.mem_cons_self ..)
    subst e
    refine ⟨.int _ t :: fs, PySem.W.KatTups.cons ho hc hd rfl h1, by rw [List.length_cons, List.length_cons, h2], fun f hm => ?_⟩
    rcases List.mem_cons.mp hm with rfl | hm
    · exact ⟨_, _, rfl⟩
    · exact h3 f hm
theorem ii_sortable {a : Addr} {vs : List Value} {k : Value → Int × Int} (h0 : 0 < vs.length) (hp : ∀ v ∈ vs, IsII s.heap v (k v)) (ha : ∀ o, s.heap.get? a = some o → o.cls ≠ .type "tuple") :
    SrtO.SortableO prog w A s a vs fun v u => ltII (k v) (k u) := by
  intro h' keep
  have hp' : ∀ v ∈ vs, IsII h' v (k v) := fun v hm => (hp v hm).keeps fun b o e c => keep b o (fun z => by subst z; exact ha o e c) e
  obtain ⟨fs, h1, h2, h3⟩ := ii_firsts hp'
  refine ⟨tuples' true, fun Q E hq => ?_, ii_cmp hp'⟩
  refine PySem.W.kat_kind (T := .type "int") h1 (by omega) (fun f hm => ?_) (by rfl) ?_
  · obtain ⟨x, t, rfl⟩ := h3 f hm
    exact PySem.W.Looks.now
  · have e : (Value.type "int" != Value.type "tuple") = true := by first | decide +kernel | rfl | decide
    rw [e]
    exact hq
end
end Bd
namespace Bd
open PySem PySem.Spec PyProof.Rows L2
def iiOf (h : Heap) (v : Value) : Int × Int := match v with
  | .ref b => (match h.get? b with
    | some o => (match o.data with
      | .seq xs _ => (match xs.toList with
        | [.int x _, .int y _] => (x, y)
        | _ => (0, 0))
      | _ => (0, 0))
    | none => (0, 0))
  | _ => (0, 0)
theorem IsII.of {h : Heap} {v : Value} {p : Int × Int} (x : IsII h v p) : iiOf h v = p := by
  obtain ⟨a, o, t, u, n, rfl, ho, hc, hd⟩ := x
  unfold iiOf
  simp only [ho, hd]
/-- a reference as a dict's key -/
def eR (p : Int × Int) : List Key := [Sum.inl p.1, Sum.inl p.2]
/-- a pair of numbers as data -/
def encP2 (p : Int × Int) : PyData := .tuple [.int p.1, .int p.2]
end Bd
namespace Es
open PySem PySem.Spec PyProof.Rows L2 Bd Dj
def AsI (K : PySem.W.Frag) (H : Hp) (ps : List (Addr × (Int × Int))) : Prop := ∀ z ∈ ps, SqT K H z.1 [.int z.2.1, .int z.2.2]
theorem kts_ai {K : PySem.W.Frag} {H : Hp} : ∀ {m : List ((Int × Int) × V)} {ks : List (List Key × Addr × Value)}, KTS K H (m.map fun e => (eR e.1, e.2)) ks → ∃ ps : List (Addr × (Int × Int)), AsI K H ps ∧ ps.map (·.2) = m.map (·.1) ∧ ps.map (·.1) = ks.map fun x => x.2.1
  | [], _, Paired.nil => ⟨[], fun _ h => absurd h List.not_mem_nil, rfl, rfl⟩
  | e :: m, _, Paired.cons (b := x) h t => by
    obtain ⟨ps, h1, h2, h3⟩ := kts_ai (m := m) t
    refine ⟨(x.2.1, e.1) :: ps, fun z hz => ?_, by rw [List.map_cons, List.map_cons, h2], by rw [List.map_cons, List.map_cons, h3]⟩
    rcases List.mem_cons.mp hz with rfl | hz
    · exact h.2.1
    · exact h1 z hz
section
variable {X : Cx} {pins : List (Addr × Obj)} {σ : L2.St} {H : Hp} {s : Shared} {a b : Addr}
theorem isII_C {p : Int × Int} (I : Inv X pins σ H s) (e : SqT X.K H b [.int p.1, .int p.2]) : IsII s.heap (.ref b) p := by
  obtain ⟨its, rel, ⟨o, h1, h2, n, h3⟩, _⟩ := I.tuple e
  cases rel with
  | cons ra rest =>
    cases rest with
    | cons rb rest =>
      cases rest
      obtain ⟨t1, e1⟩ := (show ∃ t, _ = Value.int p.1 t from ra)
      obtain ⟨t2, e2⟩ := (show ∃ t, _ = Value.int p.2 t from rb)
      subst e1 e2
      exact ⟨b, o, t1, t2, n, rfl, h1, h2, h3⟩
end
section
variable {X : Cx}
def rSortedXI (P : Program) (w : World) (K : PySem.W.Frag) : List V → Hp → VK → Prop := fun xs H Q => ∃ (a : Addr) (m : List ((Int × Int) × V)), xs = [.ref a] ∧ DS P w K H a (m.map fun e => (eR e.1, e.2)) ∧
  ∀ (ps : List (Addr × (Int × Int))) (p : Addr), AsI K H ps → SrtO.Srtd ltII (ps.map (·.2)) → (ps.map (·.2)).Perm (m.map (·.1)) → H p = none → Q (.ref p) (upd H p (.lst (ps.map fun z => V.ref z.1)))
theorem cr_sortedXI (hcalm : X.calm = true) : CallR X (.builtin "sorted") (rSortedXI X.prog X.w X.K) := by
  intro pins s σ H xs us Q I r q
  obtain ⟨a, m, rfl, hd, q⟩ := q
  obtain ⟨u, rfl, rx⟩ := vals1 r
  cases rx
  have z := hd.1
  obtain ⟨hs, ks, _, pr, o, es, ep, ho, hx, hdt, he, _, hn⟩ := dx_at I hd
  have l1 : es.size = ks.length := size_of_entries he
  have l2 : (m.map fun e => (eR e.1, e.2)).length = ks.length := Paired.length pr
  have l3 : m.length = ks.length := by simpa using l2
  refine Calls.call_function_entry PyProof.Rows.kind_sorted PyProof.Rows.plain_sorted PyProof.Rows.entry_sorted (PyProof.Rows.args_sorted1 _) ?_
  unfold Builtin.«sorted»
  refine wpAny_bind (m := checkCount "sorted" 1 1 _) (wpAny_pure ?_)
  refine wpAny_bind (PySem.W.kdu_collect (A := X.A.in1) (kdl_raw hs hx hdt) (I.ok.hd hcalm) ho (by omega) fun h' tk acc hk it => ?_)
  have ea : acc.toList = (ks.map fun x => x.2.1).map Value.ref := by
    have hl : acc.toList.length = ks.length := by rw [Array.length_toList, it.1]; exact l1
    apply List.ext_getElem?
    intro j
    rw [List.map_map, List.getElem?_map]
    cases hj : acc.toList[j]? with
    | none =>
      have h1 := List.getElem?_eq_none_iff.mp hj
      rw [List.getElem?_eq_none (by omega)]
      rfl
    | some v =>
      obtain ⟨en, hen, hv⟩ := it.2 j v (by rw [← Array.getElem?_toList]; exact hj)
      have qe := entry_at he j
      rw [hen] at qe
      cases hb : ks[j]? with
      | none =>
        rw [hb] at qe
        exact nomatch (show some en = none from qe)
      | some b =>
        rw [hb] at qe
        have e2 : en = entryOfKey (tupleKind (mixKind X.prog X.w)) b := Option.some.inj qe
        rw [hv, e2]
        rfl
  have I1 : Inv X pins σ H { s with heap := h', toks := tk } := I.kept hk
  obtain ⟨ps0, a1, a2, a3⟩ := kts_ai pr
  have eb : acc.toList = ps0.map fun z => Value.ref z.1 := by rw [ea, ← a3, List.map_map]; rfl
  have hal : acc.toList.length ≤ sizeLine := by
    rw [Array.length_toList, it.1]; omega
  refine wpAny_bind (wpAny_newList ?_ hal)
  have hoL : (h'.push (seqObj "list" acc.toList.toArray 0)).get? h'.objs.size = some (seqObj "list" acc.toList.toArray 0) := Heap.get?_push_size _ rfl
  have hsi : ∀ v ∈ acc.toList, IsII (h'.push (seqObj "list" acc.toList.toArray 0)) v (iiOf s.heap v) := fun v hv => by
    rw [eb] at hv
    obtain ⟨zz, hz, rfl⟩ := List.mem_map.mp hv
    have q := isII_C I (a1 zz hz)
    rw [q.of]
    exact (isII_C I1 (a1 zz hz)).keeps fun b ob e _ => Heap.get?_push_of_some _ e
  show wpAny _ _ _ _ _ { s with heap := h'.push (seqObj "list" acc.toList.toArray 0), toks := tk }
  refine wpAny_bind (wpAny_holding (wpAny_call_entry PyProof.Rows.slot_list_sort ⟨_, hoL, rfl⟩ PyProof.Rows.entry_list_sort
    (SrtO.list_sort_ord (ltv := fun v u => ltII (iiOf s.heap v) (iiOf s.heap u)) (s := { s with heap := h'.push (seqObj "list" acc.toList.toArray 0), toks := tk }) (swo_II (iiOf s.heap)) hoL hal (fun h2 => ii_sortable (by omega) hsi fun ob e => by
      have e' := e.symm.trans hoL
      cases e'
      intro c
      exact absurd (Value.type.inj c) (by decide)) fun out h1 h2 => ⟨_, rfl, ?_⟩)
    (PyProof.Rows.args_list_sort _)))
  obtain ⟨ps, b1, b2⟩ := perm_lift (fun z : Addr × (Int × Int) => Value.ref z.1) h2.perm ps0 eb.symm
  have hAs : AsI X.K H ps := fun z hz => a1 z (b1.mem_iff.mp hz)
  have hk2 : ∀ z ∈ ps, iiOf s.heap (Value.ref z.1) = z.2 := fun z hz => (isII_C I (hAs z hz)).of
  have hsr : SrtO.Srtd ltII (ps.map (·.2)) := by
    rw [← b2] at h1
    have h1' := List.pairwise_map.mp h1
    refine List.pairwise_map.mpr (h1'.imp_of_mem fun {x y} hx hy hh => ?_)
    have hh' : ltII (iiOf s.heap (Value.ref y.1)) (iiOf s.heap (Value.ref x.1)) = false := hh
    rw [hk2 x hx, hk2 y hy] at hh'
    exact hh'
  obtain ⟨e', he'⟩ := PyProof.Rows.sortedHeap_at (vs := acc.toList) (out := out.toArray) hoL
  have hlen : (ps.map fun z => V.ref z.1).length ≤ sizeLine := by
    rw [List.length_map, b1.length_eq]
    have : ps0.length = acc.toList.length := by rw [eb, List.length_map]
    omega
  refine wpAny_pure ⟨_, rfl, .ref h'.objs.size, upd H h'.objs.size (.lst (ps.map fun z => V.ref z.1)), I1.laid (t' := tk) (fun b u e => ?_) (Nat.le_refl _)
    (show ObjOk X.prog X.w _ _ _ (.lst _) from ⟨hlen, out, e', ?_, he'⟩), rfl, q ps _ hAs hsr ((b1.map _).trans (by rw [a2])) (I1.hok.fresh (Nat.le_refl _))⟩
  · have hb : b < h'.objs.size := Heap.lt_size e
    rw [PyProof.Rows.sortedHeap_old (Nat.ne_of_lt hb) (by rw [size_push']; exact Nat.lt_succ_of_lt hb)]
    exact Heap.get?_push_of_some _ e
  · rw [← b2]
    have := vals_refs (ps.map (·.1))
    rw [List.map_map, List.map_map] at this
    exact this
end
theorem refsC_dp {K : PySem.W.Frag} {H : Hp} {ps : List (Addr × (Int × Int))} (h : AsI K H ps) : DpAll K H (ps.map fun z => V.ref z.1) ((ps.map (·.2)).map encP2) := by
  induction ps with
  | nil => exact .nil
  | cons z ps ih =>
    exact .cons (.tup (h z List.mem_cons_self) (.cons (.int _) (.cons (.int _) .nil))) (ih fun y hy => h y (List.mem_cons_of_mem _ hy))
theorem dpRef {K : PySem.W.Frag} {H : Hp} {x : V} {p : Int × Int} (h : Dp K H x (encP2 p)) : ∃ z, x = .ref z ∧ SqT K H z [.int p.1, .int p.2] := by
  obtain ⟨z, u, v, rfl, hz, hu, hv⟩ := dp_pair h
  obtain rfl := dp_int hu
  obtain rfl := dp_int hv
  exact ⟨z, rfl, hz⟩
theorem asI_of {K : PySem.W.Frag} {H : Hp} : ∀ {xs : List V} {A : List (Int × Int)}, DpAll K H xs (A.map encP2) → ∃ ps : List (Addr × (Int × Int)), xs = ps.map (fun z => V.ref z.1) ∧ ps.map (·.2) = A ∧ AsI K H ps
  | _, [], .nil => ⟨[], rfl, rfl, fun _ h => absurd h List.not_mem_nil⟩
  | _, p :: A, .cons h t => by
    obtain ⟨z, rfl, hz⟩ := dpRef h
    obtain ⟨ps, rfl, h2, h3⟩ := asI_of t
    refine ⟨(z, p) :: ps, rfl, by rw [List.map_cons, h2], fun y hy => ?_⟩
    rcases List.mem_cons.mp hy with rfl | hy
    · exact hz
    · exact h3 y hy
section
variable {X : Cx}
/-- sorted(xs), xs a list of pairs of numbers -/
def rSortedLI (K : PySem.W.Frag) : List V → Hp → VK → Prop := fun vs H Q => ∃ (a : Addr) (xs : List V) (A : List (Int × Int)), vs = [.ref a] ∧ SqL K H a xs ∧ DpAll K H xs (A.map encP2) ∧
  ∀ (B : List (Int × Int)) (ys : List V) (p : Addr), B.Perm A → SrtO.Srtd ltII B → H p = none → DpAll K H ys (B.map encP2) → Q (.ref p) (upd H p (.lst ys))
theorem cr_sortedLI : CallR X (.builtin "sorted") (rSortedLI X.K) := by
  intro pins s σ H xs us Q I r q
  obtain ⟨a, xs0, A, rfl, hs, hA0, q⟩ := q
  obtain ⟨ps0, rfl, rfl, hA⟩ := asI_of hA0
  obtain ⟨its, rv, hl, hz⟩ := I.list hs
  obtain ⟨u, rfl, ru⟩ := vals1 r
  obtain rfl : u = Value.ref a := ru
  have eb : its = ps0.map fun z => Value.ref z.1 := by
    have h1 : ∀ {ps : List (Addr × (Int × Int))} {us : List Value}, Vals (ps.map fun z => V.ref z.1) us → us = ps.map fun z => Value.ref z.1 := by
      intro ps
      induction ps with
      | nil => intro us h; cases h; rfl
      | cons z ps ih =>
        intro us h
        rw [List.map_cons] at h
        cases h with
        | cons h t => rw [ih t, List.map_cons, show _ = Value.ref z.1 from h]
    exact h1 rv
  have hsi : ∀ v ∈ its, IsII s.heap v (iiOf s.heap v) := fun v hv => by
    rw [eb] at hv
    obtain ⟨zz, hz, rfl⟩ := List.mem_map.mp hv
    have q := isII_C I (hA zz hz)
    rw [q.of]; exact q
  refine SrtO.sorted_ord (ltv := fun v u => ltII (iiOf s.heap v) (iiOf s.heap u)) (swo_II (iiOf s.heap)) hl.isList (by rw [← rv.length]; exact hz) (fun h2 h₁ a' ha' kk => ?_) fun out h1 h2 => ?_
  · refine ii_sortable (s := { s with heap := h₁ }) (by omega) (fun v hm => (hsi v hm).keeps fun b o e _ => (kk b o e).2) fun o e => ?_
    have e' : some o = some (seqObj "list" its.toArray 0) := e.symm.trans ha'
    cases e'
    intro c
    exact absurd (Value.type.inj c) (by decide)
  · obtain ⟨ps, b1, b2⟩ := perm_lift (fun z : Addr × (Int × Int) => Value.ref z.1) h2.perm ps0 eb.symm
    have hAs : AsI X.K H ps := fun z hz => hA z (b1.mem_iff.mp hz)
    have hk2 : ∀ z ∈ ps, iiOf s.heap (Value.ref z.1) = z.2 := fun z hz => (isII_C I (hAs z hz)).of
    have hsr : SrtO.Srtd ltII (ps.map (·.2)) := by
      rw [← b2] at h1
      have h1' := List.pairwise_map.mp h1
      refine List.pairwise_map.mpr (h1'.imp_of_mem fun {x y} hx hy hh => ?_)
      have hh' : ltII (iiOf s.heap (Value.ref y.1)) (iiOf s.heap (Value.ref x.1)) = false := hh
      rw [hk2 x hx, hk2 y hy] at hh'
      exact hh'
    have hd : s.heap.objs.size ≤ s.heap.objs.size + 1 := Nat.le_succ _
    obtain ⟨n, hn⟩ := sortedAll_at s.heap its out.toArray
    refine ⟨.ref (s.heap.objs.size + 1), upd H (s.heap.objs.size + 1) (.lst (ps.map fun z => V.ref z.1)), I.laid (t' := s.toks) (fun b o e => sortedAll_old e) hd ⟨?_, out, n, ?_, hn⟩, rfl, q (ps.map (·.2)) _ _ (b1.map _) hsr (I.hok.fresh hd) (refsC_dp hAs)⟩
    · rw [List.length_map] at hz ⊢; rw [b1.length_eq]; exact hz
    · rw [← b2]
      have := vals_refs (ps.map (·.1))
      rw [List.map_map, List.map_map] at this
      exact this
end
end Es

set_option Elab.async false
set_option linter.all false
set_option maxRecDepth 100000
set_option maxHeartbeats 4000000
/-! list(d), list(d.values()) of dicts over SqT. -/
namespace Es
open PySem PySem.Spec PyProof.Rows L2 Bd Dj
theorem entry_key {P : Program} {w : World} (x : List Key × Addr × Value) : (entryOfKey (tupleKind (mixKind P w)) x).key = .ref x.2.1 := rfl
theorem entry_val {P : Program} {w : World} (x : List Key × Addr × Value) : (entryOfKey (tupleKind (mixKind P w)) x).val = x.2.2 := rfl
/-- the keys' own tuples, one for each entry -/
def KeysAt (K : PySem.W.Frag) (H : Hp) (ps : List Addr) (kvs : List (List Key × V)) : Prop := Paired (fun p kv => SqT K H p (kv.1.map kV)) ps kvs
theorem keysAt_of {K : PySem.W.Frag} {H : Hp} : ∀ {kvs : List (List Key × V)} {ks : List (List Key × Addr × Value)}, KTS K H kvs ks → KeysAt K H (ks.map fun x => x.2.1) kvs
  | _, _, Paired.nil => Paired.nil
  | _, _, Paired.cons h t => Paired.cons (by rw [h.1]; exact (h.1 ▸ h.2.1)) (keysAt_of t)
theorem valsAt_of {K : PySem.W.Frag} {H : Hp} : ∀ {kvs : List (List Key × V)} {ks : List (List Key × Addr × Value)}, KTS K H kvs ks → Vals (kvs.map (·.2)) (ks.map fun x => x.2.2)
  | _, _, Paired.nil => .nil
  | _, _, Paired.cons h t => .cons h.2.2 (valsAt_of t)
section
variable {X : Cx}
def rListX (P : Program) (w : World) (K : PySem.W.Frag) : List V → Hp → VK → Prop := fun xs H Q => ∃ (a : Addr) (kvs : List (List Key × V)), xs = [.ref a] ∧ DS P w K H a kvs ∧
  ∀ (ps : List Addr) (l : Addr), KeysAt K H ps kvs → H l = none → Q (.ref l) (upd H l (.lst (ps.map V.ref)))
theorem cr_listX (hcalm : X.calm = true) : CallR X (.type "list") (rListX X.prog X.w X.K) := by
  intro pins s σ H xs us Q I r q
  obtain ⟨a, kvs, rfl, hd, q⟩ := q
  obtain ⟨u, rfl, rx⟩ := vals1 r
  cases rx
  have z := hd.1
  obtain ⟨hs, ks, _, pr, o, es, ep, ho, hx, hdt, he, _, hn⟩ := dx_at I hd
  have l1 : es.size = ks.length := size_of_entries he
  have l2 : kvs.length = ks.length := Paired.length pr
  refine PySem.W.kdl_call (PySem.KdlSrc.rawDict hs) (I.ok.hd hcalm) (show s.heap.DictRaw a es ep from ⟨o, ho, hx, hdt⟩) (by omega) fun h' tk acc c' hk hD hacc => ?_
  have ea : acc.toList = (ks.map fun x => x.2.1).map Value.ref := by
    have hl : acc.toList.length = ks.length := by rw [Array.length_toList, hacc.1]; exact l1
    apply List.ext_getElem?
    intro j
    rw [List.map_map, List.getElem?_map]
    cases hj : acc.toList[j]? with
    | none =>
      have h1 := List.getElem?_eq_none_iff.mp hj
      rw [List.getElem?_eq_none (by omega)]
      rfl
    | some v =>
      obtain ⟨hi, hv⟩ := hacc.2 j v (by rw [← Array.getElem?_toList]; exact hj)
      have qe := entry_at he j
      rw [Array.getElem?_eq_getElem hi] at qe
      cases hb : ks[j]? with
      | none => rw [hb] at qe; cases qe
      | some b =>
        rw [hb] at qe
        have e2 : es[j] = entryOfKey (tupleKind (mixKind X.prog X.w)) b := Option.some.inj qe
        rw [hv, e2]
        rfl
  refine ⟨.ref s.heap.objs.size, _, I.laid (t' := tk) hk (Nat.le_refl _) (show ObjOk X.prog X.w _ h' _ (.lst ((ks.map fun x => x.2.1).map V.ref)) from ⟨by rw [List.length_map, List.length_map]; omega, acc.toList, c', by rw [ea]; exact vals_refs _, by rw [Array.toArray_toList]; exact hD⟩), rfl, q _ _ (keysAt_of pr) (I.hok.fresh (Nat.le_refl _))⟩
end
/-- list(e.values()) -/
def tListValsX (P : Program) (w : World) (K : PySem.W.Frag) (te : TE) : TE := fun σ H Q => te σ H fun x H1 => ∃ a kvs, x = .ref a ∧ DS P w K H1 a kvs ∧ ∀ l, H1 l = none → Q (.ref l) (upd H1 l (.lst (kvs.map (·.2))))
section
variable {X : Cx} {e : Expr} {te : TE} {p apos cpos pos : Pos}
theorem pe_listValsX (hc : X.calm = true) (he : PE X e te) (hg : Gl X "list") (hm : X.mg "list" = none) (hv : bootBuiltins "list" = some (.type "list")) (hbase : attributeBase e "values" X.env (eval e X.env) = eval e X.env := by rfl) (hline : (apos.endLine == cpos.line) = true := by rfl)
    (hs : starEach [.Call (.Attribute e "values" apos) [] [] cpos] X.env = (false, eval (.Call (.Attribute e "values" apos) [] [] cpos) X.env) :: starEach [] X.env := by rfl) :
    PE X (.Call (.Name "list" p) [.Call (.Attribute e "values" apos) [] [] cpos] [] pos) (tListValsX X.prog X.w X.K te) := by
  refine ⟨fun pins s σ H Q I hq => ?_⟩
  refine wpAny_Call_Name_kw (ld_blt I hg hm hv ?_)
  refine PyProof.Rows.callWith_type1 ?_ hs rfl
  rw [hs]
  show wpAny _ _ (spliced ((false, eval (.Call (.Attribute e "values" apos) [] [] cpos) X.env) :: backTo pos (starEach [] X.env))) _ _ s
  refine Calls.spliced_cons ?_
  refine wpAny_Call_method (T := "dict") (id := "dict.values") hbase rfl hline F.plainAttrs_dict F.slot_dict_values F.type_dict_values (thn (he.run pins s σ H _ I hq) fun u s1 ⟨x, H1, I1, rx, d, kvs, ex, hd, q⟩ => ?_)
  subst ex
  obtain rfl : u = Value.ref d := rx
  obtain ⟨t1, t2⟩ := dx_typeIs I1 hd
  have z := hd.1
  obtain ⟨hz, ks, _, pr, o, es, ep, ho, hx, hdt, hes, _, hn⟩ := dx_at I1 hd
  have l1 : es.size = ks.length := size_of_entries hes
  have l2 : kvs.length = ks.length := Paired.length pr
  refine ⟨t1, t2, ?_⟩
  show wpAny _ _ (callWith cpos (.builtin "dict.values") [.ref d] [] []) _ X.xe s1
  have I2 : Inv X pins σ H1 { s1 with heap := s1.heap.push { cls := .type "dict_values", data := .fields #[.ref d] } } := I1.kept (t' := s1.toks) fun b ob q => Heap.get?_push_of_some _ q
  refine method_meetsIn F.slot_dict_values F.entry_dict_values rfl (PySem.evalArgs_none ⟨rfl, t1, F.args_dict_values_1 _, _, PySem.meets_dict_values_raw d hz, ⟨es, ep, o, ho, hx, hdt⟩, ?_⟩)
  refine Calls.spliced_nil ?_
  refine PySem.W.kdl_call (PySem.KdlSrc.rawValues (d := d) (es := es) (ep := ep)) (I1.ok.hd hc) ⟨⟨_, Heap.get?_push_size _ rfl, rfl, rfl⟩, (show s1.heap.DictRaw d es ep from ⟨o, ho, hx, hdt⟩).push _⟩ (by omega) fun h' tk acc c' hk hD hacc => ?_
  have ea : acc.toList = ks.map fun x => x.2.2 := by
    have hl : acc.toList.length = ks.length := by rw [Array.length_toList, hacc.1]; exact l1
    apply List.ext_getElem?
    intro j
    rw [List.getElem?_map]
    cases hj : acc.toList[j]? with
    | none =>
      have h1 := List.getElem?_eq_none_iff.mp hj
      rw [List.getElem?_eq_none (by omega)]
      rfl
    | some v =>
      obtain ⟨hi, hv⟩ := hacc.2 j v (by rw [← Array.getElem?_toList]; exact hj)
      have qe := entry_at hes j
      rw [Array.getElem?_eq_getElem hi] at qe
      cases hb : ks[j]? with
      | none => rw [hb] at qe; cases qe
      | some b =>
        rw [hb] at qe
        have e2 : es[j] = entryOfKey (tupleKind (mixKind X.prog X.w)) b := Option.some.inj qe
        rw [hv, e2]
        rfl
  have hsz : s1.heap.objs.size ≤ (s1.heap.push { cls := .type "dict_values", data := .fields #[.ref d] }).objs.size := by rw [size_push']; exact Nat.le_succ _
  exact ⟨.ref _, upd H1 _ (.lst (kvs.map (·.2))), I2.laid (t' := tk) hk (Nat.le_refl _) (show ObjOk X.prog X.w _ h' _ (.lst (kvs.map (·.2))) from ⟨by rw [List.length_map]; omega, acc.toList, c', by rw [ea]; exact valsAt_of pr, by rw [Array.toArray_toList]; exact hD⟩), rfl, q _ (I2.hok.fresh (Nat.le_refl _))⟩
end
end Es
namespace Es
open PySem PySem.Spec PyProof.Rows L2 Bd Dj
/-- the locked dict at d, entry by entry: the key's own tuple -/
def ItX (P : Program) (w : World) (d : Addr) (g : Obj) (ks : List (List Key × Addr × Value)) : It :=
  ⟨fun j M => M d = some (.frz g (dX P w d ks)) ∧ j < ks.length, fun j M y M' => M' = M ∧ ∃ e, ks[j]? = some e ∧ y = V.ref e.2.1, fun j M => M d = some (.frz g (dX P w d ks)) ∧ ks.length ≤ j⟩
section
variable {X : Cx} {pins : List (Addr × Obj)} {σ : L2.St} {H : Hp} {s : Shared} {d : Addr} {g : Obj} {ks : List (List Key × Addr × Value)}
theorem frzX_at (I : Inv X pins σ H s) (h : H d = some (.frz g (dX X.prog X.w d ks))) : (d == sysModules) = false ∧ s.heap.get? d = some g ∧ g.ExactDict ∧ ∃ (fs : Array DictEntry) (n : Nat), g.data = .dict fs n ∧ fs.size = ks.length ∧ fs.toList = ks.map (entryOfKey (tupleKind (mixKind X.prog X.w))) := by
  obtain ⟨hg, q⟩ := I.hok d _ h
  have q2 : ObjOk X.prog X.w H s.heap d (.ext fun h => (d == sysModules) = false ∧ ∃ o es ep, h.get? d = some o ∧ o.ExactDict ∧ o.data = .dict es ep ∧ es.toList = ks.map (entryOfKey (tupleKind (mixKind X.prog X.w))) ∧ (ks.map (·.1)).Nodup) := q
  obtain ⟨⟨z, o, fs, n, a1, a2, a3, a4, a5⟩, _⟩ := q2
  have e : o = g := Option.some.inj (a1.symm.trans hg)
  subst e
  exact ⟨z, hg, a2, fs, n, a3, size_of_entries a4, a4⟩
end
theorem turnX {P : Program} {w : World} {K : PySem.W.Frag} {tg : Expr} {d : Addr} {g : Obj} {fs : Array DictEntry} {n : Nat} {ks : List (List Key × Addr × Value)} (r : Addr) (hg : g.data = .dict fs n) : Turn P w K tg (ItX P w d g ks) [r] r (fun j hp => hp.IsKeyIter r d j ks.length n) where
  mem := List.mem_singleton.mpr rfl
  obj := fun j hp st b hb => by
    cases List.mem_singleton.mp hb
    exact ⟨st.choose, st.choose_spec.1, fun v z => nomatch st.choose_spec.2.2.symm.trans z⟩
  keep := fun j hp hp' st kp => st.at fun ob e => kp r (List.mem_singleton.mpr rfl) ob e
  item := by
    rintro X rfl rfl rfl cc j pins s σ H E I fo st ⟨hd, hj⟩
    have own := fo r (List.mem_singleton.mpr rfl)
    obtain ⟨_, at_, _, fs2, n2, hdt, hsz, ent⟩ := frzX_at I hd
    obtain ⟨rfl, rfl⟩ := dict_ep hg hdt
    obtain ⟨e, he⟩ : ∃ e, ks[j]? = some e := ⟨_, List.getElem?_eq_getElem hj⟩
    have hen : fs2[j]? = some (entryOfKey (tupleKind (mixKind X.prog X.w)) e) := by rw [entry_at ent j, he]; rfl
    refine next_key_item st at_ hdt hsz hen fun hp' st' sb => ?_
    have J : Inv X pins σ H { s with heap := hp' } := I.turned (t' := s.toks) (fun b ob hb q => (sb.2 b hb).trans q) own.1 own.2.1 own.2.2.2.1 own.2.2.2.2.1 own.2.2.2.2.2
    obtain ⟨ob, q1, q2, q3⟩ := id st'
    exact ⟨_, rfl, go_of (s := { s with heap := hp' }) q1 q2 q3 (by decide) ⟨V.ref e.2.1, H, J, rfl, ⟨rfl, e, he, rfl⟩, st', fun b hb => (fo b hb).1⟩⟩
  done := by
    rintro X rfl rfl rfl cc j pins s σ H E I fo st ⟨hd, hj⟩
    have own := fo r (List.mem_singleton.mpr rfl)
    obtain ⟨_, at_, _, fs2, n2, hdt, hsz, _⟩ := frzX_at I hd
    obtain ⟨rfl, rfl⟩ := dict_ep hg hdt
    exact next_key_end (I.ok.hd cc) st at_ hdt hsz hj fun hp' eb => ⟨rfl, I.turned (t' := s.toks) (fun b ob hb q => eb b ob hb q) own.1 own.2.1 own.2.2.2.1 own.2.2.2.2.1 own.2.2.2.2.2⟩
  self := fun A j s Q E st q => wpAny_pyIter_keyiter st q
/-- for x in d, d locked -/
def iKeysX (P : Program) (w : World) (td : TE) : TI := fun σ H R => td σ H fun x M => ∃ d g ks, x = V.ref d ∧ M d = some (.frz g (dX P w d ks)) ∧ R (ItX P w d g ks) M
theorem pi_keysX {X : Cx} {tg e : Expr} {td : TE} (he : PE X e td) : PI X tg e (iKeysX X.prog X.w td) := by
  refine ⟨fun pins s σ H R I h => thn (he.run pins s σ H _ I h) fun u s1 ⟨x, M, J, rx, d, g, ks, ex, hd, q⟩ => ?_⟩
  subst ex
  obtain rfl : u = Value.ref d := rx
  obtain ⟨z, at_, xd, fs, n, hdt, hsz, _⟩ := frzX_at J hd
  refine iter_keys z at_ xd hdt (pi_one (tk := s1.toks) J _ (turnX _ hdt) ⟨_, Heap.get?_push_size _ rfl, rfl, ?_⟩ q)
  rw [hsz]; rfl
end Es
namespace Es
open PySem PySem.Spec PyProof.Rows L2 Bd Dj
/-- a dict to be read, locked or not -/
def DR (P : Program) (w : World) (K : PySem.W.Frag) (H : Hp) (a : Addr) (kvs : List (List Key × V)) : Prop := kvs.length ≤ sizeLine ∧ ∃ xs, (H a = some (dX P w a xs) ∨ ∃ g, H a = some (.frz g (dX P w a xs))) ∧ KTS K H kvs xs
theorem DS.dr {P : Program} {w : World} {K : PySem.W.Frag} {H : Hp} {a : Addr} {kvs : List (List Key × V)} (h : DS P w K H a kvs) : DR P w K H a kvs := ⟨h.1, h.2.choose, .inl h.2.choose_spec.1, h.2.choose_spec.2⟩
def GR (P : Program) (w : World) (K : PySem.W.Frag) (H : Hp) (a : Addr) (y : V) (o : Option V) : Prop := ∃ kvs k b, DR P w K H a kvs ∧ y = .ref b ∧ SqT K H b (k.map kV) ∧ o = valV kvs k
section
variable {X : Cx} {pins : List (Addr × Obj)} {σ : L2.St} {H : Hp} {s : Shared} {a b : Addr} {k : List Key} {kvs : List (List Key × V)} {y v : V} {u r : Value} {A : Around} {E : Value → Shared → Prop}
theorem dr_at (I : Inv X pins σ H s) (h : DR X.prog X.w X.K H a kvs) : (a == sysModules) = false ∧ ∃ xs, KTS X.K H kvs xs ∧ s.heap.DictOfH (tupleKind (mixKind X.prog X.w)) a xs := by
  obtain ⟨hz, xs, h | ⟨g, h⟩, rel⟩ := h
  · obtain ⟨z, ys, e, rel2, dd⟩ := dx_at I ⟨hz, xs, h, rel⟩
    exact ⟨z, ys, rel2, dd⟩
  · obtain ⟨hg, q⟩ := I.hok a _ h
    have q2 : ObjOk X.prog X.w H s.heap a (.ext fun h => (a == sysModules) = false ∧ ∃ o es ep, h.get? a = some o ∧ o.ExactDict ∧ o.data = .dict es ep ∧ es.toList = xs.map (entryOfKey (tupleKind (mixKind X.prog X.w))) ∧ (xs.map (·.1)).Nodup) := q
    obtain ⟨⟨z, o, fs, n, a1, a2, a3, a4, a5⟩, _⟩ := q2
    refine ⟨z, xs, rel, o, fs, n, a1, a2, a3, a4, ?_, a5⟩
    have all : ∀ {l : List (List Key × V)} {m : List (List Key × Addr × Value)}, KTS X.K H l m → ∀ e ∈ m, (tupleKind (mixKind X.prog X.w)).is s.heap e.1 e.2.1 := fun p => by
      induction p with
      | nil => exact fun e h => nomatch h
      | cons t _ ih => exact fun e h => (List.mem_cons.mp h).elim (fun z => by subst z; rw [← t.1]; exact keyC I t.2.1) (ih e)
    exact all rel
theorem dr_get2 {o : Option V} {d0 : V} {Q : Value → Shared → Prop} (hu : A.units + 1 < cLine) (I : Inv X pins σ H s) (g : GR X.prog X.w X.K H a y o) (ry : RelV y u) (rd : RelV d0 r) (h : ∀ w' s', Inv X pins σ H s' → RelV (o.getD d0) w' → Q w' s') :
    wpAny (model X.prog X.w) A (call (.builtin "dict.get") [.ref a, u, r]) Q E s := by
  obtain ⟨kvs, k, b, d, rfl, eb, rfl⟩ := g
  cases (show u = Value.ref b from ry)
  obtain ⟨hd, xs, rel, dd⟩ := dr_at I d
  exact call_meetsIn PySem.F.slot_dict_get dd.typeIs PySem.F.entry_dict_get (PySem.F.args_dict_get_3 _ _ _) (meetsH_dict_get_default (tupleKind (mixKind X.prog X.w)) a b hd r) ⟨tupleKind_room_in1 hu, k, xs, keyC I eb, dd, h _ _ (I.tok _) ((rel.val k).getD rd)⟩
theorem dr_typeIs (I : Inv X pins σ H s) (d : DR X.prog X.w X.K H a kvs) : s.TypeIs (.ref a) "dict" ∧ ∀ b, Value.ref a = .ref b → ∃ ob, s.heap.get? b = some ob ∧ ob.dict = none := by
  obtain ⟨_, xs, _, dd⟩ := dr_at I d
  refine ⟨dd.typeIs, fun b q => ?_⟩
  cases q
  exact ⟨dd.choose, dd.choose_spec.choose_spec.choose_spec.1, dd.choose_spec.choose_spec.choose_spec.2.1.2.1⟩
end
/-- d.get(y, z), the dict locked or not -/
def tDGet2R (P : Program) (w : World) (K : PySem.W.Frag) (td ty tx : TE) : TE := fun σ H Q => td σ H fun x H1 => ∃ a, x = .ref a ∧ (∃ kvs, DR P w K H1 a kvs) ∧ ty σ H1 fun y H2 => tx σ H2 fun z H3 => ∃ o, GR P w K H3 a y o ∧ Q (o.getD z) H3
theorem pe_dget2R {X : Cx} {o e f : Expr} {apos cpos : Pos} {td ty tx : TE} (hu : X.A.units + 1 < cLine) (ho : PE X o td) (he : PE X e ty) (hf : PE X f tx) (m : M2 X o "get" apos e f cpos) : PE X (.Call (.Attribute o "get" apos) [e, f] [] cpos) (tDGet2R X.prog X.w X.K td ty tx) := by
  refine ⟨fun pins s σ H Q I h => ?_⟩
  refine wpAny_Call_method m.base m.few m.line PySem.F.plainAttrs_dict PySem.F.slot_dict_get PySem.F.type_dict_get (thn (ho.run pins s σ H _ I h) fun u s1 ⟨x, H1, I1, rx, a, ex, ⟨kvs, d⟩, q1⟩ => ?_)
  subst ex
  obtain rfl : u = Value.ref a := rx
  obtain ⟨t1, t2⟩ := dr_typeIs I1 d
  refine ⟨t1, t2, ?_⟩
  rw [m.trees]
  refine Calls.callWith_builtin rfl (Calls.evalArgs_plain (Calls.spliced_cons (thn (he.run pins s1 σ H1 _ I1 q1) fun iv s2 ⟨y, H2, I2, ry, q2⟩ =>
    Calls.spliced_cons (thn (hf.run pins s2 σ H2 _ I2 q2) fun fv s3 ⟨z, H3, I3, rz, ov, g, q3⟩ => Calls.spliced_nil ?_))))
  exact dr_get2 hu I3 g ry rz fun w' s4 I4 rw' => ⟨_, H3, I4, rw', q3⟩
end Es

set_option Elab.async false
set_option linter.all false
set_option maxRecDepth 100000
set_option maxHeartbeats 4000000
/-! How the rules of Eg, Eh, Ei are read; what a change of a dict or a list leaves. -/
namespace Re
open PySem PySem.Spec PyProof.Rows L2 Bd Es Dj Ef
section
variable {P : Program} {w : World} {K : PySem.W.Frag} {σ : L2.St} {H : Hp} {Q : VK} {td ty tx te : TE} {n b c : L2.St → Hp → Prop} {r : VK}
theorem setdX (k : td σ H fun x H1 => ∃ a, x = .ref a ∧ (∃ kvs, DS P w K H1 a kvs) ∧ ty σ H1 fun y H2 => tx σ H2 fun z H3 => ∃ kvs k b, y = .ref b ∧ DS P w K H3 a kvs ∧ kvs.length < sizeLine ∧ SqT K H3 b (k.map kV) ∧
  (∀ v, valV kvs k = some v → Q v H3) ∧ (valV kvs k = none → ∀ ys, DS P w K (upd H3 a (dX P w a ys)) a (putK kvs k z) → Q z (upd H3 a (dX P w a ys)))) : tDSetdX P w K td ty tx σ H Q := k
theorem popX (k : td σ H fun x H1 => ∃ a, x = .ref a ∧ (∃ kvs, DS P w K H1 a kvs) ∧ ty σ H1 fun y H2 => ∃ kvs k b v, y = .ref b ∧ DS P w K H2 a kvs ∧ SqT K H2 b (k.map kV) ∧ valV kvs k = some v ∧
  ∀ ys, DS P w K (upd H2 a (dX P w a ys)) a (L2.dropK kvs k) → Q v (upd H2 a (dX P w a ys))) : tDPopX P w K td ty σ H Q := k
theorem get1X (k : td σ H fun x H1 => ∃ a, x = .ref a ∧ (∃ kvs, DS P w K H1 a kvs) ∧ ty σ H1 fun y H2 => ∃ o, GX P w K H2 a y o ∧ Q (o.getD .non) H2) : tDGet1X P w K td ty σ H Q := k
theorem get2R (k : td σ H fun x H1 => ∃ a, x = .ref a ∧ (∃ kvs, DR P w K H1 a kvs) ∧ ty σ H1 fun y H2 => tx σ H2 fun z H3 => ∃ o, GR P w K H3 a y o ∧ Q (o.getD z) H3) : tDGet2R P w K td ty tx σ H Q := k
theorem delX (k : td σ H fun x H1 => ty σ H1 fun y H2 => ∃ a kvs k b, x = .ref a ∧ y = .ref b ∧ DS P w K H2 a kvs ∧ SqT K H2 b (k.map kV) ∧ (valV kvs k).isSome = true ∧
  ∀ ys, DS P w K (upd H2 a (dX P w a ys)) a (L2.dropK kvs k) → n σ (upd H2 a (dX P w a ys))) : sDDelX P w K td ty ⟨n, r, b, c⟩ σ H := k
theorem listValsX (k : te σ H fun x H1 => ∃ a kvs, x = .ref a ∧ DS P w K H1 a kvs ∧ ∀ l, H1 l = none → Q (.ref l) (upd H1 l (.lst (kvs.map (·.2))))) : tListValsX P w K te σ H Q := k
theorem keysX {R : It → Hp → Prop} (k : td σ H fun x M => ∃ d g ks, x = V.ref d ∧ M d = some (.frz g (dX P w d ks)) ∧ R (ItX P w d g ks) M) : iKeysX P w td σ H R := k
theorem lockX {t : TE} {d : Addr} {ks : List (List Key × Addr × Value)} (h : H d = some (dX P w d ks)) (k : ∀ g, t σ (upd H d (.frz g (dX P w d ks))) fun v H' => H' d = some (.frz g (dX P w d ks)) ∧ Q v (upd H' d (dX P w d ks))) : tLockE t σ H Q := ⟨d, _, h, dX_mut, k⟩
end
/-! ### what stays -/
/-- what is no list and no dict stays -/
def SameE (H H' : Hp) : Prop := ∀ a o, H a = some o → (∀ l, o ≠ .lst l) → (∀ φ, o ≠ .ext φ) → (∀ g u, o ≠ .frz g u) → H' a = some o
section
variable {P : Program} {w : World} {K : PySem.W.Frag} {H H1 H2 : Hp}
theorem SameE.of (s : Same H H1) : SameE H H1 := fun a o h _ _ _ => s a o h
theorem SameE.trans (a : SameE H H1) (b : SameE H1 H2) : SameE H H2 := fun c o h n1 n2 n3 => b c o (a c o h n1 n2 n3) n1 n2 n3
theorem SameE.dict {d : Addr} {ks : List (List Key × Addr × Value)} {o : HO} (h : H d = some (dX P w d ks)) : SameE H (upd H d o) := fun a u ha _ n2 _ => by
  rw [upd_ne fun e => by subst e; rw [h] at ha; exact n2 _ (Option.some.inj ha).symm]; exact ha
theorem SameE.list {d : Addr} {l : List V} {o : HO} (h : H d = some (.lst l)) : SameE H (upd H d o) := fun a u ha n1 _ _ => by
  rw [upd_ne fun e => by subst e; rw [h] at ha; exact n1 _ (Option.some.inj ha).symm]; exact ha
theorem ext_ne_tup {φ} {ys : List V} : HO.ext φ ≠ .tup ys := fun e => by cases e
/-- tuples that the heap has as such, at all depths; no list, no dict -/
theorem sqT_frz {a g d : Addr} {xs : List V} {o : HO} (hp : H d = some o) (h1 : ∀ ys, o ≠ .tup ys) (h2 : ∀ z u, o ≠ .frz z u) {o' : HO} (h : SqT K H a xs) : SqT K (upd H d o') a xs := sqT_upd hp h1 h2 h
theorem DS.other {a d : Addr} {kvs : List (List Key × V)} {ks : List (List Key × Addr × Value)} {o : HO} (h : DS P w K H a kvs) (hd : H d = some (dX P w d ks)) (n : a ≠ d) : DS P w K (upd H d o) a kvs :=
  Es.DS.keepT (upd_ne n) (fun q ys hq => sqT_upd (o := dX P w d ks) hd (fun ys e => by cases e) (fun z u e => by cases e) hq) h
theorem DS.list {a d : Addr} {kvs : List (List Key × V)} {l : List V} {o : HO} (h : DS P w K H a kvs) (hd : H d = some (.lst l)) : DS P w K (upd H d o) a kvs := by
  have n : a ≠ d := fun e => by
    subst e
    obtain ⟨_, xs, e, _⟩ := h
    rw [hd] at e
    have e2 : HO.lst l = HO.ext _ := Option.some.inj e
    cases e2
  exact Es.DS.keepT (upd_ne n) (fun q ys hq => sqT_upd (o := .lst l) hd (fun ys e => by cases e) (fun z u e => by cases e) hq) h
theorem DS.lock {a : Addr} {kvs : List (List Key × V)} (h : DS P w K H a kvs) : ∃ ks, H a = some (dX P w a ks) ∧ KTS K H kvs ks ∧ ∀ g, DR P w K (upd H a (.frz g (dX P w a ks))) a kvs := by
  obtain ⟨z, ks, e, rel⟩ := h
  exact ⟨ks, e, rel, fun g => ⟨z, ks, .inr ⟨g, upd_same⟩, rel.keeps fun q ys hq => sqT_upd (o := dX P w a ks) e (fun ys e => by cases e) (fun z u e => by cases e) hq⟩⟩
/-- [.. for x in d], d locked -/
theorem lcKeys {σ : L2.St} {Q : VK} {d : Addr} {g0 : Obj} {ks : List (List Key × Addr × Value)} {g : TG} {te : TE} {vs : List Nat} (Pv : Addr → Nat → List V → Hp → Prop) (h : H d = some (.frz g0 (dX P w d ks)))
    (h0 : ∀ D H', H D = none → Same H H' → H' D = some (.lst []) → Pv D 0 [] H')
    (hs : ∀ (i : Nat) (e : List Key × Addr × Value) (acc : List V) (D : Addr) (H' : Hp), H D = none → Same H H' → ks[i]? = some e → acc.length = i → H' D = some (.lst acc) → Pv D i acc H' →
      g (.ref e.2.1) (wipe σ vs) H' fun σ2 H2 => wipe σ2 vs = wipe σ vs ∧ te σ2 H2 (Rd.LcE H D i Pv))
    (hd : ∀ D acc H', H D = none → Same H H' → H' D = some (.lst acc) → acc.length = ks.length → Pv D ks.length acc H' → Q (.ref D) H') :
    Rd.LcJ g tYes te vs σ Q (ItX P w d g0 ks) H := by
  refine fun D hD => ⟨fun i m H' => m = ks.length - i ∧ i ≤ ks.length ∧ ∃ acc, Same H H' ∧ acc.length = i ∧ H' D = some (.lst acc) ∧ Pv D i acc H', ⟨ks.length, by simp, Nat.zero_le _, [], Rd.same_new hD, rfl, upd_same, h0 D _ hD (Rd.same_new hD) upd_same⟩, ?_⟩
  rintro i m H' ⟨rfl, hi, acc, s, hl, hDl, p⟩
  have q := s _ _ h
  by_cases hlt : i < ks.length
  · refine .inr ⟨⟨q, hlt⟩, fun H2 => ∃ acc2, Same H H2 ∧ acc2.length = i + 1 ∧ H2 D = some (.lst acc2) ∧ Pv D (i + 1) acc2 H2, fun H2 p' => ⟨ks.length - (i + 1), by omega, rfl, hlt, p'⟩, ?_⟩
    rintro x H2 ⟨rfl, e, he, rfl⟩
    exact hs i e acc D _ hD s he hl hDl p
  · have e : i = ks.length := by omega
    subst e
    exact .inl ⟨⟨q, Nat.le_refl _⟩, hd D acc H' hD s hDl hl p⟩
/-- behind the lock nothing has changed but by more -/
theorem same_unlock {d : Addr} {u f : HO} (h : H d = some u) (s : Same (upd H d f) H1) : Same H (upd H1 d u) := fun a o ha => by
  by_cases e : a = d
  · subst e
    rw [upd_same]
    exact h.symm.trans ha
  · rw [upd_ne e]
    exact s a o ((upd_ne e).trans ha)
end
end Re
namespace Re
open PySem PySem.Spec PyProof.Rows L2 Bd Es Dj Ef
section
variable {K : PySem.W.Frag} {H : Hp} {p : Addr} {g : Obj} {φ : Heap → Prop} {o' : HO}
/-! a locked dict is left: what is no dict stays -/
theorem sqT_unl {P : Program} {w : World} {d : Addr} {ks : List (List Key × Addr × Value)} {a : Addr} {xs : List V} (hp : H p = some (.frz g (dX P w d ks))) (h : SqT K H a xs) : SqT K (upd H p o') a xs := by
  rcases h with (h | ⟨z, h⟩) | h
  · exact .inl (.inl ((upd_ne fun e => by rw [e, hp] at h; cases h).trans h))
  · refine .inl (.inr ⟨z, (upd_ne fun e => ?_).trans h⟩)
    rw [e, hp] at h
    have h2 := Option.some.inj h
    have h3 := (HO.frz.inj h2).2
    exact dX_tup h3.symm
  · exact .inr h
theorem sqL_unl {P : Program} {w : World} {d : Addr} {ks : List (List Key × Addr × Value)} {a : Addr} {xs : List V} (hp : H p = some (.frz g (dX P w d ks))) (h : SqL K H a xs) : SqL K (upd H p o') a xs := by
  rcases h with (h | ⟨z, h⟩) | h
  · exact .inl (.inl ((upd_ne fun e => by rw [e, hp] at h; cases h).trans h))
  · refine .inl (.inr ⟨z, (upd_ne fun e => ?_).trans h⟩)
    rw [e, hp] at h
    have h2 := Option.some.inj h
    have h3 : HO.ext _ = HO.lst xs := (HO.frz.inj h2).2
    cases h3
  · exact .inr h
theorem dp_unl {P : Program} {w : World} {d : Addr} {ks : List (List Key × Addr × Value)} (hp : H p = some (.frz g (dX P w d ks))) : ∀ {x : V} {e : PyData}, Dp K H x e → Dp K (upd H p o') x e
  | _, _, .non => .non
  | _, _, .bl b => .bl b
  | _, _, .int i => .int i
  | _, _, .str x => .str x
  | _, _, .lst h a => .lst (sqL_unl hp h) (go hp a)
  | _, _, .tup h a => .tup (sqT_unl hp h) (go hp a)
where go {P : Program} {w : World} {d : Addr} {ks : List (List Key × Addr × Value)} (hp : H p = some (.frz g (dX P w d ks))) : ∀ {xs : List V} {ds : List PyData}, DpAll K H xs ds → DpAll K (upd H p o') xs ds
  | _, _, .nil => .nil
  | _, _, .cons h t => .cons (dp_unl hp h) (go hp t)
theorem dpAll_unl {P : Program} {w : World} {d : Addr} {ks : List (List Key × Addr × Value)} (hp : H p = some (.frz g (dX P w d ks))) {xs : List V} {ds : List PyData} (h : DpAll K H xs ds) : DpAll K (upd H p o') xs ds := dp_unl.go hp h
end
end Re

set_option Elab.async false
set_option linter.all false
set_option maxRecDepth 100000
set_option maxHeartbeats 4000000
/-! Dicts whose keys are tuples: `not in`. -/
namespace Es
open PySem PySem.Spec PyProof.Rows L2 Bd Dj
section
variable {X : Cx} {pins : List (Addr × Obj)} {σ : L2.St} {H : Hp} {s : Shared} {a : Addr} {y : V} {u : Value} {A : Around} {E : Exc → Shared → Prop}
theorem dx_notIn {A : Around} {E} {o : Option V} {Q : Value → Shared → Prop} (hu : A.units + 1 < cLine) (I : Inv X pins σ H s) (g : GX X.prog X.w X.K H a y o) (ry : RelV y u) (h : ∀ s', Inv X pins σ H s' → Q (.bool (!o.isSome)) s') :
    wpAny (model X.prog X.w) A (compareOp .NotIn u (.ref a)) Q E s := by
  obtain ⟨kvs, k, b, d, rfl, eb, rfl⟩ := g
  cases (show u = Value.ref b from ry)
  obtain ⟨hd, xs, _, rel, dd⟩ := dx_at I d
  refine wpAny_notIn_heap (tupleKind_room_in1 hu) (keyC I eb) hd dd ?_
  have q := (rel.val k).isSome_eq
  rw [Option.isSome_map] at q
  rw [← q]
  exact h _ (I.tok _)
def tDNotInX (P : Program) (w : World) (K : PySem.W.Frag) (ty td : TE) : TE := fun σ H Q => ty σ H fun y H1 => td σ H1 fun x H2 => ∃ a o, x = .ref a ∧ GX P w K H2 a y o ∧ Q (.bl (!o.isSome)) H2
theorem pc_dnotinX {X : Cx} {i o : Expr} {ty td : TE} (hu : X.A.units + 1 < cLine) (hi : PE X i ty) (ho : PE X o td) : PC X .NotIn i o (tDNotInX X.prog X.w X.K ty td) := by
  refine ⟨fun pins s σ H Q I h => ?_⟩
  refine thn (hi.run pins s σ H _ I h) fun iv s1 ⟨y, H1, I1, ry, q1⟩ => thn (ho.run pins s1 σ H1 _ I1 q1) fun u s2 ⟨x, H2, I2, rx, a, ov, ex, g, q2⟩ => ?_
  subst ex
  obtain rfl : u = Value.ref a := rx
  exact dx_notIn hu I2 g ry fun s3 I3 => ⟨.bl (!ov.isSome), H2, I3, rfl, q2⟩
end
end Es
namespace Re
open PySem PySem.Spec PyProof.Rows L2 Bd Es Dj
theorem dnotinX {P : Program} {w : World} {K : PySem.W.Frag} {σ : L2.St} {H : Hp} {Q : VK} {ty td : TE} (k : ty σ H fun y H1 => td σ H1 fun x H2 => ∃ a o, x = .ref a ∧ GX P w K H2 a y o ∧ Q (.bl (!o.isSome)) H2) : tDNotInX P w K ty td σ H Q := k
/-- an if whose test's outcomes are told by C -/
theorem ifJ {σ : L2.St} {H : Hp} {tt : TT} {A B : TS} {D : Ends} (C : Bool → Hp → Prop) (h1 : ∀ Qb : Bool → Hp → Prop, (∀ c H', C c H' → Qb c H') → tt σ H Qb) (h2 : ∀ H', C true H' → A D σ H') (h3 : ∀ H', C false H' → B D σ H') : tIfS tt A B D σ H := by
  refine h1 _ fun c H' h => ?_
  cases c with
  | true => exact Rd.iteT (h2 H' h)
  | false => exact Rd.iteF (h3 H' h)
end Re

set_option Elab.async false
set_option linter.all false
set_option maxRecDepth 100000
set_option maxHeartbeats 4000000
/-! Sets of texts by a comprehension, and their sorted list. -/
namespace Bd
open PySem PySem.Spec PyProof.Rows L2 PpSet
def tx (e : Int × Value) : Str := match e.2 with
  | .str x _ => x
  | _ => Str.empty
/-- the entries are these texts, each once -/
structure OkT (w : World) (l : List (Int × Value)) (ms : List Str) : Prop where
  good : ∀ e ∈ l, ∃ x k, e.2 = Value.str x k ∧ e.1 = keyH w (Sum.inr x)
  pm : (l.map tx).Perm ms
  nd : ms.Nodup
theorem OkT.perm {w : World} {l l' : List (Int × Value)} {ms : List Str} (h : OkT w l ms) (p : l'.Perm l) : OkT w l' ms := ⟨fun e he => h.good e (p.mem_iff.mp he), (p.map tx).trans h.pm, h.nd⟩
theorem OkT.elems {P : Program} {w : World} {l : List (Int × Value)} {ms : List Str} (h : OkT w l ms) : ElemsOf (mixKind P w) l := fun e he => by
  obtain ⟨x, k, h1, h2⟩ := h.good e he
  exact ⟨⟨Sum.inr x, by rw [h1]; exact mixKind_str P w x k, h2⟩, by rw [h1]; rfl⟩
theorem OkT.is {P : Program} {w : World} {l : List (Int × Value)} {ms : List Str} (h : OkT w l ms) {e : Int × Value} (he : e ∈ l) (x : Str) : (mixKind P w).is (Sum.inr x) e.2 = true ↔ tx e = x := by
  obtain ⟨y, k, h1, _⟩ := h.good e he
  have ty : tx e = y := by unfold tx; rw [h1]
  rw [ty]
  constructor
  · intro z
    have z2 : (mixKind P w).is (Sum.inr y) e.2 = true := by rw [h1]; exact mixKind_str P w y k
    exact Sum.inr.inj ((mixKind P w).inj _ _ _ z2 z)
  · rintro rfl
    rw [h1]; exact mixKind_str P w y k
/-- a set of texts stands at a; it can be walked -/
def TxAt (w : World) (h : Heap) (a : Addr) (ms : List Str) : Prop := ∃ o es ep t, h.get? a = some o ∧ o.ExactSet ∧ o.data = .set es ep t ∧ OkT w es.toList ms ∧ es.size < scanBound ∧ t.fits es.size = true ∧ Ris t.place.toList ∧ (w.params.followText "set-order" = true ∨ t.led = true)
def TxO (w : World) (a : Addr) (ms : List Str) : HO := .ext fun h => TxAt w h a ms
theorem txO_ok {P : Program} {w : World} {H : Hp} {h : Heap} {a : Addr} {ms : List Str} (r : TxAt w h a ms) : ObjOk P w H h a (TxO w a ms) := by
  have ⟨o, _, _, _, q, _⟩ := r
  exact ⟨r, ⟨o, q⟩, fun h1 h2 ⟨o, es, ep, t, z, rest⟩ k => ⟨o, es, ep, t, k o z, rest⟩⟩
theorem txNew {h : Heap} (w : World) : TxAt w (h.push { cls := .type "set", dict := none, data := .set #[] 0 (.fresh 0 0 (!w.params.followText "set-order")) }) h.objs.size [] := by
  obtain ⟨o, es, ep, t, h1, h2, h3, _, _, _, h5, h6, h7, h8, h9⟩ := setB_fresh (h := h) w
  have e0 : es = #[] := Array.eq_empty_of_size_eq_zero h7
  subst e0
  exact ⟨o, _, ep, t, h1, h2, h3, ⟨fun e he => by simp at he, by simp, List.nodup_nil⟩, h5, h6, h8, h9⟩
section
variable {P : Program} {w : World} {A : Around} {E : Value → Shared → Prop} {s : Shared} {a : Addr}
theorem put_end {gv : Bool → Sem Unit} (hgv : ∀ (b : Bool) (u : Shared) (Q : Unit → Shared → Prop), Q () u → wpAny (model P w) A (gv b) Q E u) {ob : Obj} {es : Array (Int × Value)} {n : Nat} {tb : SetTable}
    (h1 : s.heap.get? a = some ob) (h2 : ob.ExactSet) (h3 : ob.data = .set es n tb) {fs : Array (Int × Value)} {t9 : SetTable} {ms : List Str} (ok : OkT w fs.toList ms) (hb : fs.size < scanBound) (hf : t9.fits fs.size = true)
    (hr : Ris t9.place.toList) (hl : w.params.followText "set-order" = true ∨ t9.led = true) {wd : Bool} {R : Option Bool → Shared → Prop}
    (hR : ∀ h', Heap.SameBut a s.heap h' → TxAt w h' a ms → R (some true) { s with heap := h' }) :
    wpAny (model P w) A (do
      storeSet a fs t9
      if (!wd && t9.tooFull) = true then do
        gv (relayAll t9 fs (SetTable.grown fs.size)).2.2
        storeSet a (relayAll t9 fs (SetTable.grown fs.size)).1 (relayAll t9 fs (SetTable.grown fs.size)).2.1
        pure (some true)
      else pure (some true)) R E s := by
  refine wpAny_bind (wpAny_storeSet_of h1 h3 ?_ (fits_of_scanBound hb))
  have p1 := storeB_at (es' := fs) (t' := t9) h1 h3
  have q1 := Heap.SameBut.update s.heap a (Obj.putSet fs t9)
  split
  · have pm := relayAll_perm t9 fs (SetTable.grown fs.size)
    have g1 := relayAll_fits t9 fs (SetTable.grown fs.size)
    have g2 := relayAll_ris t9 fs (SetTable.grown fs.size)
    have g3 := relayAll_led t9 fs (SetTable.grown fs.size)
    generalize relayAll t9 fs (SetTable.grown fs.size) = Y at pm g1 g2 g3 ⊢
    obtain ⟨gs, t8, gave⟩ := Y
    dsimp only at pm g1 g2 g3 ⊢
    have ez : gs.size = fs.size := by
      have := pm.length_eq
      simpa using this
    refine wpAny_bind (hgv _ _ _ ?_)
    refine wpAny_bind (wpAny_storeSet_of p1 rfl ?_ (fits_of_scanBound (by rw [ez]; exact hb)))
    have p2 := storeB_at (es' := gs) (t' := t8) p1 rfl
    exact wpAny_pure (hR _ (q1.trans (Heap.SameBut.update _ a _)) ⟨_, gs, _, t8, p2, h2, rfl, ok.perm pm, by rw [ez]; exact hb, g1, g2, hl.imp id fun z => by rw [g3]; exact z⟩)
  · exact wpAny_pure (hR _ q1 ⟨_, fs, _, t9, p1, h2, rfl, ok, hb, hf, hr, hl⟩)
def addT (ms : List Str) (x : Str) : List Str := if x ∈ ms then ms else ms ++ [x]
theorem addHashT {ms : List Str} {x : Str} {tk : Tok} {Q : Bool → Shared → Prop} (r : TxAt w s.heap a ms) (room : ms.length + 1 < scanBound)
    (hQ : ∀ (b : Bool) h', Heap.SameBut a s.heap h' → TxAt w h' a (addT ms x) → Q b { s with heap := h' }) : wpAny (model P w) A (setAddHashed a (.str x tk) (keyH w (Sum.inr x))) Q E s := by
  obtain ⟨ob, es, n, tb, h1, h2, h3, ok, hb, hf, hr, hl⟩ := r
  have kx : (mixKind P w).is (Sum.inr x) (.str x tk) = true := mixKind_str P w x tk
  have sc : (Value.str x tk).scannable = true := rfl
  have el : ElemsOf (mixKind P w) es.toList := ok.elems
  unfold setAddHashed setAddHashedIn
  refine wpAny_holding (wpAny_bind (wpAny_setState_of h1 h3 hf ?_))
  dsimp only
  rw [byScan_of sc hb el]
  simp only [↓reduceIte]
  unfold setAddByScan
  refine wpAny_bind (wpAny_bind (wpAny_rule (wpAny_bind (wpAny_setScan_of (knd := mixKind P w) kx h1 h3 hf el ?_))))
  cases hi : List.findIdx? (fun e => (mixKind P w).is (Sum.inr x) e.2) es.toList with
  | some j =>
    dsimp only
    obtain ⟨hj, pj, _⟩ := List.findIdx?_eq_some_iff_getElem.mp hi
    have hin : x ∈ ms := ok.pm.mem_iff.mp (List.mem_map.mpr ⟨_, List.getElem_mem hj, (ok.is (P := P) (List.getElem_mem hj) x).mp pj⟩)
    refine wpAny_pure (wpAny_pure (hQ _ s.heap (Heap.SameBut.refl a s.heap) ⟨ob, es, n, tb, h1, h2, h3, ?_, hb, hf, hr, hl⟩))
    unfold addT
    rw [if_pos hin]
    exact ok
  | none =>
    dsimp only
    have hno : x ∉ ms := fun z => by
      obtain ⟨e, he, q⟩ := List.mem_map.mp (ok.pm.mem_iff.mpr z)
      have c := List.findIdx?_eq_none_iff.mp hi e he
      rw [(ok.is (P := P) he x).mpr q] at c
      cases c
    have pm := layNew_perm tb es (keyH w (Sum.inr x)) (.str x tk)
    have g1 := layNew_fits tb es (keyH w (Sum.inr x)) (.str x tk)
    have g2 := layNew_ris tb es (keyH w (Sum.inr x)) (.str x tk) hr
    have g3 := layNew_led tb es (keyH w (Sum.inr x)) (.str x tk)
    generalize layNew tb es (keyH w (Sum.inr x)) (.str x tk) = Y at pm g1 g2 g3 ⊢
    obtain ⟨fs, t9, wd, gave⟩ := Y
    dsimp only at pm g1 g2 g3 ⊢
    rw [Array.toList_push] at pm
    have pc : fs.toList.Perm ((keyH w (Sum.inr x), Value.str x tk) :: es.toList) := pm.trans (List.perm_append_singleton _ _)
    have ok1 : OkT w fs.toList (addT ms x) := by
      unfold addT
      rw [if_neg hno]
      refine ⟨fun e he => ?_, ?_, ?_⟩
      · rcases List.mem_cons.mp (pc.mem_iff.mp he) with z | z
        · rw [z]; exact ⟨x, tk, rfl, rfl⟩
        · exact ok.good e z
      · have := pc.map tx
        rw [List.map_cons] at this
        exact this.trans ((List.Perm.cons _ ok.pm).trans (List.perm_append_singleton _ _).symm)
      · rw [List.nodup_append]
        exact ⟨ok.nd, by simp, fun y hy z hz e => hno (by rw [List.mem_singleton] at hz; rw [← hz, ← e]; exact hy)⟩
    have ez : fs.size = ms.length + 1 := by
      have e1 := pc.length_eq
      have e2 := ok.pm.length_eq
      simp only [List.length_cons, Array.length_toList, List.length_map] at e1 e2
      omega
    have hb1 : fs.size < scanBound := by rw [ez]; exact room
    have hl1 : w.params.followText "set-order" = true ∨ t9.led = true := hl.imp id fun z => by rw [g3]; exact z
    have out : ∀ h', Heap.SameBut a s.heap h' → TxAt w h' a (addT ms x) → Q true { s with heap := h' } := fun h' sb r => hQ true h' sb r
    refine wpAny_bind ?_
    have go : ∀ (U : Unit → Shared → Prop), U () s → wpAny (model P w) A (match gave with | true => rule "set.scan.the-table-gave-way" | false => pure ()) U E s := fun U q => by
      cases gave
      · exact wpAny_pure q
      · exact wpAny_rule q
    refine go _ ?_
    split
    · refine wpAny_bind ?_
      rw [hashByValue_scannable 8 sc]
      refine wpAny_pure ?_
      simp only [show plainKind (Value.str x tk) = false from rfl, Bool.false_eq_true, if_false]
      refine put_end (fun b u U q => ?_) h1 h2 h3 ok1 hb1 (SetTable.fits_plain_off g1) g2 hl1 (fun h' sb r => wpAny_pure (out h' sb r))
      cases b
      · exact wpAny_pure q
      · exact wpAny_rule q
    · refine wpAny_bind (wpAny_pure ?_)
      simp only [↓reduceIte]
      refine put_end (fun b u U q => ?_) h1 h2 h3 ok1 hb1 g1 g2 hl1 (fun h' sb r => wpAny_pure (out h' sb r))
      cases b
      · exact wpAny_pure q
      · exact wpAny_rule q
theorem addText {ms : List Str} {x : Str} {tk : Tok} {Q : Value → Shared → Prop} (r : TxAt w s.heap a ms) (room : ms.length + 1 < scanBound)
    (hQ : ∀ h', Heap.SameBut a s.heap h' → TxAt w h' a (addT ms x) → Q .none { s with heap := h', toks := s.toks + 1 }) : wpAny (model P w) A (call (.builtin "set.add") [.ref a, .str x tk]) Q E s := by
  obtain ⟨ob, es, n, tb, h1, h2, h3, rest⟩ := id r
  have hT : s.TypeIs (.ref a) "set" := ⟨ob, h1, h2.1⟩
  refine wpAny_call_entry F.slot_set_add hT F.entry_set_add ?_ (F.args_set_add_2 _ _)
  unfold Builtin.«set.add» Builtin.Frozenset.oneOther
  simp only [List.isEmpty_nil, bind_assoc]
  unfold Builtin.Frozenset.addrOf setAdd
  refine wpAny_bind (wpAny_pure ?_)
  try dsimp only
  refine wpAny_bind (wpAny_pure ?_)
  try dsimp only
  refine wpAny_bind (wpAny_holding (wpAny_bind ((mixKind P w).pyHash (mixKind_str P w x tk) ?_)))
  refine addHashT (s := { s with toks := s.toks + 1 }) r room fun b h' sb r' => ?_
  exact wpAny_pure ⟨_, rfl, hQ h' sb r'⟩
end
section
variable {X : Cx}
theorem addT_ok {pins : List (Addr × Obj)} {σ : L2.St} {H : Hp} {s : Shared} {E : Value → Shared → Prop} {D : Addr} {ms : List Str} {x : Str} {tk : Tok} {Q : Value → Shared → Prop} (I : Inv X pins σ H s) (hD : H D = some (TxO X.w D ms)) (room : ms.length + 1 < scanBound)
    (h : ∀ s', Inv X pins σ (upd H D (TxO X.w D (addT ms x))) s' → Q .none s') : wpAny (model X.prog X.w) X.A (call (.builtin "set.add") [.ref D, .str x tk]) Q E s := by
  have r : TxAt X.w s.heap D ms := (I.hok D _ hD).1
  refine addText r room fun h' sb new => ?_
  have hin : ∃ u, h'.get? D = some u := by
    have ⟨o, _, _, _, q, _⟩ := new
    exact ⟨o, q⟩
  exact h _ (I.write (e := D) (t' := s.toks + 1) (by rw [hD]; trivial) (.inl rfl) (fun b u hb hu => (sb.2 b hb).trans hu) hin (txO_ok new))
/-- what {e for ..} asks of what it walks, e a text: D the new set -/
def ScJ (w : World) (g : TG) (tt : TT) (te : TE) (vs : List Nat) (σ : L2.St) (Q : VK) (J : It) (H1 : Hp) : Prop := ∀ D, H1 D = none → ∃ W : Nat → Nat → Hp → Prop, (∃ m, W 0 m (upd H1 D (TxO w D []))) ∧ ∀ i m H, W i m H →
  (J.stop i H ∧ Q (.ref D) H) ∨ (J.go i H ∧ ∃ Nx : Hp → Prop, (∀ H', Nx H' → ∃ m', m' < m ∧ W (i + 1) m' H') ∧ ∀ x H', J.yld i H x H' → g x (wipe σ vs) H' fun σ2 H2 => wipe σ2 vs = wipe σ vs ∧ tt σ2 H2 fun t H3 =>
    if t = true then te σ2 H3 fun y H4 => ∃ ms z, y = .str z ∧ H4 D = some (TxO w D ms) ∧ ms.length + 1 < scanBound ∧ Nx (upd H4 D (TxO w D (addT ms z))) else Nx H3)
def tScT (w : World) (wi : TI) (g : TG) (tt : TT) (te : TE) (vs : List Nat) : TE := fun σ H Q => wi σ H fun J H1 => ScJ w g tt te vs σ Q J H1
theorem pe_scT {vx tg iter : Expr} {ifs : List Expr} {scope : Scope} {own : List (Str × Nat)} {pos : Pos} {wi : TI} {g : TG} {tt : TT} {tv : TE} (hc : X.calm = true) (hN : X.N.Nodup) (hi : PI X tg iter wi) (ok : BlkOk X.N X.env.scope scope own)
    (hg : ∀ (s : Shared) (H : Hp) (C : Addr) (cl : List (Str × Addr)) (fp : List Addr), PG (X.blk s H scope (compEnvC scope cl C X.env) fp) tg g) (ht : ∀ (s : Shared) (H : Hp) (C : Addr) (cl : List (Str × Addr)) (fp : List Addr), PTs (X.blk s H scope (compEnvC scope cl C X.env) fp) ifs tt)
    (he : ∀ (s : Shared) (H : Hp) (C : Addr) (cl : List (Str × Addr)) (fp : List Addr), PE (X.blk s H scope (compEnvC scope cl C X.env) fp) vx tv) (hs : ∀ x, foldedSetIterable iter X.env x = pure x := by intro _; rfl) :
    PE X (.SetComp vx [⟨tg, iter, ifs, 0⟩] scope pos) (tScT X.w wi g tt tv (own.map (·.2))) := by
  refine ⟨fun pins s σ H Q I h => ?_⟩
  rw [eval_SetComp]
  have free : ∀ y ∈ scope.names, y.2 = .free → ∃ c, X.env.cells.lookup y.1 = some c := fun y hy e => by
    rcases ok.free y hy e with k | k
    · exact I.ok.has _ (.inl k)
    · exact I.ok.has _ (.inr k)
  refine wpAny_comprehension_free rfl hs (closure_ok free) ok.kind (fun y hy e => by rw [ok.uniq y hy, e]) (thn (hi.run pins s σ H _ I h) fun xv s1 hx => thn hx fun itv s2 h2 => ?_)
  obtain ⟨it, fp, tn, J, H2, rfl, I2, T, st2, f2, q⟩ := h2
  -- the dict that is made, at D
  obtain ⟨D, hD⟩ : ∃ D : Addr, D = s2.heap.objs.size := ⟨_, rfl⟩
  have D0 : H2 D = none := I2.hok.fresh (Nat.le_of_eq hD.symm)
  obtain ⟨W, ⟨m0, w0⟩, turn⟩ := q D D0
  refine newSet_ok (newEnv_comp ?_)
  rw [← hD]
  obtain ⟨s3, e3⟩ : ∃ s3 : Shared, s3 = { s2 with heap := s2.heap.push { cls := .type "set", dict := none, data := .set #[] 0 (.fresh 0 0 (!X.w.params.followText "set-order")) } } := ⟨_, rfl⟩
  have p3 : ∀ b o, s2.heap.get? b = some o → s3.heap.get? b = some o := fun b o e => by rw [e3]; exact Heap.get?_push_of_some _ e
  have I3 : Inv X pins σ (upd H2 D (TxO X.w D [])) s3 := by
    rw [e3]
    exact I2.laid (t' := s2.toks) (fun b o e => Heap.get?_push_of_some _ e) (Nat.le_of_eq hD.symm) (by rw [hD]; exact txO_ok (txNew X.w))
  have f3 : ∀ b ∈ fp, FpOk X pins (upd H2 D (TxO X.w D [])) b ∧ b < s3.heap.objs.size := fun b hb => by
    obtain ⟨o, e, _⟩ := T.obj _ _ st2 b hb
    exact ⟨⟨by rw [upd_ne (by rw [hD]; exact Nat.ne_of_lt (Heap.lt_size e))]; exact (f2 b hb).1, (f2 b hb).2⟩, Heap.lt_size (p3 b o e)⟩
  have I4 := block_start I3 ok hN f3
  have pg := hg s3 (upd H2 D (TxO X.w D [])) s3.heap.objs.size (cellsFrom (s3.heap.objs.size + 1) scope.names (cloFrom X.env.cells scope.names [])) fp
  have pt := ht s3 (upd H2 D (TxO X.w D [])) s3.heap.objs.size (cellsFrom (s3.heap.objs.size + 1) scope.names (cloFrom X.env.cells scope.names [])) fp
  have pe := he s3 (upd H2 D (TxO X.w D [])) s3.heap.objs.size (cellsFrom (s3.heap.objs.size + 1) scope.names (cloFrom X.env.cells scope.names [])) fp
  rw [← e3]
  show codeAny _ _ (.compStart (.SetComp vx [⟨tg, iter, ifs, 0⟩] scope pos) 0 (.ref it) (.ref D) (compEnvC scope (cellsFrom (s3.heap.objs.size + 1) scope.names (cloFrom X.env.cells scope.names [])) s3.heap.objs.size X.env))
    (compPost (model X.prog X.w) X.A X.xe none (EP X pins σ Q) (.ref D) s3.heap.objs.size) { s3 with heap := pushCells (s3.heap.push { cls := .type "dict", data := .dict #[] }) scope.names }
  have nf : ∀ b ∈ fp, (upd H2 D (TxO X.w D [])) b = none := fun b hb => (f3 b hb).1.1
  have t4 : tn 0 (pushCells (s3.heap.push { cls := .type "dict", data := .dict #[] }) scope.names) := T.keep _ _ _ st2 fun b _ o e => pushCells_keeps _ _ _ _ (Heap.get?_push_of_some _ (p3 b o e))
  generalize hce : compEnvC scope (cellsFrom (s3.heap.objs.size + 1) scope.names (cloFrom X.env.cells scope.names [])) s3.heap.objs.size X.env = ce at I4 pg pt pe ⊢
  have cL : ce.locals = s3.heap.objs.size := by rw [← hce]; rfl
  generalize upd H2 D (TxO X.w D []) = H3 at I3 f3 I4 pg pt pe nf w0
  generalize hs4 : ({ s3 with heap := pushCells (s3.heap.push { cls := .type "dict", data := .dict #[] }) scope.names } : Shared) = s4 at I4 ⊢
  have t4' : tn 0 s4.heap := by rw [← hs4]; exact t4
  -- the iterator's objects stand outside of the block
  have outer : ∀ {σ' : L2.St} {H' : Hp} {s' : Shared}, Inv (X.blk s3 H3 scope ce fp) [] σ' H' s' → (∀ b ∈ fp, H' b = none) → ∀ b ∈ fp, FpOk (X.blk s3 H3 scope ce fp) [] H' b := fun {σ' H' s'} J n b hb =>
    ⟨n b hb, (J.ok.exf b hb).1, J.ok.exfs b hb, .inl hb, fun x c e => (J.ok.exf b hb).2 x c e, fun p hp => absurd (show p ∈ ([] : List (Addr × Obj)) ++ [] from hp) (by simp)⟩
  have loop : codeAny (model X.prog X.w) X.A (.compLoop (.SetComp vx [⟨tg, iter, ifs, 0⟩] scope pos) 0 (.ref it) (.ref D) ce) (compPost (model X.prog X.w) X.A X.xe none (EP X pins σ Q) (.ref D) s3.heap.objs.size) s4 := by
    refine compLoopS_any (fun n s' => ∃ i H', Inv (X.blk s3 H3 scope ce fp) [] (wipe σ (own.map (·.2))) H' s' ∧ tn i s'.heap ∧ (∀ b ∈ fp, H' b = none) ∧ W i n H') ?_ m0 ⟨0, H3, I4, t4', nf, w0⟩
    rintro n s5 ⟨i, H5, I5, t5, n5, w5⟩
    rcases turn i n H5 w5 with ⟨stop, fin⟩ | ⟨go, Nx, hNx, step⟩
    · -- the walk is at its end: the def goes on
      refine thnF (T.done (X.blk s3 H3 scope ce fp) rfl rfl rfl hc i [] s5 _ H5 (fun _ _ => False) I5 (outer I5 n5) t5 stop) fun r s6 ⟨hr, I6⟩ => ?_
      subst hr
      have I7 : Inv X pins σ H5 s6 := I3.call' (ch := fp) I6.os I6.base I6.hok I6.bare fun b hb => ⟨(f3 b hb).1.2.2.2.1, (f3 b hb).1.2.1, (f3 b hb).1.2.2.2.2.1, (f3 b hb).1.2.2.2.2.2⟩
      have nC : H5 s3.heap.objs.size = none := by rw [← cL]; exact I6.free
      obtain ⟨m, hn, _⟩ := I6.loc
      have hn' : s6.heap.Ns s3.heap.objs.size m := by rw [← cL]; exact hn
      obtain ⟨g0, g1, g2, g3, g4, g5⟩ := I3.fpOk (Nat.le_refl _) nC
      exact ⟨m, hn', fun h'' sb => ⟨.ref D, H5, I7.turned (t' := s6.toks) (fun b o hb e => (sb.2 b hb).trans e) g0 g1 g3 g4 g5, rfl, fin⟩⟩
    · -- one more turn
      refine thnF (T.item (X.blk s3 H3 scope ce fp) rfl rfl rfl hc i [] s5 _ H5 (fun _ _ => False) I5 (outer I5 n5) t5 go) fun r s6 ⟨u, hr, h6⟩ => ?_
      subst hr
      refine thnF h6 fun _ s7 ⟨x, H7, I7, r7, y7, t7, n7⟩ => ?_
      have I7' := I7.pinned (outer I7 n7) (T.obj _ _ t7)
      refine thnF (pg.run _ s7 _ H7 x u _ I7' r7 (step x H7 y7)) fun _ s8 ⟨σ8, H8, I8, w8, q8⟩ => ?_
      refine thnF (pt.run _ s8 σ8 H8 _ I8 q8) fun b s9 ⟨H9, I9, q9⟩ => ?_
      have again : ∀ {s' : Shared} {H' : Hp}, Inv (X.blk s3 H3 scope ce fp) ([] ++ pinsAt fp s7.heap) σ8 H' s' → Nx H' → ∃ m, m < n ∧ ∃ i H', Inv (X.blk s3 H3 scope ce fp) [] (wipe σ (own.map (·.2))) H' s' ∧ tn i s'.heap ∧ (∀ b ∈ fp, H' b = none) ∧ W i m H' := by
        intro s' H' J nx
        obtain ⟨m', hm, w'⟩ := hNx H' nx
        have stay : ∀ b ∈ fp, ∀ o, s7.heap.get? b = some o → s'.heap.get? b = some o ∧ H' b = none := fun b hb o e => by
          have z := J.pin (b, o) (List.mem_append_right _ (List.mem_append_right _ (mem_pinsAt hb e)))
          exact ⟨z.1, z.2.1⟩
        refine ⟨m', hm, i + 1, H', (J.unpinned (pins := [])).weak (by rw [← w8, wipe_length]) (fun j v e => ?_), T.keep _ _ _ t7 fun b hb o e => (stay b hb o e).1, fun b hb => ?_, w'⟩
        · rw [← w8] at e; exact (wipe_some e).1
        · obtain ⟨o, e, _⟩ := T.obj _ _ t7 b hb
          exact (stay b hb o e).2
      cases b with
      | false =>
        simp only [Bool.false_eq_true, if_false] at q9 ⊢
        exact again I9 q9
      | true =>
        simp only [if_true] at q9 ⊢
        refine thnF (pe.run _ s9 σ8 H9 _ I9 q9) fun vv s11 ⟨yv, H11, I11, r11, ms, z, ez, hD11, hz11, nx⟩ => ?_
        subst ez
        obtain ⟨tk, rfl⟩ := r11
        exact addT_ok (X := X.blk s3 H3 scope ce fp) I11 hD11 hz11 fun s12 I12 => again I12 nx
  exact codeAny_compStart_set loop (T.self X.A 0 _ _ _ t4' loop)

def tv : Value → Str
  | .str x _ => x
  | _ => Str.empty
theorem vals_tv : ∀ {us : List Value}, (∀ u ∈ us, ∃ x k, u = Value.str x k) → Vals ((us.map tv).map V.str) us
  | [], _ => .nil
  | u :: us, h => by
    obtain ⟨x, k, rfl⟩ := h u (List.mem_cons.mpr (.inl rfl))
    exact .cons ⟨k, rfl⟩ (vals_tv fun v hv => h v (List.mem_cons.mpr (.inr hv)))
/-- sorted of a set of texts -/
def rSortedTx (w : World) : List V → Hp → VK → Prop := fun xs H Q => ∃ (a : Addr) (ms : List Str), xs = [.ref a] ∧ H a = some (TxO w a ms) ∧ ms.length < 64 ∧ ∀ (ys : List Str) (p : Addr), ys.Perm ms → sortedS ys = true → H p = none → Q (.ref p) (upd H p (.lst (ys.map V.str)))
theorem cr_sortedTx (hc : X.calm = true) : CallR X (.builtin "sorted") (rSortedTx X.w) := by
  intro pins s σ H xs us Q I r h
  obtain ⟨a, ms, rfl, ha, h64, q⟩ := h
  obtain rfl := Vals.ref1 r
  obtain ⟨ob, es, n, tb, h1, h2, h3, ok, hb, hf, hr, hl⟩ := (I.hok a _ ha).1
  refine PySem.Calls.call_function_entry kind_sorted plain_sorted entry_sorted (args_sorted1 _) ?_
  unfold Builtin.«sorted»
  refine wpAny_bind (m := checkCount "sorted" 1 1 _) (wpAny_pure ?_)
  refine wpAny_bind (collect_set (A := X.A.in1) (I.ok.hd hc) ⟨ob, h1, h2.1, h3⟩ hf hb hr hl fun s1 vs k1 hz g1 o1 pm => ?_)
  have I1 : Inv X pins σ H s1 := I.call' (ch := []) o1 (Un.kept k1) (I.hok.kept k1) (by rw [g1]; exact I.bare) (fun _ z => nomatch z)
  have hstr : ∀ u ∈ vs, ∃ x k, u = Value.str x k := fun u hu => by
    obtain ⟨e, he, rfl⟩ := List.mem_map.mp (pm.mem_iff.mp hu)
    obtain ⟨x, k, z, _⟩ := ok.good e he
    exact ⟨x, k, z⟩
  have hS : StrsAre vs (vs.map tv) := strsAre_of (vals_tv hstr)
  have pv : (vs.map tv).Perm ms := by
    refine (pm.map tv).trans ?_
    rw [List.map_map]
    refine List.Perm.trans (List.Perm.of_eq (List.map_congr_left fun e _ => ?_)) ok.pm
    unfold tx tv
    rfl
  have hvl : vs.length = ms.length := by
    have := pv.length_eq
    rwa [List.length_map] at this
  refine wpAny_bind (wpAny_newList ?_ (by rw [hvl, sizeLine_eq]; omega))
  have hL : (s1.heap.push (seqObj "list" vs.toArray 0)).get? s1.heap.objs.size = some (seqObj "list" vs.toArray 0) := Heap.get?_push_size _ rfl
  show wpAny _ _ _ _ _ { s1 with heap := s1.heap.push (seqObj "list" vs.toArray 0) }
  refine wpAny_bind (wpAny_holding (wpAny_call_entry PyProof.Rows.slot_list_sort ⟨_, hL, rfl⟩ PyProof.Rows.entry_list_sort (list_sort_treeK strKind_oneLt (s := { s1 with heap := s1.heap.push (seqObj "list" vs.toArray 0) }) hL hS.keysOf
    (fun v₁ v₂ rest e => keyKind_strs (by rw [← e]; exact hS)) (by rw [hvl]; exact h64) fun st' hp hs => ⟨_, rfl, ?_⟩) (PyProof.Rows.args_list_sort _)))
  obtain ⟨ys, z1, z2, z3⟩ := sorted_out_str hS hp hs
  obtain ⟨e', he'⟩ := PyProof.Rows.sortedHeap_at (vs := vs) (out := (arrOf st').map (·.2)) hL
  have py : ys.Perm ms := z2.trans pv
  have hlen : (ys.map V.str).length ≤ sizeLine := by
    rw [List.length_map, py.length_eq, sizeLine_eq]
    omega
  refine wpAny_pure ⟨_, rfl, .ref s1.heap.objs.size, upd H s1.heap.objs.size (.lst (ys.map V.str)), I1.laid (t' := s1.toks) (fun b u e => ?_) (Nat.le_refl _) (show ObjOk X.prog X.w _ _ _ (.lst (ys.map V.str)) from ⟨hlen, ((arrOf st').map (·.2)).toList, e', vals_of_strs z1, by rw [Array.toArray_toList]; exact he'⟩), rfl, q ys _ py z3 (I1.hok.fresh (Nat.le_refl _))⟩
  have hlt : b < s1.heap.objs.size := Heap.lt_size e
  rw [PyProof.Rows.sortedHeap_old (Nat.ne_of_lt hlt) (by rw [size_push']; exact Nat.lt_succ_of_lt hlt)]
  exact Heap.get?_push_of_some _ e
end
end Bd

set_option Elab.async false
set_option linter.all false
set_option maxRecDepth 100000
set_option maxHeartbeats 4000000
/-! Sorted texts; set comprehensions over a tuple; the negative part of rows. -/
namespace Bd
open PySem PySem.Spec PyProof.Rows L2
theorem ltCps_iff : ∀ {a b : List Nat}, ltCps a b = true ↔ a < b
  | [], [] => by simp [ltCps]
  | [], _ :: _ => by simp [ltCps]
  | _ :: _, [] => by simp [ltCps]
  | x :: a, y :: b => by
    rw [List.cons_lt_cons_iff, ← ltCps_iff (a := a) (b := b)]
    simp [ltCps]
theorem rise_le : ∀ {r : List Str} {p : Str}, risingS p r = true → (p :: r).Pairwise fun a b => a.cps.toList ≤ b.cps.toList
  | [], p, _ => by simp
  | x :: r, p, h => by
    have h2 : (!ltCps x.cps.toList p.cps.toList && risingS x r) = true := h
    rw [Bool.and_eq_true] at h2
    have ih := rise_le h2.2
    have le : p.cps.toList ≤ x.cps.toList := by
      have h3 : ltCps x.cps.toList p.cps.toList = false := by simpa using h2.1
      refine List.not_lt.mp fun z => ?_
      rw [ltCps_iff.mpr z] at h3
      cases h3
    refine List.pairwise_cons.mpr ⟨fun y hy => ?_, ih⟩
    rcases List.mem_cons.mp hy with e | e
    · rw [e]; exact le
    · exact List.le_trans le ((List.pairwise_cons.mp ih).1 y e)
theorem sorted_le {xs : List Str} (h : sortedS xs = true) : xs.Pairwise fun a b => a.cps.toList ≤ b.cps.toList := by
  cases xs with
  | nil => exact .nil
  | cons x r => exact rise_le h
theorem le_uniq : ∀ {xs ys : List Str}, xs.Pairwise (fun a b => a.cps.toList ≤ b.cps.toList) → ys.Pairwise (fun a b => a.cps.toList ≤ b.cps.toList) → xs.Perm ys → xs = ys
  | [], ys, _, _, p => (List.nil_perm.mp p).symm
  | x :: xs, [], _, _, p => absurd p.length_eq (by simp)
  | x :: xs, y :: ys, h, k, p => by
    have e : x = y := by
      refine str_ext (List.le_antisymm ?_ ?_)
      · rcases List.mem_cons.mp (p.mem_iff.mpr (List.mem_cons.mpr (.inl rfl))) with e | e
        · rw [e]; exact List.le_refl _
        · exact (List.pairwise_cons.mp h).1 y e
      · rcases List.mem_cons.mp (p.mem_iff.mp (List.mem_cons.mpr (.inl rfl))) with e | e
        · rw [e]; exact List.le_refl _
        · exact (List.pairwise_cons.mp k).1 x e
    subst e
    rw [le_uniq (List.pairwise_cons.mp h).2 (List.pairwise_cons.mp k).2 (List.perm_cons x |>.mp p)]
theorem sorted_uniq {xs ys : List Str} (h : sortedS xs = true) (k : sortedS ys = true) (p : xs.Perm ys) : xs = ys := le_uniq (sorted_le h) (sorted_le k) p
/-- lists of texts, as data -/
def encT (x : Str) : PyData := .str x
theorem vals_dp {K : PySem.W.Frag} {H : Hp} : ∀ xs : List Str, DpAll K H (xs.map V.str) (xs.map encT)
  | [] => .nil
  | x :: xs => .cons (.str x) (vals_dp xs)
theorem encT_any (ms : List Str) (x : Str) : ((ms.map encT).any fun z => PyData.eqv z (encT x)) = decide (x ∈ ms) := by
  induction ms with
  | nil => rfl
  | cons y ms ih =>
    rw [List.map_cons, List.any_cons, ih]
    have e : PyData.eqv (encT y) (encT x) = decide (y = x) := by
      simp only [encT, PyData.eqv]
      rw [Bool.eq_iff_iff]; simp
    rw [e]
    by_cases h : y = x
    · simp [h]
    · simp [h, List.mem_cons, Ne.symm h]
theorem encT_all : ∀ ms : List Str, PyData.eqvAll (ms.map encT) (ms.map encT) = true
  | [] => by simp [PyData.eqvAll]
  | x :: ms => by simp [PyData.eqvAll, encT_all ms, encT, PyData.eqv]
theorem encT_depth : ∀ ms : List Str, PyData.depthAll (ms.map encT) ≤ 1
  | [] => by simp [PyData.depthAll]
  | x :: ms => by
    have := encT_depth ms
    simp only [List.map_cons, PyData.depthAll, encT, PyData.depth]
    omega
theorem encT_lay : ∀ ms : List Str, (∀ x ∈ ms, PyData.strOk x = true) → PyData.canLayAll0 (ms.map encT) = true
  | [], _ => rfl
  | x :: ms, h => by
    have h1 := h x (List.mem_cons.mpr (.inl rfl))
    have h2 := encT_lay ms fun y hy => h y (List.mem_cons.mpr (.inr hy))
    simp [PyData.canLayAll0, encT, PyData.canLay0, h1, h2]
theorem encTs_shaped {ms : List Str} (h : ∀ x ∈ ms, PyData.strOk x = true) : SeqAt.shaped (.list (ms.map encT)) = true := by
  have := encT_depth ms
  unfold SeqAt.shaped
  simp only [PyData.canLay0, encT_lay ms h, PyData.depth, Bool.true_and]
  exact decide_eq_true (by omega)
/-- the rows with a negative quantity, turned -/
def negF (D : List (Ast × Int)) : List (Ast × Int) := (D.filter fun e => decide (e.2 < 0)).map fun e => (e.1, -e.2)
theorem negF_take {D : List (Ast × Int)} {i : Nat} {e : Ast × Int} (h : D[i]? = some e) : negF (D.take (i + 1)) = negF (D.take i) ++ (if e.2 < 0 then [(e.1, -e.2)] else []) := by
  unfold negF
  rw [List.take_add_one, h, List.filter_append, List.map_append]
  by_cases q : e.2 < 0
  · simp [q]
  · simp [q]
theorem negF_len (D : List (Ast × Int)) : (negF D).length ≤ D.length := by
  unfold negF
  rw [List.length_map]
  exact List.length_filter_le _ _
theorem pos_neg (D : List (Ast × Int)) (p : Ast) : tot (posF D) p - tot (negF D) p = tot D p := by
  induction D with
  | nil => simp [posF, negF, tot]
  | cons e D ih =>
    unfold posF negF at ih ⊢
    rw [List.filter_cons, List.filter_cons]
    by_cases h1 : 0 < e.2
    · have h2 : ¬ e.2 < 0 := by omega
      simp only [h1, h2, decide_true, decide_false, if_true, Bool.false_eq_true, if_false, tot]
      omega
    · by_cases h2 : e.2 < 0
      · simp only [h1, h2, decide_true, decide_false, if_true, Bool.false_eq_true, if_false, tot, List.map_cons]
        split <;> omega
      · have h0 : e.2 = 0 := by omega
        simp only [h1, h2, decide_false, Bool.false_eq_true, if_false, tot]
        split <;> omega
theorem negF_nrm {D : List (Ast × Int)} (h : Nrm D) : Nrm (negF D) := by
  unfold negF
  refine ⟨?_, ?_, fun e he => ?_⟩
  · rw [List.pairwise_map]
    exact List.Pairwise.filter _ h.srt
  · rw [List.map_map]
    exact ((List.filter_sublist (l := D)).map (·.1)).nodup h.nd
  · obtain ⟨f, hf, rfl⟩ := List.mem_map.mp he
    have := h.nz f (List.mem_filter.mp hf).1
    show -f.2 ≠ 0
    omega
theorem mem_of_tot {R N : List (Ast × Int)} (hn : Nrm N) (ht : ∀ p, tot N p = tot R p) {e : Ast × Int} (he : e ∈ N) : e.1 ∈ R.map (·.1) := by
  rcases Classical.em (e.1 ∈ R.map (·.1)) with z | z
  · exact z
  · have h1 := tot_at hn.nd he
    rw [ht, tot_none z] at h1
    exact absurd h1.symm (hn.nz e he)
end Bd
namespace Rb
open PySem PySem.Spec PyProof.Rows L2 Bd
/-- a set comprehension of texts over a tuple -/
theorem scJT {w : World} {K : PySem.W.Frag} {σ : L2.St} {Q : VK} {a : Addr} {xs : List V} {g : TG} {tt : TT} {te : TE} {vs : List Nat} {H1 : Hp} (Pv : Addr → Nat → Hp → Prop) (h : SqT K H1 a xs) (h0 : ∀ D, H1 D = none → Pv D 0 (upd H1 D (TxO w D [])))
    (hl : ∀ D i H, i ≤ xs.length → Pv D i H → SqT K H a xs)
    (hs : ∀ D i x H, H1 D = none → xs[i]? = some x → Pv D i H → g x (wipe σ vs) H fun σ2 H2 => wipe σ2 vs = wipe σ vs ∧ tt σ2 H2 fun t H3 =>
      if t = true then te σ2 H3 fun y H4 => ∃ ms z, y = .str z ∧ H4 D = some (TxO w D ms) ∧ ms.length + 1 < scanBound ∧ Pv D (i + 1) (upd H4 D (TxO w D (addT ms z))) else Pv D (i + 1) H3)
    (hd : ∀ D H, H1 D = none → Pv D xs.length H → Q (.ref D) H) : ∃ p, V.ref a = .ref p ∧ (∃ ys, SqT K H1 p ys) ∧ ScJ w g tt te vs σ Q (Itt K p) H1 := by
  refine ⟨a, rfl, ⟨_, h⟩, fun D hD => ⟨fun i m H => m = xs.length - i ∧ i ≤ xs.length ∧ Pv D i H, ⟨xs.length, by simp, Nat.zero_le _, h0 D hD⟩, ?_⟩⟩
  rintro i m H ⟨rfl, hi, p⟩
  have q := hl D i H hi p
  by_cases hlt : i < xs.length
  · refine .inr ⟨⟨xs, xs[i], q, by simp [hlt]⟩, Pv D (i + 1), fun H' p' => ⟨xs.length - (i + 1), by omega, rfl, hlt, p'⟩, fun x H' y => ?_⟩
    obtain ⟨e, y⟩ := y
    subst e
    exact hs D i x _ hD (y xs q) p
  · have e : i = xs.length := by omega
    subst e
    exact .inl ⟨⟨xs, q, Nat.le_refl _⟩, hd D H hD p⟩
theorem sc {w : World} {wi : TI} {g : TG} {tt : TT} {te : TE} {vs : List Nat} {σ : L2.St} {H : Hp} {Q : VK} (k : wi σ H fun J H1 => ScJ w g tt te vs σ Q J H1) : tScT w wi g tt te vs σ H Q := k
end Rb

set_option Elab.async false
set_option linter.all false
set_option maxRecDepth 100000
set_option maxHeartbeats 4000000
/-! Books of outputs by address; bundles told by their rows alone; the laws' own books. -/
namespace Fa
open PySem PySem.Spec PyProof.Rows L2 Bd Es Dj Ef Re

/-- a bundle's rows -/
def BdR (K : PySem.W.Frag) (H : Hp) (c : Addr) (N : List (Ast × Int)) : Prop := ∃ dx d r xs, H c = some (.ins (He.ga K "Bundle") dx [("_quantities", .ref d), ("rows", .ref r)]) ∧ H r = some (.tup xs) ∧ DpAll K H xs (N.map encR)
theorem BdR.keep {K : PySem.W.Frag} {H H' : Hp} {c : Addr} {N : List (Ast × Int)} (h : BdR K H c N) (s : Same H H') : BdR K H' c N := by
  obtain ⟨dx, d, r, xs, h1, h2, h3⟩ := h
  exact ⟨dx, d, r, xs, s _ _ h1, s _ _ h2, dpAll_same s h3⟩
theorem BdS.bdR {P : Program} {w : World} {K : PySem.W.Frag} {H : Hp} {c : Addr} {N : List (Ast × Int)} (h : BdS P w K H c N) : BdR K H c N := by
  obtain ⟨dx, r, d, xs, h1, h2, h3, _⟩ := h
  exact ⟨dx, d, r, xs, h1, h2, h3⟩
theorem BdR.off {K : PySem.W.Frag} {H : Hp} {c p : Addr} {N : List (Ast × Int)} {o o' : HO} (h : BdR K H c N) (hp : H p = some o) (n0 : ∀ ys, o ≠ .lst ys) (n1 : ∀ ys, o ≠ .tup ys) (n2 : ∀ z u, o ≠ .frz z u) (n3 : ∀ C dx fs, o ≠ .ins C dx fs) : BdR K (upd H p o') c N := by
  obtain ⟨dx, d, r, xs, h1, h2, h3⟩ := h
  exact ⟨dx, d, r, xs, (upd_ne fun e => by subst e; rw [hp] at h1; exact n3 _ _ _ (Option.some.inj h1)).trans h1, (upd_ne fun e => by subst e; rw [hp] at h2; exact n1 _ (Option.some.inj h2)).trans h2, dpAll_off hp n0 n1 n2 h3⟩
/-- bundles, one after the other, told by their rows -/
def Bds (K : PySem.W.Frag) (H : Hp) (vs : List V) (Ns : List (List (Ast × Int))) : Prop := Paired (fun v N => ∃ c, v = .ref c ∧ BdR K H c N) vs Ns

theorem paired_at {α : Type} {T : V → α → Prop} : ∀ {vs : List V} {R : List α} {i : Nat} {x : V}, Paired T vs R → vs[i]? = some x → ∃ e, R[i]? = some e ∧ T x e
  | _, _, _, _, Paired.nil, h => by simp at h
  | _, _, 0, _, Paired.cons h t, e => by
    simp only [List.getElem?_cons_zero, Option.some.injEq] at e
    exact ⟨_, rfl, e ▸ h⟩
  | _, _, i + 1, _, Paired.cons h t, e => by
    simp only [List.getElem?_cons_succ] at e ⊢
    exact paired_at t e
abbrev Rf := Int × Int
abbrev BkT := List (List Key × List (Rf × List (Ast × Int)))
/-- the dict of an address: references and bundles -/
def InAt (P : Program) (w : World) (K : PySem.W.Frag) (H : Hp) (di : Addr) (L : List (Rf × List (Ast × Int))) : Prop := ∃ ks, DS P w K H di ks ∧ Paired (fun x y => x.1 = eR y.1 ∧ ∃ c, x.2 = .ref c ∧ BdR K H c y.2) ks L
/-- books whose own dicts are d :: ds; the outer one told by D (DS, or DR) -/
def BkG (D : Program → World → PySem.W.Frag → Hp → Addr → List (List Key × V) → Prop) (P : Program) (w : World) (K : PySem.W.Frag) (H : Hp) (b d : Addr) (ds : List Addr) (B : BkT) : Prop :=
  ∃ dx kvs, H b = some (.ins (He.ga K "Books") dx [("_bundles", .ref d)]) ∧ D P w K H d kvs ∧ kvs.map (·.2) = ds.map V.ref ∧ (d :: ds).Nodup ∧ Paired (fun x e => x.1 = e.1 ∧ ∃ di, x.2 = .ref di ∧ InAt P w K H di e.2) kvs B
abbrev BkAt := BkG DS
abbrev BkR := BkG DR
theorem InAt.keep {P : Program} {w : World} {K : PySem.W.Frag} {H H' : Hp} {di : Addr} {L : List (Rf × List (Ast × Int))} (h : InAt P w K H di L) (s : Same H H') : InAt P w K H' di L := by
  obtain ⟨ks, h1, h2⟩ := h
  exact ⟨ks, Es.DS.keep s h1, Paired.mapP h2 fun _ _ ⟨e, c, e2, q⟩ => ⟨e, c, e2, q.keep s⟩⟩
theorem InAt.other {P : Program} {w : World} {K : PySem.W.Frag} {H : Hp} {di d : Addr} {L : List (Rf × List (Ast × Int))} {ks : List (List Key × Addr × Value)} {o : HO} (h : InAt P w K H di L) (hd : H d = some (dX P w d ks)) (n : di ≠ d) : InAt P w K (upd H d o) di L := by
  obtain ⟨ms, h1, h2⟩ := h
  exact ⟨ms, Re.DS.other h1 hd n, Paired.mapP h2 fun _ _ ⟨e, c, e2, q⟩ => ⟨e, c, e2, q.off hd (fun _ z => by cases z) (fun _ z => by cases z) (fun _ _ z => by cases z) (fun _ _ _ z => by cases z)⟩⟩
def lookB (B : BkT) (k : List Key) : List (Rf × List (Ast × Int)) := ((B.find? fun e => decide (e.1 = k)).map (·.2)).getD []
def addB : BkT → List Key → Rf → List (Ast × Int) → BkT
  | [], k, p, N => [(k, [(p, N)])]
  | e :: B, k, p, N => if e.1 = k then (e.1, e.2 ++ [(p, N)]) :: B else e :: addB B k p N
def remB : BkT → List Key → Rf → BkT
  | [], _, _ => []
  | e :: B, k, p => if e.1 = k then (e.1, e.2.filter fun x => decide (x.1 ≠ p)) :: B else e :: remB B k p

theorem eR_inj {p q : Rf} (h : eR p = eR q) : p = q := by
  unfold eR at h
  have h1 := List.cons.inj h
  have h2 := List.cons.inj h1.2
  exact Prod.ext (Sum.inl.inj h1.1) (Sum.inl.inj h2.1)
theorem putK_abs {kvs : List (List Key × V)} {k : List Key} {v : V} (h : valV kvs k = none) : putK kvs k v = kvs ++ [(k, v)] := by
  unfold putK
  rw [valV_any, h]
  rfl
theorem in_pres {K : PySem.W.Frag} {H : Hp} {p : Rf} : ∀ {ks : List (List Key × V)} {L : List (Rf × List (Ast × Int))}, Paired (fun x y => x.1 = eR y.1 ∧ ∃ c, x.2 = .ref c ∧ BdR K H c y.2) ks L → p ∈ L.map (·.1) → (valV ks (eR p)).isSome = true
  | _, _, Paired.nil, h => by simp at h
  | _, _, Paired.cons (a := x) (b := y) h t, hn => by
    by_cases c : x.1 = eR p
    · rw [valV_pos c]; rfl
    · rw [valV_neg c]
      rw [List.map_cons, List.mem_cons] at hn
      rcases hn with e | e
      · exact absurd (by rw [h.1, e]) c
      · exact in_pres t e
theorem drop_in {K : PySem.W.Frag} {H : Hp} {p : Rf} : ∀ {ks : List (List Key × V)} {L : List (Rf × List (Ast × Int))}, Paired (fun x y => x.1 = eR y.1 ∧ ∃ c, x.2 = .ref c ∧ BdR K H c y.2) ks L → Paired (fun x y => x.1 = eR y.1 ∧ ∃ c, x.2 = .ref c ∧ BdR K H c y.2) (L2.dropK ks (eR p)) (L.filter fun x => decide (x.1 ≠ p))
  | _, _, Paired.nil => Paired.nil
  | _, _, Paired.cons (a := x) (b := y) (l₁ := ks) (l₂ := L) h t => by
    have ih := drop_in (p := p) t
    by_cases c : y.1 = p
    · rw [show L2.dropK (x :: ks) (eR p) = L2.dropK ks (eR p) from List.filter_cons_of_neg (by simp [h.1, c]), List.filter_cons_of_neg (by simp [c])]
      exact ih
    · rw [show L2.dropK (x :: ks) (eR p) = x :: L2.dropK ks (eR p) from List.filter_cons_of_pos (by rw [h.1]; simpa using fun e => c (eR_inj e)), List.filter_cons_of_pos (by simpa using c)]
      exact Paired.cons h ih
theorem in_keys {K : PySem.W.Frag} {H : Hp} : ∀ {ks : List (List Key × V)} {L : List (Rf × List (Ast × Int))}, Paired (fun x y => x.1 = eR y.1 ∧ ∃ c, x.2 = .ref c ∧ BdR K H c y.2) ks L → ∃ m : List ((Int × Int) × V), ks = m.map (fun e => (eR e.1, e.2)) ∧ m.map (·.1) = L.map (·.1)
  | _, _, Paired.nil => ⟨[], rfl, rfl⟩
  | _, _, Paired.cons (a := x) (b := y) h t => by
    obtain ⟨m, h1, h2⟩ := in_keys t
    exact ⟨(y.1, x.2) :: m, by rw [List.map_cons, ← h1, ← h.1], by rw [List.map_cons, List.map_cons, h2]⟩
theorem in_vals {K : PySem.W.Frag} {H : Hp} : ∀ {ks : List (List Key × V)} {L : List (Rf × List (Ast × Int))}, Paired (fun x y => x.1 = eR y.1 ∧ ∃ c, x.2 = .ref c ∧ BdR K H c y.2) ks L → Bds K H (ks.map (·.2)) (L.map (·.2))
  | _, _, Paired.nil => Paired.nil
  | _, _, Paired.cons h t => Paired.cons h.2 (in_vals t)
abbrev Rl (P : Program) (w : World) (K : PySem.W.Frag) (H : Hp) (x : List Key × V) (e : List Key × List (Rf × List (Ast × Int))) : Prop := x.1 = e.1 ∧ ∃ di, x.2 = .ref di ∧ InAt P w K H di e.2
theorem Bds.keep {K : PySem.W.Frag} {H H' : Hp} {vs : List V} {Ns : List (List (Ast × Int))} (h : Bds K H vs Ns) (s : Same H H') : Bds K H' vs Ns := by
  unfold Bds at h ⊢
  exact Paired.mapP h fun _ _ ⟨c, e, q⟩ => ⟨c, e, q.keep s⟩
theorem lookB_pos {e : List Key × List (Rf × List (Ast × Int))} {B : BkT} {k : List Key} (h : e.1 = k) : lookB (e :: B) k = e.2 := by simp [lookB, List.find?_cons, h]
theorem lookB_neg {e : List Key × List (Rf × List (Ast × Int))} {B : BkT} {k : List Key} (h : ¬ e.1 = k) : lookB (e :: B) k = lookB B k := by simp [lookB, List.find?_cons, h]
theorem in_abs {K : PySem.W.Frag} {H : Hp} {p : Rf} : ∀ {ks : List (List Key × V)} {L : List (Rf × List (Ast × Int))}, Paired (fun x y => x.1 = eR y.1 ∧ ∃ c, x.2 = .ref c ∧ BdR K H c y.2) ks L → p ∉ L.map (·.1) → valV ks (eR p) = none
  | _, _, Paired.nil, _ => rfl
  | _, _, Paired.cons (a := x) (b := y) h t, hn => by
    rw [List.map_cons, List.mem_cons, not_or] at hn
    rw [valV_neg fun e => hn.1 (eR_inj (h.1.symm.trans e)).symm]
    exact in_abs t hn.2
section
variable {P : Program} {w : World} {K : PySem.W.Frag} {H H' : Hp}
theorem find_in {k : List Key} {v : V} : ∀ {kvs : List (List Key × V)} {B : BkT}, Paired (Rl P w K H) kvs B → valV kvs k = some v → ∃ di, v = .ref di ∧ InAt P w K H di (lookB B k) ∧ (∃ e ∈ B, e.2 = lookB B k) ∧ V.ref di ∈ kvs.map (·.2)
  | _, _, Paired.nil, h => by cases h
  | _, _, Paired.cons (a := x) (b := e) h t, hv => by
    by_cases c : x.1 = k
    · rw [valV_pos c] at hv
      obtain ⟨di, h2, h3⟩ := h.2
      have c2 : e.1 = k := h.1.symm.trans c
      rw [lookB_pos c2]
      exact ⟨di, (Option.some.inj hv).symm.trans h2, h3, ⟨e, List.mem_cons_self, rfl⟩, by rw [List.map_cons, h2]; exact List.mem_cons_self⟩
    · rw [valV_neg c] at hv
      have c2 : ¬ e.1 = k := fun z => c (h.1.trans z)
      obtain ⟨di, h1, h2, ⟨f, hf, hf2⟩, h4⟩ := find_in t hv
      rw [lookB_neg c2]
      exact ⟨di, h1, h2, ⟨f, List.mem_cons_of_mem _ hf, hf2⟩, List.mem_cons_of_mem _ h4⟩
theorem rest_keep : ∀ {kvs : List (List Key × V)} {B : BkT}, Paired (Rl P w K H) kvs B → (∀ dj L, V.ref dj ∈ kvs.map (·.2) → InAt P w K H dj L → InAt P w K H' dj L) → Paired (Rl P w K H') kvs B
  | _, _, Paired.nil, _ => Paired.nil
  | _, _, Paired.cons (a := x) (b := e) h t, hk => by
    obtain ⟨h1, dj, h2, h3⟩ := h
    exact Paired.cons ⟨h1, dj, h2, hk _ _ (by rw [List.map_cons, h2]; exact List.mem_cons_self) h3⟩ (rest_keep t fun dj L hm => hk dj L (List.mem_cons_of_mem _ hm))
theorem ds_at {x : Addr} : ∀ {kvs : List (List Key × V)} {B : BkT}, Paired (Rl P w K H) kvs B → V.ref x ∈ kvs.map (·.2) → ∃ L, InAt P w K H x L
  | _, _, Paired.nil, h => by simp at h
  | _, _, Paired.cons (a := y) (b := e) h t, hm => by
    rw [List.map_cons, List.mem_cons] at hm
    rcases hm with hm | hm
    · obtain ⟨h1, dj, h2, h3⟩ := h
      rw [h2] at hm
      cases hm
      exact ⟨_, h3⟩
    · exact ds_at t hm
theorem InAt.some {di : Addr} {L : List (Rf × List (Ast × Int))} (h : InAt P w K H di L) : ∃ xs, H di = some (dX P w di xs) := ⟨h.choose_spec.1.2.choose, h.choose_spec.1.2.choose_spec.1⟩
theorem ins_dX {C dx : Addr} {fs : List (Str × V)} {a : Addr} {xs : List (List Key × Addr × Value)} (h : H a = some (.ins C dx fs)) (g : H a = some (dX P w a xs)) : False := by
  have e : some (HO.ins C dx fs) = some (dX P w a xs) := h.symm.trans g
  have e2 : HO.ins C dx fs = HO.ext _ := Option.some.inj e
  cases e2
theorem nd_refs {ds : List Addr} (h : ds.Nodup) : (ds.map V.ref).Nodup := List.pairwise_map.mpr (h.imp fun n e => n (V.ref.inj e))
theorem add_in {k : List Key} {di : Addr} {p : Rf} {N : List (Ast × Int)} : ∀ {kvs : List (List Key × V)} {B : BkT}, Paired (Rl P w K H) kvs B → valV kvs k = some (.ref di) → (kvs.map (·.2)).Nodup → InAt P w K H' di (lookB B k ++ [(p, N)]) → (∀ dj L, V.ref dj ∈ kvs.map (·.2) → dj ≠ di → InAt P w K H dj L → InAt P w K H' dj L) → Paired (Rl P w K H') kvs (addB B k p N)
  | _, _, Paired.nil, h, _, _, _ => by cases h
  | _, _, Paired.cons (a := x) (b := e) (l₁ := kvs) h t, hv, nd, hn, hk => by
    rw [List.map_cons, List.nodup_cons] at nd
    by_cases c : x.1 = k
    · rw [valV_pos c] at hv
      have hx := Option.some.inj hv
      have c2 : e.1 = k := h.1.symm.trans c
      rw [lookB_pos c2] at hn
      unfold addB
      rw [if_pos c2]
      refine Paired.cons ⟨h.1, di, hx, hn⟩ (rest_keep t fun dj L hm => hk dj L (List.mem_cons_of_mem _ hm) fun z => ?_)
      subst z
      rw [hx] at nd
      exact nd.1 hm
    · rw [valV_neg c] at hv
      have c2 : ¬ e.1 = k := fun z => c (h.1.trans z)
      rw [lookB_neg c2] at hn
      unfold addB
      rw [if_neg c2]
      obtain ⟨dj, h2, h3⟩ := h.2
      obtain ⟨_, e1, _, _, hm⟩ := find_in t hv
      cases e1
      refine Paired.cons ⟨h.1, dj, h2, hk dj _ (by rw [List.map_cons, h2]; exact List.mem_cons_self) (fun z => ?_) h3⟩ (add_in t hv nd.2 hn fun dj L hm => hk dj L (List.mem_cons_of_mem _ hm))
      subst z
      rw [h2] at nd
      exact nd.1 hm
theorem rem_in {k : List Key} {di : Addr} {p : Rf} : ∀ {kvs : List (List Key × V)} {B : BkT}, Paired (Rl P w K H) kvs B → valV kvs k = some (.ref di) → (kvs.map (·.2)).Nodup → InAt P w K H' di ((lookB B k).filter fun x => decide (x.1 ≠ p)) → (∀ dj L, V.ref dj ∈ kvs.map (·.2) → dj ≠ di → InAt P w K H dj L → InAt P w K H' dj L) → Paired (Rl P w K H') kvs (remB B k p)
  | _, _, Paired.nil, h, _, _, _ => by cases h
  | _, _, Paired.cons (a := x) (b := e) (l₁ := kvs) h t, hv, nd, hn, hk => by
    rw [List.map_cons, List.nodup_cons] at nd
    by_cases c : x.1 = k
    · rw [valV_pos c] at hv
      have hx := Option.some.inj hv
      have c2 : e.1 = k := h.1.symm.trans c
      rw [lookB_pos c2] at hn
      unfold remB
      rw [if_pos c2]
      refine Paired.cons ⟨h.1, di, hx, hn⟩ (rest_keep t fun dj L hm => hk dj L (List.mem_cons_of_mem _ hm) fun z => ?_)
      subst z
      rw [hx] at nd
      exact nd.1 hm
    · rw [valV_neg c] at hv
      have c2 : ¬ e.1 = k := fun z => c (h.1.trans z)
      rw [lookB_neg c2] at hn
      unfold remB
      rw [if_neg c2]
      obtain ⟨dj, h2, h3⟩ := h.2
      obtain ⟨_, e1, _, _, hm⟩ := find_in t hv
      cases e1
      refine Paired.cons ⟨h.1, dj, h2, hk dj _ (by rw [List.map_cons, h2]; exact List.mem_cons_self) (fun z => ?_) h3⟩ (rem_in t hv nd.2 hn fun dj L hm => hk dj L (List.mem_cons_of_mem _ hm))
      subst z
      rw [h2] at nd
      exact nd.1 hm
theorem look_none {k : List Key} : ∀ {kvs : List (List Key × V)} {B : BkT}, Paired (Rl P w K H) kvs B → valV kvs k = none → lookB B k = []
  | _, _, Paired.nil, _ => rfl
  | _, _, Paired.cons (a := x) (b := e) h t, hv => by
    have c : ¬ x.1 = k := fun z => by rw [valV_pos z] at hv; cases hv
    rw [valV_neg c] at hv
    rw [lookB_neg fun z => c (h.1.trans z)]
    exact look_none t hv
theorem addB_abs {k : List Key} {p : Rf} {N : List (Ast × Int)} : ∀ {kvs : List (List Key × V)} {B : BkT}, Paired (Rl P w K H) kvs B → valV kvs k = none → addB B k p N = B ++ [(k, [(p, N)])]
  | _, _, Paired.nil, _ => rfl
  | _, _, Paired.cons (a := x) (b := e) h t, hv => by
    have c : ¬ x.1 = k := fun z => by rw [valV_pos z] at hv; cases hv
    rw [valV_neg c] at hv
    unfold addB
    rw [if_neg fun z => c (h.1.trans z), addB_abs t hv]
    rfl
end

def allB (B : BkT) : List (Ast × Int) := (B.map fun e => (e.2.map (·.2)).flatten).flatten
theorem allB_take {B : BkT} {i : Nat} {f : List Key × List (Rf × List (Ast × Int))} (h : B[i]? = some f) : allB (B.take (i + 1)) = allB (B.take i) ++ (f.2.map (·.2)).flatten := by
  unfold allB
  rw [take_map h, List.flatten_append]
  simp
theorem allB_mem {B : BkT} {f : List Key × List (Rf × List (Ast × Int))} (h : f ∈ B) : ((f.2.map (·.2)).flatten).length ≤ (allB B).length := by
  unfold allB
  have := List.sublist_flatten_of_mem (List.mem_map.mpr ⟨f, h, rfl⟩ : (f.2.map (·.2)).flatten ∈ B.map fun e => (e.2.map (·.2)).flatten)
  exact this.length_le
theorem lookB_at {B : BkT} {i : Nat} {f : List Key × List (Rf × List (Ast × Int))} (hk : (B.map (·.1)).Nodup) (h : B[i]? = some f) : lookB B f.1 = f.2 := by
  induction B generalizing i with
  | nil => simp at h
  | cons e B ih =>
    rw [List.map_cons, List.nodup_cons] at hk
    cases i with
    | zero =>
      simp only [List.getElem?_cons_zero, Option.some.injEq] at h
      rw [h]; exact lookB_pos rfl
    | succ i =>
      simp only [List.getElem?_cons_succ] at h
      rw [lookB_neg fun z => hk.1 (by rw [z]; exact List.mem_map_of_mem (List.mem_of_getElem? h))]
      exact ih hk.2 h
theorem paired_at2 {α β : Type} {T : α → β → Prop} : ∀ {xs : List α} {ys : List β} {i : Nat} {y : β}, Paired T xs ys → ys[i]? = some y → ∃ x, xs[i]? = some x ∧ T x y
  | _, _, _, _, Paired.nil, h => by simp at h
  | _, _, 0, _, Paired.cons h t, e => by
    simp only [List.getElem?_cons_zero, Option.some.injEq] at e
    exact ⟨_, rfl, e ▸ h⟩
  | _, _, i + 1, _, Paired.cons h t, e => by
    simp only [List.getElem?_cons_succ] at e ⊢
    exact paired_at2 t e
theorem paired_at1 {α β : Type} {T : α → β → Prop} : ∀ {xs : List α} {ys : List β} {i : Nat} {x : α}, Paired T xs ys → xs[i]? = some x → ∃ y, ys[i]? = some y ∧ T x y
  | _, _, _, _, Paired.nil, h => by simp at h
  | _, _, 0, _, Paired.cons h t, e => by
    simp only [List.getElem?_cons_zero, Option.some.injEq] at e
    exact ⟨_, rfl, e ▸ h⟩
  | _, _, i + 1, _, Paired.cons h t, e => by
    simp only [List.getElem?_cons_succ] at e ⊢
    exact paired_at1 t e
theorem BdR.keepT {K : PySem.W.Frag} {H H' : Hp} {c : Addr} {N : List (Ast × Int)} (h : BdR K H c N) (s : SameT H H') : BdR K H' c N := by
  obtain ⟨dx, d, r, xs, h1, h2, h3⟩ := h
  exact ⟨dx, d, r, xs, s _ _ h1 (fun _ e => by cases e), s _ _ h2 (fun _ e => by cases e), dpAll_keep s (nlMap encR_nl) h3⟩
theorem BdR.unl {P : Program} {w : World} {K : PySem.W.Frag} {H : Hp} {c d : Addr} {N : List (Ast × Int)} {g : Obj} {ks : List (List Key × Addr × Value)} {o : HO} (h : BdR K H c N) (hp : H d = some (.frz g (dX P w d ks))) : BdR K (upd H d o) c N := by
  obtain ⟨dx, e, r, xs, h1, h2, h3⟩ := h
  exact ⟨dx, e, r, xs, (upd_ne fun e => by subst e; rw [hp] at h1; cases h1).trans h1, (upd_ne fun e => by subst e; rw [hp] at h2; cases h2).trans h2, Re.dpAll_unl hp h3⟩
theorem DR.keep {P : Program} {w : World} {K : PySem.W.Frag} {H H' : Hp} {a : Addr} {kvs : List (List Key × V)} (h : DR P w K H a kvs) (s : Same H H') : DR P w K H' a kvs := by
  obtain ⟨z, xs, h1, h2⟩ := h
  exact ⟨z, xs, h1.imp (fun q => s _ _ q) (fun ⟨g, q⟩ => ⟨g, s _ _ q⟩), h2.keeps fun q ys hq => Rd.same_tup s hq⟩
theorem BkR.keep {P : Program} {w : World} {K : PySem.W.Frag} {H H' : Hp} {b d : Addr} {ds : List Addr} {B : BkT} (h : BkR P w K H b d ds B) (s : Same H H') : BkR P w K H' b d ds B := by
  obtain ⟨dx, kvs, h1, h2, h3, h4, h5⟩ := h
  exact ⟨dx, kvs, s _ _ h1, DR.keep h2 s, h3, h4, rest_keep h5 fun dj L _ q => q.keep s⟩
theorem BkAt.keep {P : Program} {w : World} {K : PySem.W.Frag} {H H' : Hp} {b d : Addr} {ds : List Addr} {B : BkT} (h : BkAt P w K H b d ds B) (s : Same H H') : BkAt P w K H' b d ds B := by
  obtain ⟨dx, kvs, h1, h2, h3, h4, h5⟩ := h
  exact ⟨dx, kvs, s _ _ h1, Es.DS.keep s h2, h3, h4, rest_keep h5 fun dj L _ q => q.keep s⟩

/-- a key's item as data -/
def kDat : Key → PyData
  | .inl n => .int n
  | .inr s => .str s
/-- what an output holds: its address, its rows, its datum -/
structure Tr where
  ad : List Key
  rw : List (Ast × Int)
  dt : List Int
def encTr (t : Tr) : PyData := .tuple [.tuple (t.ad.map kDat), .tuple (t.rw.map encR), .tuple (t.dt.map .int)]
/-- a good address: two items, good texts -/
def AdOk (kk : List Key) : Prop := kk.length = 2 ∧ ∀ s, Sum.inr s ∈ kk → PyData.strOk s = true
theorem adI {x : Str} {n : Int} (h : PyData.strOk x = true) : AdOk [Sum.inr x, Sum.inl n] := ⟨rfl, fun s hs => by simp at hs; rw [hs]; exact h⟩
theorem adS {x y : Str} (h : PyData.strOk x = true) (k : PyData.strOk y = true) : AdOk [Sum.inr x, Sum.inr y] := ⟨rfl, fun s hs => by simp at hs; rcases hs with rfl | rfl <;> assumption⟩
theorem AdOk.sh {kk : List Key} (h : AdOk kk) : SeqAt.shaped (.tuple (kk.map kDat)) = true := by
  refine (Sh.tuple (n := 1) fun d hd => ?_).shaped (by decide)
  obtain ⟨k, hk, rfl⟩ := List.mem_map.mp hd
  cases k with
  | inl i => exact .int _ _
  | inr s => exact .str _ (h.2 s hk)
theorem kDat_inj : ∀ {a b : List Key}, a.map kDat = b.map kDat → a = b
  | [], [], _ => rfl
  | [], _ :: _, h => by simp at h
  | _ :: _, [], h => by simp at h
  | x :: a, y :: b, h => by
    simp only [List.map_cons, List.cons.injEq] at h
    rw [kDat_inj h.2]
    have e := h.1
    cases x <;> cases y <;> simp [kDat] at e <;> rw [e]
theorem kDat_nb : ∀ {a : List Key}, nbAll (a.map kDat) = true
  | [] => rfl
  | .inl _ :: a => by simp only [List.map_cons, nbAll, kDat, nb, Bool.true_and]; exact kDat_nb
  | .inr _ :: a => by simp only [List.map_cons, nbAll, kDat, nb, Bool.true_and]; exact kDat_nb
theorem ad_eqv {a b : List Key} : PyData.eqv (.tuple (a.map kDat)) (.tuple (b.map kDat)) = decide (a = b) := by
  have h := eqv_nb (.tuple (a.map kDat)) (.tuple (b.map kDat)) (by simp only [nb]; exact kDat_nb) (by simp only [nb]; exact kDat_nb)
  by_cases e : a = b
  · rw [decide_eq_true e]; exact h.mpr (by rw [e])
  · rw [decide_eq_false e]
    cases q : PyData.eqv (.tuple (a.map kDat)) (.tuple (b.map kDat)) with
    | false => rfl
    | true => exact absurd (kDat_inj (PyData.tuple.inj (h.mp q))) e
def OkTr (t : Tr) : Prop := OkR t.rw ∧ t.rw.length ≤ 3 ∧ t.dt.length ≤ 3 ∧ AdOk t.ad ∧ ∀ e ∈ t.rw, 0 < e.2
def OkQ (R : List (Ast × Int)) : Prop := OkR R ∧ ∀ e ∈ R, 0 < e.2

theorem rowPush {K : PySem.W.Frag} {H0 H1 : Hp} {r p q : Addr} {xs : List V} {R : List (Ast × Int)} {n : Str} {i z : Int} (s : Same H0 H1) (hr0 : H0 r = none) (hr : H1 r = some (.lst xs)) (hX : DpAll K H1 xs (R.map encR)) (hp : H1 p = none) (hq : upd H1 p (.tup [.str n, .int i]) q = none) :
    Same H0 (upd (upd (upd H1 p (.tup [.str n, .int i])) q (.tup [.ref p, .int z])) r (.lst (xs ++ [.ref q]))) ∧ DpAll K (upd (upd (upd H1 p (.tup [.str n, .int i])) q (.tup [.ref p, .int z])) r (.lst (xs ++ [.ref q]))) (xs ++ [.ref q]) ((R ++ [((n, i), z)]).map encR) := by
  have s2 := (Rd.same_new (o := .tup [.str n, .int i]) hp).trans (Rd.same_new (o := .tup [.ref p, .int z]) hq)
  refine ⟨Rd.same_mut (s.trans s2) hr0, ?_⟩
  rw [List.map_append]
  exact push hX (nlMap encR_nl) s2 (s2 _ _ hr) (rowDp (p := (n, i)) (SqT.of upd_same) (SqT.of (Rd.same_new hq _ _ upd_same))) (encR_nl _)
theorem okQ_app {R : List (Ast × Int)} {n : Str} {i z : Int} (h : OkQ R) (o : PyData.strOk n = true) (hz : 0 < z) : OkQ (R ++ [((n, i), z)]) := by
  constructor
  · intro e he
    rcases List.mem_append.mp he with h1 | h1
    · exact h.1 e h1
    · rw [List.mem_singleton.mp h1]; exact o
  · intro e he
    rcases List.mem_append.mp he with h1 | h1
    · exact h.2 e h1
    · rw [List.mem_singleton.mp h1]; exact hz

theorem dp_keys {K : PySem.W.Frag} {H : Hp} : ∀ {t : List Key}, DpAll K H (t.map kV) (t.map kDat)
  | [] => .nil
  | .inl _ :: _ => .cons (.int _) dp_keys
  | .inr _ :: _ => .cons (.str _) dp_keys
theorem dp_keys_of {K : PySem.W.Frag} {H : Hp} : ∀ {xs : List V} {t : List Key}, DpAll K H xs (t.map kDat) → xs = t.map kV
  | _, [], h => by cases h; rfl
  | _, .inl _ :: _, h => by cases h with | cons a b => cases a; rw [dp_keys_of b]; rfl
  | _, .inr _ :: _, h => by cases h with | cons a b => cases a; rw [dp_keys_of b]; rfl

abbrev MdT := List ((Int × Int) × Tr)
/-- the law's own books: a dict whose one item is a dict of what stands at each reference -/
def MdAt (P : Program) (w : World) (K : PySem.W.Frag) (H : Hp) (m o : Addr) (M : MdT) : Prop := H m = some (.dK [(Sum.inr (Rd.S [111, 117, 116, 112, 117, 116, 115]), .ref o)]) ∧ ∃ kvs, DS P w K H o kvs ∧ Paired (fun (kv : List Key × V) e => kv.1 = eR e.1 ∧ Dp K H kv.2 (encTr e.2)) kvs M ∧ (M.map (·.1)).Nodup

theorem mdGet {H : Hp} {m o : Addr} {R : V → Prop} (h : H m = some (.dK [(Sum.inr (Rd.S [111, 117, 116, 112, 117, 116, 115]), .ref o)])) (k : R (.ref o)) : ∃ a v, V.ref m = .ref a ∧ DGet H a (.str (Rd.S [111, 117, 116, 112, 117, 116, 115])) (some v) ∧ R v := by
  refine ⟨m, .ref o, rfl, ?_, k⟩
  have := DGet.k (k := .inr (Rd.S [111, 117, 116, 112, 117, 116, 115])) h
  rwa [valV_pos rfl] at this
def lookM : MdT → Int × Int → Option Tr
  | [], _ => none
  | x :: M, e => if x.1 = e then some x.2 else lookM M e
theorem mdFind {K : PySem.W.Frag} {H : Hp} {e : Int × Int} : ∀ {kvs : List (List Key × V)} {M : MdT}, Paired (fun (kv : List Key × V) e => kv.1 = eR e.1 ∧ Dp K H kv.2 (encTr e.2)) kvs M → e ∈ M.map (·.1) → ∃ t v, lookM M e = some t ∧ valV kvs (eR e) = some v ∧ Dp K H v (encTr t)
  | _, _, Paired.nil, h => by simp at h
  | _, _, Paired.cons (a := x) (b := y) h t, hn => by
    by_cases c : y.1 = e
    · exact ⟨y.2, x.2, by simp only [lookM, if_pos c], valV_pos (h.1.trans (by rw [c])), h.2⟩
    · rcases List.mem_cons.mp hn with q | q
      · exact absurd q.symm c
      · obtain ⟨u, v, q1, q2, q3⟩ := mdFind t q
        exact ⟨u, v, by simp only [lookM, if_neg c]; exact q1, (valV_neg fun z => c (eR_inj (h.1.symm.trans z))).trans q2, q3⟩
theorem lookM_mem {x : (Int × Int) × Tr} : ∀ {M : MdT}, (M.map (·.1)).Nodup → x ∈ M → lookM M x.1 = some x.2
  | [], _, h => by simp at h
  | y :: M, hn, h => by
    rw [List.map_cons, List.nodup_cons] at hn
    rcases List.mem_cons.mp h with rfl | q
    · simp only [lookM, if_true]
    · have c : y.1 ≠ x.1 := fun z => hn.1 (z ▸ List.mem_map_of_mem q)
      simp only [lookM, if_neg c]
      exact lookM_mem hn.2 q
theorem keysP2 {K : PySem.W.Frag} {H : Hp} : ∀ {ps : List Addr} {kvs : List (List Key × V)} {M : MdT}, KeysAt K H ps kvs → Paired (fun (kv : List Key × V) e => kv.1 = eR e.1 ∧ Dp K H kv.2 (encTr e.2)) kvs M → DpAll K H (ps.map V.ref) ((M.map (·.1)).map encP2)
  | _, _, _, Paired.nil, Paired.nil => .nil
  | _, _, _, Paired.cons (a := a) (b := b) h t, Paired.cons (b := c) g u => by
    have h1 : SqT K H a (b.1.map kV) := h
    have g1 : b.1 = eR c.1 := g.1
    rw [g1] at h1
    exact .cons (.tup (ds := [.int c.1.1, .int c.1.2]) h1 (.cons (.int _) (.cons (.int _) .nil))) (keysP2 t u)
theorem encTr_of {K : PySem.W.Frag} {H : Hp} {v : V} {t : Tr} (h : Dp K H v (encTr t)) : ∃ a x1 x2 x3, v = .ref a ∧ SqT K H a [.ref x1, .ref x2, .ref x3] ∧ SqT K H x1 (t.ad.map kV) ∧ (∃ rs, SqT K H x2 rs ∧ DpAll K H rs (t.rw.map encR)) ∧ ∃ es, SqT K H x3 es ∧ DpAll K H es (t.dt.map .int) := by
  cases h with
  | tup hs hd =>
    cases hd with
    | cons d1 r =>
      cases r with
      | cons d2 r =>
        cases r with
        | cons d3 r =>
          cases r
          cases d1 with
          | tup s1 e1 =>
            cases d2 with
            | tup s2 e2 =>
              cases d3 with
              | tup s3 e3 =>
                rw [dp_keys_of e1] at s1
                exact ⟨_, _, _, _, rfl, hs, s1, ⟨_, s2, e2⟩, _, s3, e3⟩
theorem encP2_nl (p : Int × Int) : nl (encP2 p) = true := rfl
theorem refsF {M : MdT} {B : List (Int × Int)} {kk : List Key} (hB : B.Perm (M.map (·.1))) (hn : (M.map (·.1)).Nodup) : (B.filter fun e => decide ((lookM M e).map (·.ad) = some kk)).Perm ((M.filter fun e => e.2.ad = kk).map (·.1)) := by
  refine (hB.filter _).trans ?_
  rw [List.filter_map]
  refine List.Perm.of_eq (congrArg _ (List.filter_congr fun x hx => ?_))
  simp only [Function.comp, lookM_mem hn hx, Option.map_some, Option.some.injEq]
theorem fmIf {α β : Type} {c : α → Prop} [DecidablePred c] {f : α → β} : ∀ {B : List α}, B.filterMap (fun e => if c e then some (f e) else none) = (B.filter fun e => decide (c e)).map f
  | [] => rfl
  | e :: B => by by_cases h : c e <;> simp [List.filterMap_cons, List.filter_cons, h, fmIf (B := B)]

theorem keysA {K : PySem.W.Frag} {H : Hp} : ∀ {ps : List Addr} {m : List (Ast × V)}, KeysAt K H ps (eD m) → DpAll K H (ps.map V.ref) ((m.map (·.1)).map encA)
  | [], [], _ => .nil
  | [], _ :: _, h => by cases h
  | _ :: _, [], h => by cases h
  | a :: ps, e :: m, h => by
    cases h with
    | cons h t => exact .cons (astDp h) (keysA t)
theorem tot_pos {p : Ast} : ∀ {R : List (Ast × Int)}, (∀ e ∈ R, 0 < e.2) → 0 ≤ tot R p ∧ (p ∈ R.map (·.1) → 0 < tot R p)
  | [], _ => ⟨Int.le_refl _, fun h => by simp at h⟩
  | e :: R, h => by
    have ih := tot_pos (p := p) (R := R) fun x hx => h x (List.mem_cons_of_mem _ hx)
    have h0 := h e List.mem_cons_self
    have e1 : tot (e :: R) p = (if e.1 = p then e.2 else 0) + tot R p := rfl
    rw [e1]
    constructor
    · split <;> omega
    · intro hm
      rw [List.map_cons, List.mem_cons] at hm
      rcases hm with hm | hm
      · rw [if_pos hm.symm]; omega
      · have := ih.2 hm
        split <;> omega
def sumR (M : MdT) (S : List (Int × Int)) : List (Ast × Int) := (S.map fun e => ((lookM M e).map (·.rw)).getD []).flatten
theorem sumR_take {M : MdT} {S : List (Int × Int)} {i : Nat} {e : Int × Int} {t : Tr} (h : S[i]? = some e) (ht : lookM M e = some t) : sumR M (S.take (i + 1)) = sumR M (S.take i) ++ t.rw := by
  unfold sumR
  rw [take_map h, List.flatten_append, ht]
  simp
theorem lookM_in {M : MdT} {e : Int × Int} {t : Tr} (h : lookM M e = some t) : (e, t) ∈ M := by
  induction M with
  | nil => cases h
  | cons y M ih =>
    simp only [lookM] at h
    split at h
    · rename_i c
      cases h
      rw [← c]; exact List.mem_cons_self
    · exact List.mem_cons_of_mem _ (ih h)
theorem sumR_pos {M : MdT} (hO : ∀ e ∈ M, OkTr e.2) : ∀ {S : List (Int × Int)}, (∀ e ∈ sumR M S, 0 < e.2) ∧ OkR (sumR M S) ∧ (sumR M S).length ≤ 3 * S.length
  | [] => ⟨fun _ h => by simp [sumR] at h, fun _ h => by simp [sumR] at h, by simp [sumR]⟩
  | s :: S => by
    obtain ⟨h1, h2, h3⟩ := sumR_pos (M := M) hO (S := S)
    have e : sumR M (s :: S) = ((lookM M s).map (·.rw)).getD [] ++ sumR M S := by simp [sumR]
    rw [e]
    cases q : lookM M s with
    | none => simp only [Option.map_none, Option.getD_none, List.nil_append, List.length_cons]; exact ⟨h1, h2, by omega⟩
    | some t =>
      have o := hO _ (lookM_in q)
      simp only [Option.map_some, Option.getD_some, List.length_append, List.length_cons]
      have : t.rw.length ≤ 3 := o.2.1
      exact ⟨fun x hx => (List.mem_append.mp hx).elim (o.2.2.2.2 x) (h1 x), fun x hx => (List.mem_append.mp hx).elim (o.1 x) (h2 x), by omega⟩
/-- a bundle at a whose row of rows is xs -/
def OwnAt (K : PySem.W.Frag) (H : Hp) (a : Addr) (xs : List V) : Prop := ∃ dx d t, H a = some (.ins (He.ga K "Bundle") dx [("_quantities", .ref d), ("rows", .ref t)]) ∧ H t = some (.tup xs)
theorem OwnAt.keep {K : PySem.W.Frag} {H H' : Hp} {a : Addr} {xs : List V} (h : OwnAt K H a xs) (s : Same H H') : OwnAt K H' a xs := by
  obtain ⟨dx, d, t, h1, h2⟩ := h
  exact ⟨dx, d, t, s _ _ h1, s _ _ h2⟩
theorem bds_off {P : Program} {w : World} {K : PySem.W.Frag} {H H' : Hp} {b c C dx : Addr} {fs : List (Str × V)} {N : List (Ast × Int)} (h : BdS P w K H c N) (e : Beside b H H') (hb : H b = some (.ins C dx fs)) (ne : c ≠ b) : BdS P w K H' c N := by
  obtain ⟨dx2, r, d, xs, h1, h2, h3, h4, h5⟩ := h
  obtain ⟨z, ys, h6, h7⟩ := id h4
  have nr : r ≠ b := fun q => by subst q; rw [hb] at h2; cases h2
  have nd : d ≠ b := fun q => by
    subst q
    have h8 : some (HO.ins C dx fs) = some (dX P w d ys) := hb.symm.trans h6
    have h9 : HO.ins C dx fs = HO.ext _ := Option.some.inj h8
    cases h9
  exact ⟨dx2, r, d, xs, e _ _ ne h1, e _ _ nr h2, e.dpAll hb h3, h4.keepT ((e _ _ nd h6).trans h6.symm) (fun q ys hq => e.sqT hb hq), h5⟩
/-- the dict of the bundle at b -/
def BdD (K : PySem.W.Frag) (H : Hp) (b d : Addr) : Prop := ∃ dx r, H b = some (.ins (He.ga K "Bundle") dx [("_quantities", .ref d), ("rows", .ref r)])
theorem BdS.own {P : Program} {w : World} {K : PySem.W.Frag} {H : Hp} {b : Addr} {N : List (Ast × Int)} (h : BdS P w K H b N) : ∃ xs, OwnAt K H b xs ∧ DpAll K H xs (N.map encR) := by
  obtain ⟨dx, r, d, xs, h1, h2, h3, _⟩ := h
  exact ⟨xs, ⟨dx, d, r, h1, h2⟩, h3⟩
end Fa

set_option Elab.async false
set_option linter.all false
set_option maxRecDepth 100000
set_option maxHeartbeats 4000000
/-! Frames: what is left alone by changes of the objects of a list; books beside the law's own ones. -/
namespace Fa
open PySem PySem.Spec PyProof.Rows L2 Bd Es Dj Ef Re
/-- all but what stands at O; tuples stay -/
structure Fr (K : PySem.W.Frag) (O : List Addr) (H H' : Hp) : Prop where
  keep : ∀ a u, a ∉ O → H a = some u → H' a = some u
  tup : ∀ a xs, SqT K H a xs → SqT K H' a xs
  tr : ∀ a xs, H a = some (.tup xs) → H' a = some (.tup xs)
section
variable {P : Program} {w : World} {K : PySem.W.Frag} {H H1 H2 H' : Hp} {O O' : List Addr}
theorem Fr.of (s : Same H H') : Fr K O H H' := ⟨fun a u _ h => s a u h, fun _ _ h => Rd.same_tup s h, fun _ _ h => s _ _ h⟩
theorem Fr.refl : Fr K O H H := .of (Same.refl _)
theorem Fr.trans (f : Fr K O H H1) (g : Fr K O H1 H2) : Fr K O H H2 := ⟨fun a u n h => g.keep a u n (f.keep a u n h), fun a xs h => g.tup a xs (f.tup a xs h), fun a xs h => g.tr a xs (f.tr a xs h)⟩
theorem Fr.mono (f : Fr K O H H') (h : ∀ x ∈ O, x ∈ O') : Fr K O' H H' := ⟨fun a u n => f.keep a u fun q => n (h a q), f.tup, f.tr⟩
theorem Fr.then (f : Fr K O H H1) (s : Same H1 H2) : Fr K O H H2 := f.trans (.of s)
/-- O grows by what was free -/
theorem Fr.shrink (f : Fr K O' H H') (h : ∀ x ∈ O', x ∈ O ∨ H x = none) : Fr K O H H' := ⟨fun a u n e => f.keep a u (fun q => (h a q).elim n fun z => by rw [z] at e; cases e) e, f.tup, f.tr⟩
theorem Fr.dict {d : Addr} {ks : List (List Key × Addr × Value)} {o : HO} (h : H d = some (dX P w d ks)) (hd : d ∈ O) : Fr K O H (upd H d o) :=
  ⟨fun a u n e => (upd_ne fun q => n (by rw [q]; exact hd)).trans e, fun a xs e => sqT_upd (o := dX P w d ks) h (fun _ z => by cases z) (fun _ _ z => by cases z) e, fun a xs e => (upd_ne fun q => by rw [q, h] at e; cases Option.some.inj e).trans e⟩
theorem Fr.dk {d : Addr} {ks : List (Key × V)} {o : HO} (h : H d = some (.dK ks)) (hd : d ∈ O) : Fr K O H (upd H d o) :=
  ⟨fun a u n e => (upd_ne fun q => n (by rw [q]; exact hd)).trans e, fun a xs e => sqT_upd (o := .dK ks) h (fun _ z => by cases z) (fun _ _ z => by cases z) e, fun a xs e => (upd_ne fun q => by rw [q, h] at e; cases Option.some.inj e).trans e⟩
theorem Fr.list {d : Addr} {ks : List V} {o : HO} (h : H d = some (.lst ks)) (hd : d ∈ O) : Fr K O H (upd H d o) :=
  ⟨fun a u n e => (upd_ne fun q => n (by rw [q]; exact hd)).trans e, fun a xs e => sqT_upd (o := .lst ks) h (fun _ z => by cases z) (fun _ _ z => by cases z) e, fun a xs e => (upd_ne fun q => by rw [q, h] at e; cases Option.some.inj e).trans e⟩
theorem Fr.ins {d C dx : Addr} {fs : List (Str × V)} {o : HO} (h : H d = some (.ins C dx fs)) (hd : d ∈ O) : Fr K O H (upd H d o) :=
  ⟨fun a u n e => (upd_ne fun q => n (by rw [q]; exact hd)).trans e, fun a xs e => sqT_upd (o := .ins C dx fs) h (fun _ z => by cases z) (fun _ _ z => by cases z) e, fun a xs e => (upd_ne fun q => by rw [q, h] at e; cases Option.some.inj e).trans e⟩
theorem Fr.sqL {a : Addr} {xs : List V} (f : Fr K O H H') (n : a ∉ O) (h : SqL K H a xs) : SqL K H' a xs := by
  rcases h with (h | ⟨z, h⟩) | h
  · exact .inl (.inl (f.keep _ _ n h))
  · exact .inl (.inr ⟨z, f.keep _ _ n h⟩)
  · exact .inr h
theorem Fr.dp (e : Fr K O H H') : ∀ {x : V} {d : PyData}, nl d = true → Dp K H x d → Dp K H' x d
  | _, _, _, .non => .non
  | _, _, _, .bl b => .bl b
  | _, _, _, .int i => .int i
  | _, _, _, .str x => .str x
  | _, _, n, .lst h a => by simp [nl] at n
  | _, _, n, .tup h a => .tup (e.tup _ _ h) (go e (by simpa only [nl] using n) a)
where go (e : Fr K O H H') : ∀ {xs : List V} {ds : List PyData}, nlAll ds = true → DpAll K H xs ds → DpAll K H' xs ds
  | _, _, _, .nil => .nil
  | _, _, n, .cons h t => .cons (Fr.dp e (by simp only [nlAll, Bool.and_eq_true] at n; exact n.1) h) (go e (by simp only [nlAll, Bool.and_eq_true] at n; exact n.2) t)
theorem Fr.dpAll (e : Fr K O H H') {xs : List V} {ds : List PyData} (n : nlAll ds = true) (h : DpAll K H xs ds) : DpAll K H' xs ds := Fr.dp.go e n h
theorem Fr.ds {a : Addr} {kvs : List (List Key × V)} (e : Fr K O H H') (n : a ∉ O) (h : DS P w K H a kvs) : DS P w K H' a kvs := by
  obtain ⟨z, xs, h1, h2⟩ := id h
  exact Es.DS.keepT ((e.keep _ _ n h1).trans h1.symm) e.tup h
theorem Fr.bdR {c : Addr} {N : List (Ast × Int)} (e : Fr K O H H') (n : c ∉ O) (h : BdR K H c N) (hO : ∀ a xs, H a = some (.tup xs) → a ∉ O) : BdR K H' c N := by
  obtain ⟨dx, d, r, xs, h1, h2, h3⟩ := h
  exact ⟨dx, d, r, xs, e.keep _ _ n h1, e.keep _ _ (hO _ _ h2) h2, e.dpAll (nlMap encR_nl) h3⟩
/-- books' own dicts -/
theorem BkAt.dic {b d : Addr} {ds : List Addr} {B : BkT} (h : BkAt P w K H b d ds B) : ∀ x ∈ d :: ds, ∃ xs, H x = some (dX P w x xs) := by
  obtain ⟨dx, kvs, h1, h2, h3, h4, h5⟩ := h
  intro x hx
  rcases List.mem_cons.mp hx with rfl | hx
  · exact ⟨_, h2.2.choose_spec.1⟩
  · obtain ⟨L, hL⟩ := ds_at h5 (by rw [h3]; exact List.mem_map_of_mem hx)
    exact hL.some
theorem sqT_fr (dic : ∀ x ∈ O, ∃ xs, H x = some (dX P w x xs)) (hk : ∀ a u, a ∉ O → H a = some u → H' a = some u) {a : Addr} {xs : List V} (h : SqT K H a xs) : SqT K H' a xs := by
  rcases h with (h | ⟨z, h⟩) | h
  · refine .inl (.inl (hk _ _ (fun q => ?_) h))
    obtain ⟨ys, hy⟩ := dic a q
    rw [hy] at h
    cases Option.some.inj h
  · refine .inl (.inr ⟨z, hk _ _ (fun q => ?_) h⟩)
    obtain ⟨ys, hy⟩ := dic a q
    rw [hy] at h
    cases Option.some.inj h
  · exact .inr h
theorem tr_fr (dic : ∀ x ∈ O, ∃ xs, H x = some (dX P w x xs)) (hk : ∀ a u, a ∉ O → H a = some u → H' a = some u) {a : Addr} {xs : List V} (h : H a = some (.tup xs)) : H' a = some (.tup xs) :=
  hk _ _ (fun q => by
    obtain ⟨ys, hy⟩ := dic a q
    rw [hy] at h
    cases Option.some.inj h) h
theorem Fr.books {b d : Addr} {ds : List Addr} {B : BkT} (h : BkAt P w K H b d ds B) (hk : ∀ a u, a ∉ d :: ds → H a = some u → H' a = some u) : Fr K (d :: ds) H H' := ⟨hk, fun _ _ => sqT_fr h.dic hk, fun _ _ => tr_fr h.dic hk⟩
theorem dX_no {d : Addr} {ks : List (List Key × Addr × Value)} {o : HO} {a : Addr} (h : H d = some (dX P w d ks)) (g : H a = some o) (n : ∀ φ, o ≠ .ext φ) : a ≠ d := fun e => by
  subst e
  rw [h] at g
  exact n _ (Option.some.inj g).symm
/-- what is no dict of the books is none of them -/
theorem BkAt.out {b d : Addr} {ds : List Addr} {B : BkT} (h : BkAt P w K H b d ds B) {a : Addr} {o : HO} (g : H a = some o) (n : ∀ φ, o ≠ .ext φ) : a ∉ d :: ds := fun q => by
  obtain ⟨ys, hy⟩ := h.dic a q
  exact dX_no hy g n rfl
theorem BkAt.fr {b d : Addr} {ds : List Addr} {B : BkT} (h : BkAt P w K H b d ds B) (f : Fr K O H H') (nb : b ∉ O) (nd : ∀ x ∈ d :: ds, x ∉ O) (nc : ∀ c dx fs, H c = some (.ins (He.ga K "Bundle") dx fs) → c ∉ O) (nt : ∀ a xs, H a = some (.tup xs) → a ∉ O) : BkAt P w K H' b d ds B := by
  obtain ⟨dx, kvs, h1, h2, h3, h4, h5⟩ := h
  refine ⟨dx, kvs, f.keep _ _ nb h1, f.ds (nd _ List.mem_cons_self) h2, h3, h4, rest_keep h5 fun dj L hm q => ?_⟩
  obtain ⟨ks, q1, q2⟩ := q
  have hd : dj ∈ ds := by
    rw [h3] at hm
    obtain ⟨x, hx, ex⟩ := List.mem_map.mp hm
    cases ex
    exact hx
  exact ⟨ks, f.ds (nd _ (List.mem_cons_of_mem _ hd)) q1, Paired.mapP q2 fun _ _ ⟨e, c, e2, q⟩ => ⟨e, c, e2, by
    obtain ⟨dx, d, r, xs, g1, g2, g3⟩ := q
    exact f.bdR (nc _ _ _ g1) ⟨dx, d, r, xs, g1, g2, g3⟩ nt⟩⟩
end
/-! ### the books' mathematics -/
def flatB (B : BkT) : List Rf := (B.map fun e => e.2.map (·.1)).flatten
/-- the books and the law's own: the same references at the same addresses, with the same sums -/
structure BM (B : BkT) (M : MdT) : Prop where
  nd : (B.map (·.1)).Nodup
  pm : (flatB B).Perm (M.map (·.1))
  pt : ∀ e ∈ B, ∀ x ∈ e.2, x.2.length ≤ 3 ∧ ∃ t, lookM M x.1 = some t ∧ t.ad = e.1 ∧ ∀ p, tot x.2 p = tot t.rw p
theorem flatB_cons {e : List Key × List (Rf × List (Ast × Int))} {B : BkT} : flatB (e :: B) = e.2.map (·.1) ++ flatB B := rfl
theorem look_refs {M : MdT} {kk : List Key} : ∀ {B : BkT}, (B.map (·.1)).Nodup → (∀ e ∈ B, ∀ x ∈ e.2, (lookM M x.1).map (·.ad) = some e.1) → (lookB B kk).map (·.1) = (flatB B).filter fun r => decide ((lookM M r).map (·.ad) = some kk)
  | [], _, _ => rfl
  | e :: B, hn, h => by
    rw [List.map_cons, List.nodup_cons] at hn
    have ih := look_refs (kk := kk) hn.2 fun f hf => h f (List.mem_cons_of_mem _ hf)
    have h0 := h e List.mem_cons_self
    rw [flatB_cons, List.filter_append]
    by_cases c : e.1 = kk
    · rw [lookB_pos c]
      have e1 : (e.2.map (·.1)).filter (fun r => decide ((lookM M r).map (·.ad) = some kk)) = e.2.map (·.1) := List.filter_eq_self.mpr fun r hr => by
        obtain ⟨x, hx, rfl⟩ := List.mem_map.mp hr
        exact decide_eq_true (by rw [h0 x hx, c])
      have e2 : (flatB B).filter (fun r => decide ((lookM M r).map (·.ad) = some kk)) = [] := List.filter_eq_nil_iff.mpr fun r hr => by
        obtain ⟨l, hl, hr2⟩ := List.mem_flatten.mp hr
        obtain ⟨f, hf, rfl⟩ := List.mem_map.mp hl
        obtain ⟨x, hx, rfl⟩ := List.mem_map.mp hr2
        intro z
        have z2 := of_decide_eq_true z
        rw [h f (List.mem_cons_of_mem _ hf) x hx] at z2
        exact hn.1 (by rw [c, ← Option.some.inj z2]; exact List.mem_map_of_mem hf)
      rw [e1, e2, List.append_nil]
    · rw [lookB_neg c, ih]
      have e1 : (e.2.map (·.1)).filter (fun r => decide ((lookM M r).map (·.ad) = some kk)) = [] := List.filter_eq_nil_iff.mpr fun r hr => by
        obtain ⟨x, hx, rfl⟩ := List.mem_map.mp hr
        intro z
        have z2 := of_decide_eq_true z
        rw [h0 x hx] at z2
        exact c (Option.some.inj z2)
      rw [e1, List.nil_append]
theorem BM.ads {B : BkT} {M : MdT} (h : BM B M) : ∀ e ∈ B, ∀ x ∈ e.2, (lookM M x.1).map (·.ad) = some e.1 := fun e he x hx => by
  obtain ⟨_, t, h1, h2, _⟩ := h.pt e he x hx
  rw [h1, Option.map_some, h2]
theorem BM.refs {B : BkT} {M : MdT} (h : BM B M) (hM : (M.map (·.1)).Nodup) (kk : List Key) : ((lookB B kk).map (·.1)).Perm ((M.filter fun e => e.2.ad = kk).map (·.1)) := by
  rw [look_refs h.nd h.ads]
  exact refsF h.pm hM
theorem sum_perm : ∀ {l m : List Int}, l.Perm m → l.sum = m.sum := fun {l m} h => by
  induction h with
  | nil => rfl
  | cons x _ ih => simp [ih]
  | swap x y l => simp only [List.sum_cons]; omega
  | trans _ _ a b => exact a.trans b
theorem tot_flatten {p : Ast} : ∀ {l : List (List (Ast × Int))}, tot l.flatten p = (l.map fun R => tot R p).sum
  | [] => rfl
  | R :: l => by rw [List.flatten_cons, tot_append, tot_flatten (l := l)]; rfl
theorem sumR_tot {M : MdT} {S : List Rf} {p : Ast} : tot (sumR M S) p = (S.map fun e => tot (((lookM M e).map (·.rw)).getD []) p).sum := by
  unfold sumR
  rw [tot_flatten, List.map_map]
  rfl
theorem sumR_perm {M : MdT} {S T : List Rf} (h : S.Perm T) (p : Ast) : tot (sumR M S) p = tot (sumR M T) p := by
  rw [sumR_tot, sumR_tot]
  exact sum_perm (h.map _)
theorem sumR_app {M : MdT} {S T : List Rf} : sumR M (S ++ T) = sumR M S ++ sumR M T := by simp [sumR]
theorem look_tot {M : MdT} {p : Ast} : ∀ {L : List (Rf × List (Ast × Int))}, (∀ x ∈ L, ∃ t, lookM M x.1 = some t ∧ tot x.2 p = tot t.rw p) → tot (L.map (·.2)).flatten p = tot (sumR M (L.map (·.1))) p
  | [], _ => rfl
  | x :: L, h => by
    obtain ⟨t, h1, h2⟩ := h x List.mem_cons_self
    rw [List.map_cons, List.map_cons, List.flatten_cons, tot_append, look_tot fun y hy => h y (List.mem_cons_of_mem _ hy), h2]
    rw [show sumR M (x.1 :: L.map (·.1)) = ((lookM M x.1).map (·.rw)).getD [] ++ sumR M (L.map (·.1)) by simp [sumR], tot_append, h1]
    rfl
theorem lookB_mem {B : BkT} {kk : List Key} {x : Rf × List (Ast × Int)} (h : x ∈ lookB B kk) : ∃ e ∈ B, x ∈ e.2 ∧ e.1 = kk := by
  induction B with
  | nil => simp [lookB] at h
  | cons e B ih =>
    by_cases c : e.1 = kk
    · rw [lookB_pos c] at h
      exact ⟨e, List.mem_cons_self, h, c⟩
    · rw [lookB_neg c] at h
      obtain ⟨f, hf, h2⟩ := ih h
      exact ⟨f, List.mem_cons_of_mem _ hf, h2⟩
theorem BM.sums {B : BkT} {M : MdT} (h : BM B M) (kk : List Key) (p : Ast) : tot ((lookB B kk).map (·.2)).flatten p = tot (sumR M ((lookB B kk).map (·.1))) p :=
  look_tot fun x hx => by
    obtain ⟨e, he, hx2, _⟩ := lookB_mem hx
    obtain ⟨_, t, h1, _, h3⟩ := h.pt e he x hx2
    exact ⟨t, h1, h3 p⟩
theorem all_tot {M : MdT} {p : Ast} : ∀ {B : BkT}, (∀ e ∈ B, ∀ x ∈ e.2, ∃ t, lookM M x.1 = some t ∧ tot x.2 p = tot t.rw p) → tot (allB B) p = tot (sumR M (flatB B)) p
  | [], _ => rfl
  | e :: B, h => by
    rw [flatB_cons, sumR_app, tot_append, ← all_tot fun f hf => h f (List.mem_cons_of_mem _ hf), ← look_tot (h e List.mem_cons_self), ← tot_append]
    rfl
theorem BM.all {B : BkT} {M : MdT} (h : BM B M) (p : Ast) : tot (allB B) p = tot (sumR M (M.map (·.1))) p := by
  rw [← sumR_perm h.pm]
  exact all_tot fun e he x hx => by
    obtain ⟨_, t, h1, _, h3⟩ := h.pt e he x hx
    exact ⟨t, h1, h3 p⟩
theorem flat3 : ∀ {L : List (Rf × List (Ast × Int))}, (∀ x ∈ L, x.2.length ≤ 3) → (L.map (·.2)).flatten.length ≤ 3 * L.length
  | [], _ => Nat.le_refl _
  | x :: L, h => by
    have := flat3 (L := L) fun y hy => h y (List.mem_cons_of_mem _ hy)
    have := h x List.mem_cons_self
    rw [List.map_cons, List.flatten_cons, List.length_append, List.length_cons]
    omega
theorem all3 : ∀ {B : BkT}, (∀ e ∈ B, ∀ x ∈ e.2, x.2.length ≤ 3) → (allB B).length ≤ 3 * (flatB B).length
  | [], _ => Nat.le_refl _
  | e :: B, h => by
    have h1 := all3 (B := B) fun f hf => h f (List.mem_cons_of_mem _ hf)
    have h2 := flat3 (h e List.mem_cons_self)
    rw [flatB_cons, List.length_append, List.length_map]
    show ((e.2.map (·.2)).flatten ++ allB B).length ≤ _
    rw [List.length_append]
    omega
theorem flatB_mem {B : BkT} {e : List Key × List (Rf × List (Ast × Int))} {x : Rf × List (Ast × Int)} (he : e ∈ B) (hx : x ∈ e.2) : x.1 ∈ flatB B := List.mem_flatten.mpr ⟨_, List.mem_map_of_mem he, List.mem_map_of_mem hx⟩
theorem flatB_le {B : BkT} {e : List Key × List (Rf × List (Ast × Int))} (he : e ∈ B) : e.2.length ≤ (flatB B).length := by
  have := (List.sublist_flatten_of_mem (List.mem_map.mpr ⟨e, he, rfl⟩ : e.2.map (·.1) ∈ B.map fun e => e.2.map (·.1))).length_le
  rwa [List.length_map] at this
theorem lookB_le {B : BkT} {kk : List Key} : (lookB B kk).length ≤ (flatB B).length := by
  induction B with
  | nil => exact Nat.le_refl _
  | cons e B ih =>
    rw [flatB_cons, List.length_append, List.length_map]
    by_cases c : e.1 = kk
    · rw [lookB_pos c]; omega
    · rw [lookB_neg c]; omega
structure BLen (B : BkT) (n : Nat) : Prop where
  fl : (flatB B).length = n
  al : (allB B).length ≤ 3 * n
  lk : ∀ kk, (lookB B kk).length ≤ n ∧ ((lookB B kk).map (·.2)).flatten.length ≤ 3 * n
  ea : ∀ e ∈ B, e.2.length ≤ n
theorem BM.len {B : BkT} {M : MdT} (h : BM B M) : BLen B M.length := by
  have e := h.pm.length_eq
  rw [List.length_map] at e
  refine ⟨e, e ▸ all3 fun f hf x hx => (h.pt f hf x hx).1, fun kk => ?_, fun f hf => e ▸ flatB_le hf⟩
  have h1 : (lookB B kk).length ≤ _ := lookB_le
  have h2 := flat3 (L := lookB B kk) fun x hx => by
    obtain ⟨f, hf, hx2, _⟩ := lookB_mem hx
    exact (h.pt f hf x hx2).1
  exact ⟨e ▸ h1, by omega⟩
theorem BM.nil : BM [] [] := ⟨List.nodup_nil, .nil, fun _ h => by cases h⟩
/-! one more, one less -/
theorem addB_len {k : List Key} {p : Rf} {N : List (Ast × Int)} : ∀ {B : BkT}, (addB B k p N).length ≤ B.length + 1
  | [] => Nat.le_refl _
  | e :: B => by
    unfold addB
    split
    · simp
    · have := addB_len (k := k) (p := p) (N := N) (B := B)
      simp only [List.length_cons]; omega
theorem addB_flat {k : List Key} {p : Rf} {N : List (Ast × Int)} : ∀ {B : BkT}, (flatB (addB B k p N)).Perm (flatB B ++ [p])
  | [] => List.Perm.refl _
  | e :: B => by
    unfold addB
    split
    · rw [flatB_cons, flatB_cons, List.map_append, List.append_assoc, List.append_assoc]
      exact List.Perm.append_left _ List.perm_append_comm
    · rw [flatB_cons, flatB_cons, List.append_assoc]
      exact List.Perm.append_left _ addB_flat
theorem addB_keys {k : List Key} {p : Rf} {N : List (Ast × Int)} : ∀ {B : BkT}, (k ∈ B.map (·.1) → (addB B k p N).map (·.1) = B.map (·.1)) ∧ (k ∉ B.map (·.1) → (addB B k p N).map (·.1) = B.map (·.1) ++ [k])
  | [] => ⟨fun h => by simp at h, fun _ => rfl⟩
  | e :: B => by
    have ih := addB_keys (k := k) (p := p) (N := N) (B := B)
    unfold addB
    by_cases c : e.1 = k
    · rw [if_pos c]
      exact ⟨fun _ => rfl, fun h => absurd (by rw [List.map_cons, c]; exact List.mem_cons_self) h⟩
    · rw [if_neg c, List.map_cons, List.map_cons]
      refine ⟨fun h => ?_, fun h => ?_⟩
      · rw [ih.1 ((List.mem_cons.mp h).resolve_left fun z => c z.symm)]
      · rw [ih.2 fun z => h (List.mem_cons_of_mem _ z)]
        rfl
theorem addB_mem {k : List Key} {p : Rf} {N : List (Ast × Int)} {x : Rf × List (Ast × Int)} : ∀ {B : BkT} {e : List Key × List (Rf × List (Ast × Int))}, e ∈ addB B k p N → x ∈ e.2 → (∃ f ∈ B, f.1 = e.1 ∧ x ∈ f.2) ∨ (e.1 = k ∧ x = (p, N))
  | [], e, h, hx => by
    rw [List.mem_singleton.mp h] at hx ⊢
    exact .inr ⟨rfl, List.mem_singleton.mp hx⟩
  | f :: B, e, h, hx => by
    unfold addB at h
    split at h
    · rename_i c
      rcases List.mem_cons.mp h with rfl | h
      · rcases List.mem_append.mp hx with hx | hx
        · exact .inl ⟨f, List.mem_cons_self, rfl, hx⟩
        · exact .inr ⟨c, List.mem_singleton.mp hx⟩
      · exact .inl ⟨e, List.mem_cons_of_mem _ h, rfl, hx⟩
    · rcases List.mem_cons.mp h with rfl | h
      · exact .inl ⟨e, List.mem_cons_self, rfl, hx⟩
      · rcases addB_mem h hx with ⟨g, hg, h1, h2⟩ | h
        · exact .inl ⟨g, List.mem_cons_of_mem _ hg, h1, h2⟩
        · exact .inr h
theorem lookM_app {M : MdT} {p r : Rf} {t u : Tr} (h : lookM M r = some u) : lookM (M ++ [(p, t)]) r = some u := by
  induction M with
  | nil => cases h
  | cons y M ih =>
    simp only [List.cons_append, lookM] at h ⊢
    split
    · rename_i c; rw [if_pos c] at h; exact h
    · rename_i c; rw [if_neg c] at h; exact ih h
theorem lookM_new {M : MdT} {p : Rf} {t : Tr} (h : p ∉ M.map (·.1)) : lookM (M ++ [(p, t)]) p = some t := by
  induction M with
  | nil => simp [lookM]
  | cons y M ih =>
    rw [List.map_cons, List.mem_cons, not_or] at h
    simp only [List.cons_append, lookM]
    rw [if_neg fun q => h.1 q.symm]
    exact ih h.2
theorem BM.add {B : BkT} {M : MdT} {p : Rf} {t : Tr} {N : List (Ast × Int)} (h : BM B M) (hp : p ∉ M.map (·.1)) (hl : N.length ≤ 3) (ht : ∀ q, tot N q = tot t.rw q) : BM (addB B t.ad p N) (M ++ [(p, t)]) := by
  refine ⟨?_, ?_, fun e he x hx => ?_⟩
  · rcases Classical.em (t.ad ∈ B.map (·.1)) with n | n
    · rw [addB_keys.1 n]; exact h.nd
    · rw [addB_keys.2 n, List.nodup_append]
      refine ⟨h.nd, by simp, fun a ha b hb => ?_⟩
      rw [List.mem_singleton.mp hb]
      intro q
      exact n (q ▸ ha)
  · rw [List.map_append]
    exact addB_flat.trans (h.pm.append_right _)
  · rcases addB_mem he hx with ⟨f, hf, h1, h2⟩ | ⟨h1, h2⟩
    · obtain ⟨g1, u, g2, g3, g4⟩ := h.pt f hf x h2
      exact ⟨g1, u, lookM_app g2, g3.trans h1, g4⟩
    · subst h2
      exact ⟨hl, t, lookM_new hp, h1.symm, ht⟩
theorem remB_keys {k : List Key} {p : Rf} : ∀ {B : BkT}, (remB B k p).map (·.1) = B.map (·.1)
  | [] => rfl
  | e :: B => by
    unfold remB
    split
    · rfl
    · rw [List.map_cons, remB_keys (B := B), List.map_cons]
theorem remB_len {k : List Key} {p : Rf} {B : BkT} : (remB B k p).length = B.length := by
  have := congrArg List.length (remB_keys (k := k) (p := p) (B := B))
  rwa [List.length_map, List.length_map] at this
theorem filt_refs {p : Rf} : ∀ {L : List (Rf × List (Ast × Int))}, (L.filter fun x => decide (x.1 ≠ p)).map (·.1) = (L.map (·.1)).filter fun r => decide (r ≠ p)
  | [] => rfl
  | x :: L => by
    rw [List.map_cons, List.filter_cons, List.filter_cons]
    split
    · rw [List.map_cons, filt_refs]
    · exact filt_refs
theorem remB_flat {k : List Key} {p : Rf} : ∀ {B : BkT}, (B.map (·.1)).Nodup → (∀ e ∈ B, ∀ x ∈ e.2, x.1 = p → e.1 = k) → flatB (remB B k p) = (flatB B).filter fun r => decide (r ≠ p)
  | [], _, _ => rfl
  | e :: B, hn, h => by
    rw [List.map_cons, List.nodup_cons] at hn
    rw [flatB_cons, List.filter_append]
    have no : ∀ (L : List Rf), (∀ r ∈ L, r ≠ p) → L.filter (fun r => decide (r ≠ p)) = L := fun L hL => List.filter_eq_self.mpr fun r hr => decide_eq_true (hL r hr)
    unfold remB
    by_cases c : e.1 = k
    · rw [if_pos c, flatB_cons, filt_refs, no (flatB B) fun r hr => ?_]
      obtain ⟨l, hl, hr2⟩ := List.mem_flatten.mp hr
      obtain ⟨f, hf, rfl⟩ := List.mem_map.mp hl
      obtain ⟨x, hx, rfl⟩ := List.mem_map.mp hr2
      intro q
      exact hn.1 (by rw [c, ← h f (List.mem_cons_of_mem _ hf) x hx q]; exact List.mem_map_of_mem hf)
    · rw [if_neg c, flatB_cons, remB_flat hn.2 fun f hf => h f (List.mem_cons_of_mem _ hf), no (e.2.map (·.1)) fun r hr => ?_]
      obtain ⟨x, hx, rfl⟩ := List.mem_map.mp hr
      intro q
      exact c (h e List.mem_cons_self x hx q)
theorem remB_mem {k : List Key} {p : Rf} {x : Rf × List (Ast × Int)} : ∀ {B : BkT} {e : List Key × List (Rf × List (Ast × Int))}, (B.map (·.1)).Nodup → e ∈ remB B k p → x ∈ e.2 → (∃ f ∈ B, f.1 = e.1 ∧ x ∈ f.2 ∧ (f.1 = k → x.1 ≠ p))
  | [], _, _, h, _ => by cases h
  | f :: B, e, hn, h, hx => by
    rw [List.map_cons, List.nodup_cons] at hn
    unfold remB at h
    split at h
    · rename_i c
      rcases List.mem_cons.mp h with rfl | h
      · have := List.mem_filter.mp hx
        exact ⟨f, List.mem_cons_self, rfl, this.1, fun _ => of_decide_eq_true this.2⟩
      · refine ⟨e, List.mem_cons_of_mem _ h, rfl, hx, fun q => absurd (by rw [c, ← q]; exact List.mem_map_of_mem h) hn.1⟩
    · rename_i c
      rcases List.mem_cons.mp h with rfl | h
      · exact ⟨e, List.mem_cons_self, rfl, hx, fun q => absurd q c⟩
      · obtain ⟨g, hg, h1, h2, h3⟩ := remB_mem hn.2 h hx
        exact ⟨g, List.mem_cons_of_mem _ hg, h1, h2, h3⟩
theorem lookM_filter {M : MdT} {p r : Rf} (h : r ≠ p) : lookM (M.filter fun e => decide (e.1 ≠ p)) r = lookM M r := by
  induction M with
  | nil => rfl
  | cons y M ih =>
    rw [List.filter_cons]
    split
    · simp only [lookM]
      split
      · rfl
      · exact ih
    · rename_i c
      have c2 : y.1 = p := by simpa using c
      simp only [lookM]
      rw [if_neg fun q => h (q.symm.trans c2)]
      exact ih
theorem mapF {p : Rf} : ∀ {M : MdT}, (M.filter fun e => decide (e.1 ≠ p)).map (·.1) = (M.map (·.1)).filter fun r => decide (r ≠ p)
  | [] => rfl
  | x :: M => by
    rw [List.map_cons, List.filter_cons, List.filter_cons]
    split
    · rw [List.map_cons, mapF]
    · exact mapF
theorem BM.rem {B : BkT} {M : MdT} {p : Rf} {t : Tr} (h : BM B M) (hp : lookM M p = some t) : BM (remB B t.ad p) (M.filter fun e => decide (e.1 ≠ p)) := by
  have at_p : ∀ e ∈ B, ∀ x ∈ e.2, x.1 = p → e.1 = t.ad := fun e he x hx q => by
    obtain ⟨_, u, g2, g3, _⟩ := h.pt e he x hx
    rw [q, hp] at g2
    rw [← g3, Option.some.inj g2]
  refine ⟨by rw [remB_keys]; exact h.nd, ?_, fun e he x hx => ?_⟩
  · rw [remB_flat h.nd at_p, mapF]
    exact h.pm.filter _
  · obtain ⟨f, hf, h1, h2, h3⟩ := remB_mem h.nd he hx
    obtain ⟨g1, u, g2, g3, g4⟩ := h.pt f hf x h2
    have ne : x.1 ≠ p := fun q => h3 (at_p f hf x h2 q) q
    exact ⟨g1, u, by rw [lookM_filter ne]; exact g2, g3.trans h1, g4⟩
theorem ltII_anti {p q : Rf} (h1 : ltII p q = false) (h2 : ltII q p = false) : p = q := by
  have a := ltII_no.mp h1
  have b := ltII_no.mp h2
  have e1 : p.1 = q.1 := by omega
  have e2 : p.2 = q.2 := by omega
  exact Prod.ext e1 e2
theorem srt_uniq {S T : List Rf} (h1 : SrtO.Srtd ltII S) (h2 : SrtO.Srtd ltII T) (p : S.Perm T) : S = T :=
  List.Perm.eq_of_pairwise (fun a b _ _ x y => (ltII_anti x y).symm) h1 h2 p
end Fa

set_option Elab.async false
set_option linter.all false
set_option maxRecDepth 100000
set_option maxHeartbeats 4000000
/-! Dicts of numbers as they are read; a field as a target; a starred item of a tuple. -/
namespace Es
open PySem PySem.Spec PyProof.Rows L2 Bd Dj
/-- o.f as a target -/
def gFld (K : PySem.W.Frag) (to : TE) (f : Str) : TG := fun v σ H Q => to σ H fun x H1 => ∃ a C dx fs, x = .ref a ∧ H1 a = some (.ins C dx fs) ∧ Cls K C ∧ NoAttr K C f ∧ fs.length < 1000 ∧ Q σ (upd H1 a (.ins C dx (putF f v fs)))
theorem pg_fld {X : Cx} {o : Expr} {f : Str} {pos : Pos} {to : TE} (ho : PE X o to) : PG X (.Attribute o f pos) (gFld X.K to f) := by
  refine ⟨fun pins s σ H v u Q I r h => ?_⟩
  refine PySem.W.kas_attr (thn (ho.run pins s σ H _ I h) fun ov s1 ⟨x, H1, I1, rx, a, C, dx, fs, ex, ea, c, n, l, q⟩ => ?_)
  subst ex
  obtain rfl : ov = Value.ref a := rx
  exact setattr_ok I1 ea c n l r fun s3 I3 => ⟨σ, _, I3, q⟩
theorem pa_starK {X : Cx} {K : PySem.W.Frag} {e : Expr} {es : List Expr} {p : Pos} {te : TE} {t : TA} (h : X.K = K) (he : PE X e te) (hr : PA X es t) (hs : starEach (.Starred e p :: es) X.env = (true, eval e X.env) :: starEach es X.env := by rfl) : PA X (.Starred e p :: es) (StX.tStar K te t) := by
  subst h
  exact StX.pa_star he hr hs
theorem pe_fldK {X : Cx} {K : PySem.W.Frag} {o : Expr} {f : Str} {pos : Pos} {ta : TE} (h : X.K = K) (ha : PE X o ta) (hb : attributeBase o f X.env (eval o X.env) = eval o X.env) : PE X (.Attribute o f pos) (tFld K ta f) := by
  subst h
  exact pe_fld ha hb
theorem op_catAK {X : Cx} {K : PySem.W.Frag} (h : X.K = K) : OpR X (binaryOp .Add) (rCatA K) := by
  subst h
  exact op_catA
end Es
namespace Re
open PySem PySem.Spec PyProof.Rows L2 Bd Es Dj
section
variable {K : PySem.W.Frag} {σ : L2.St} {H : Hp} {Q : VK} {td ty tx tv : TE} {n b c : L2.St → Hp → Prop} {r : VK}
theorem dget1S (k : td σ H fun x H1 => ∃ a, x = .ref a ∧ IsD H1 a ∧ ty σ H1 fun y H2 => ∃ o, DGet H2 a y o ∧ Q (o.getD .non) H2) : tDGet1 td ty σ H Q := k
theorem dinS (k : ty σ H fun y H1 => td σ H1 fun x H2 => ∃ a o, x = .ref a ∧ DGet H2 a y o ∧ Q (.bl o.isSome) H2) : tDIn ty td σ H Q := k
theorem dputS (k : tv σ H fun v H1 => td σ H1 fun x H2 => ty σ H2 fun y H3 => ∃ a H4, x = .ref a ∧ DPut H3 a y v H4 ∧ n σ H4) : sDPut td ty tv ⟨n, r, b, c⟩ σ H := k
theorem dpop2S (k : td σ H fun x H1 => ∃ a, x = .ref a ∧ IsD H1 a ∧ ty σ H1 fun y H2 => tx σ H2 fun z H3 => ∃ kvs k, H3 a = some (.dK kvs) ∧ y = kV k ∧
  (∀ v, valV kvs k = some v → Q v (upd H3 a (.dK (L2.dropK kvs k)))) ∧ (valV kvs k = none → Q z H3)) : tDPop2 td ty tx σ H Q := k
theorem ddelS (k : td σ H fun x H1 => ty σ H1 fun y H2 => ∃ a kvs k, x = .ref a ∧ H2 a = some (.dK kvs) ∧ y = kV k ∧ (valV kvs k).isSome = true ∧ n σ (upd H2 a (.dK (L2.dropK kvs k)))) : sDDel td ty ⟨n, r, b, c⟩ σ H := k
theorem gfld {f : Str} {v : V} {Qd : L2.St → Hp → Prop} (k : td σ H fun x H1 => ∃ a C dx fs, x = .ref a ∧ H1 a = some (.ins C dx fs) ∧ Cls K C ∧ NoAttr K C f ∧ fs.length < 1000 ∧ Qd σ (upd H1 a (.ins C dx (putF f v fs)))) : gFld K td f v σ H Qd := k
theorem iVal {R : It → Hp → Prop} (k : td σ H fun x H1 => ∃ d o kvs, x = .ref d ∧ H1 d = some (.frz o (.dK kvs)) ∧ R (Itd d o kvs) H1) : iVals td σ H R := k
theorem isDK {a : Addr} {kvs : List (Key × V)} (h : H a = some (.dK kvs)) : IsD H a := .inl ⟨kvs, .inl h⟩
theorem lockS {t : TS} {d : Addr} {u : HO} (h : H d = some u) (m : Mut (some u)) (k : ∀ od, t ⟨fun σ' H' => H' d = some (.frz od u) ∧ n σ' (upd H' d u), fun v H' => H' d = some (.frz od u) ∧ r v (upd H' d u), fun σ' H' => H' d = some (.frz od u) ∧ b σ' (upd H' d u), fun σ' H' => H' d = some (.frz od u) ∧ c σ' (upd H' d u)⟩ σ (upd H d (.frz od u))) : tLock t ⟨n, r, b, c⟩ σ H := ⟨d, u, h, m, k⟩
/-- for .. in d.values(), d locked -/
theorem forVals {d : Addr} {g0 : Obj} {kvs : List (Key × V)} {g : TG} {tb : TS} (Pv : Nat → L2.St → Hp → Prop) (h : H d = some (.frz g0 (.dK kvs))) (h0 : Pv 0 σ H) (hl : ∀ i σ H', i ≤ kvs.length → Pv i σ H' → H' d = some (.frz g0 (.dK kvs)))
    (hs : ∀ (i : Nat) (k : Key) (x : V) (σ' : L2.St) (H' : Hp), kvs[i]? = some (k, x) → Pv i σ' H' → g x σ' H' fun σ2 H2 => tb ⟨Pv (i + 1), r, n, Pv (i + 1)⟩ σ2 H2) (hd : ∀ σ' H', Pv kvs.length σ' H' → n σ' H') :
    Rd.ForJ g tb ⟨n, r, b, c⟩ σ (Itd d g0 kvs) H := by
  refine ⟨fun i m σ' H' => m = kvs.length - i ∧ i ≤ kvs.length ∧ Pv i σ' H', ⟨kvs.length, by simp, Nat.zero_le _, h0⟩, ?_⟩
  rintro i m σ' H' ⟨rfl, hi, p⟩
  have q := hl i σ' H' hi p
  by_cases hlt : i < kvs.length
  · refine .inr ⟨⟨q, hlt⟩, Pv (i + 1), fun σ2 H2 p' => ⟨kvs.length - (i + 1), by omega, rfl, hlt, p'⟩, ?_⟩
    rintro x H2 ⟨rfl, k, hk⟩
    exact hs i k x σ' _ hk p
  · have e : i = kvs.length := by omega
    subst e
    exact .inl ⟨⟨q, Nat.le_refl _⟩, hd σ' H' p⟩
/-- for .. in enumerate(a list) -/
theorem forEn {a : Addr} {xs : List V} {g : TG} {tb : TS} (Pv : Nat → L2.St → Hp → Prop) (h : SqL K H a xs) (h0 : Pv 0 σ H) (hl : ∀ i σ H', i ≤ xs.length → Pv i σ H' → SqL K H' a xs)
    (hs : ∀ (i : Nat) (x : V) (σ' : L2.St) (H' : Hp) (T : Addr), xs[i]? = some x → Pv i σ' H' → H' T = none → g (.ref T) σ' (upd H' T (.tup [.int (i : Nat), x])) fun σ2 H2 => tb ⟨Pv (i + 1), r, n, Pv (i + 1)⟩ σ2 H2) (hd : ∀ σ' H', Pv xs.length σ' H' → n σ' H') :
    ∃ a' xs', [V.ref a] = [V.ref a'] ∧ SqL K H a' xs' ∧ Rd.ForJ g tb ⟨n, r, b, c⟩ σ (Ite K a') H := by
  refine ⟨a, xs, rfl, h, fun i m σ' H' => m = xs.length - i ∧ i ≤ xs.length ∧ Pv i σ' H', ⟨xs.length, by simp, Nat.zero_le _, h0⟩, ?_⟩
  rintro i m σ' H' ⟨rfl, hi, p⟩
  have q := hl i σ' H' hi p
  by_cases hlt : i < xs.length
  · refine .inr ⟨⟨xs, xs[i], q, by simp [hlt]⟩, Pv (i + 1), fun σ2 H2 p' => ⟨xs.length - (i + 1), by omega, rfl, hlt, p'⟩, ?_⟩
    rintro x H2 ⟨T, x', rfl, hT, rfl, hx⟩
    exact hs i x' σ' H' T (hx xs q) p hT
  · have e : i = xs.length := by omega
    subst e
    exact .inl ⟨⟨xs, q, Nat.le_refl _⟩, hd σ' H' p⟩
/-- (index, (x, y)) of enumerate -/
theorem enp {T z : Addr} {u x y : V} {i j l : Nat} {Qd : L2.St → Hp → Prop} (h : SqT K H T [u, .ref z]) (hz : SqT K H z [x, y]) (k : Qd (((σ.set i (some u)).set j (some x)).set l (some y)) H) : gTup K 2 (gCons (gName i) (gCons (gTup K 2 (gCons (gName j) (gCons (gName l) gNil))) gNil)) (.ref T) σ H Qd :=
  ⟨T, _, rfl, h, rfl, u, [.ref z], rfl, .ref z, [], rfl, ⟨z, _, rfl, hz, rfl, x, [y], rfl, y, [], rfl, rfl, ⟨rfl, k⟩⟩⟩
theorem star {te : TE} {tr : TA} {Q : List V → Hp → Prop} (k : te σ H fun y H1 => ∃ a xs, y = V.ref a ∧ (SqT K H1 a xs ∨ SqL K H1 a xs) ∧ tr σ H1 fun vs H2 => Q (xs ++ vs) H2) : StX.tStar K te tr σ H Q := k
end
end Re

set_option Elab.async false
set_option linter.all false
set_option maxRecDepth 100000
set_option maxHeartbeats 4000000
/-! A state: what stands in the heap of it, and the value that it holds. -/
namespace Fa
open PySem PySem.Spec PyProof.Rows L2 Bd Es Dj Ef Re
theorem kDat_nl : ∀ {a : List Key}, nlAll (a.map kDat) = true
  | [] => rfl
  | .inl _ :: a => by simp only [List.map_cons, nlAll, kDat, nl, Bool.true_and]; exact kDat_nl
  | .inr _ :: a => by simp only [List.map_cons, nlAll, kDat, nl, Bool.true_and]; exact kDat_nl
theorem encTr_nl (t : Tr) : nl (encTr t) = true := by
  have h1 : nlAll (t.rw.map encR) = true := nlMap encR_nl
  have h2 : nlAll (t.dt.map PyData.int) = true := nlMap fun _ => rfl
  simp only [encTr, nl, nlAll, kDat_nl, h1, h2, Bool.and_self]
theorem valV_some {k : List Key} : ∀ {ks : List (List Key × V)}, k ∈ ks.map (·.1) → ∃ v, valV ks k = some v
  | [], h => by simp at h
  | x :: ks, h => by
    by_cases c : x.1 = k
    · exact ⟨_, valV_pos c⟩
    · rw [valV_neg c]
      exact valV_some ((List.mem_cons.mp h).resolve_left fun z => c z.symm)
theorem valV_no {k : List Key} : ∀ {ks : List (List Key × V)}, valV ks k = none → k ∉ ks.map (·.1)
  | [], _ => by simp
  | x :: ks, h => by
    by_cases c : x.1 = k
    · rw [valV_pos c] at h; cases h
    · rw [valV_neg c] at h
      rw [List.map_cons, List.mem_cons, not_or]
      exact ⟨fun z => c z.symm, valV_no h⟩
theorem valV_app {k : List Key} {v : V} : ∀ {ks : List (List Key × V)}, valV ks k = none → valV (ks ++ [(k, v)]) k = some v
  | [], _ => valV_pos rfl
  | x :: ks, h => by
    by_cases c : x.1 = k
    · rw [valV_pos c] at h; cases h
    · rw [valV_neg c] at h
      rw [List.cons_append, valV_neg c]
      exact valV_app h
theorem valV_none {k : List Key} : ∀ {ks : List (List Key × V)}, k ∉ ks.map (·.1) → valV ks k = none
  | [], _ => rfl
  | x :: ks, h => by
    rw [List.map_cons, List.mem_cons, not_or] at h
    rw [valV_neg fun z => h.1 z.symm]
    exact valV_none h.2
/-- a change that can be taken back: what was there before -/
inductive Chg
  | out (r : Rf) (b : Option Tr)
  | acc (k : Int) (b : Option (Int × Int))
  | pot (n : Nat) (v : Int)
  | clk (s e : Int)
  | stk (rows : List (Int × Int))
  | usd (n : Int)
/-- a state's value; n bounds what it may hold -/
structure StM where
  fees : Int
  res : Int
  tre : Int
  slot : Int
  epo : Int
  outs : MdT
  accs : List (Int × (Int × Int))
  stk : List (Int × Int)
  used : List Int
  chg : List Chg
  fgt : Int
  n : Nat
/-- where a state's parts stand -/
structure SA where
  t : Addr
  dx : Addr
  b : Addr
  od : Addr
  ad : Addr
  ud : Addr
  cl : Addr
  d : Addr
  ds : List Addr
  sk : Addr
  z : List Addr
/-- all that a state changes in place -/
def SA.O (A : SA) : List Addr := A.t :: A.b :: A.od :: A.ad :: A.ud :: A.cl :: A.d :: A.ds
/-- and what its outputs keep clear of -/
def SA.V (A : SA) : List Addr := A.O ++ A.z
abbrev stO (K : PySem.W.Frag) (A : SA) (S : StM) : HO := .ins (He.ga K "State") A.dx [(("fees" : Str), .int S.fees), (("reserve" : Str), .int S.res), (("treasury" : Str), .int S.tre), (("slot" : Str), .int S.slot), (("epoch" : Str), .int S.epo), (("books" : Str), .ref A.b), (("_outputs" : Str), .ref A.od), (("_accounts" : Str), .ref A.ad), (("_stakes" : Str), .ref A.sk), (("_used" : Str), .ref A.ud), (("_changes" : Str), .ref A.cl), (("_forgotten" : Str), .int S.fgt)]
/-- a bundle whose parts are none of O -/
def BdO (P : Program) (w : World) (K : PySem.W.Frag) (O : List Addr) (H : Hp) (c : Addr) (N : List (Ast × Int)) : Prop := BdS P w K H c N ∧ ∃ dx d r, H c = some (.ins (He.ga K "Bundle") dx [(("_quantities" : Str), .ref d), (("rows" : Str), .ref r)]) ∧ c ∉ O ∧ d ∉ O
/-- an output whose parts are none of O -/
def OuAt (P : Program) (w : World) (K : PySem.W.Frag) (O : List Addr) (H : Hp) (v : V) (x : Tr) : Prop := ∃ o odx z c dd, v = .ref o ∧ o ∉ O ∧ H o = some (.ins (He.ga K "Output") odx [(("address" : Str), .ref z), (("bundle" : Str), .ref c), (("datum" : Str), .ref dd)]) ∧ SqT K H z (x.ad.map kV) ∧ BdO P w K O H c x.rw ∧ SqT K H dd (x.dt.map V.int)
section
variable {P : Program} {w : World} {K : PySem.W.Frag} {H H' : Hp} {O O' : List Addr}
theorem BdO.fr {c : Addr} {N : List (Ast × Int)} (h : BdO P w K O H c N) (f : Fr K O H H') (g : ∀ x ∈ O', x ∈ O ∨ H x = none) : BdO P w K O' H' c N := by
  obtain ⟨⟨dx, r, d, xs, h1, h2, h3, h4, h5⟩, dx', d', r', h6, nc, nd⟩ := h
  rw [h1] at h6
  have e := (HO.ins.inj (Option.some.inj h6)).2.2
  have ed : d = d' := by injection e with e1 _; injection e1 with _ e2; exact V.ref.inj e2
  subst ed
  have hd : ∃ ys, H d = some (dX P w d ys) := ⟨_, h4.2.choose_spec.1⟩
  have kc := f.keep _ _ nc h1
  refine ⟨⟨dx, r, d, xs, kc, f.tr _ _ h2, f.dpAll (nlMap encR_nl) h3, f.ds nd h4, h5⟩, dx, d, r, kc, fun q => ?_, fun q => ?_⟩
  · rcases g _ q with q | q
    · exact nc q
    · rw [h1] at q; cases q
  · rcases g _ q with q | q
    · exact nd q
    · obtain ⟨ys, hy⟩ := hd
      rw [hy] at q; cases q
theorem OuAt.fr {v : V} {x : Tr} (h : OuAt P w K O H v x) (f : Fr K O H H') (g : ∀ x ∈ O', x ∈ O ∨ H x = none) : OuAt P w K O' H' v x := by
  obtain ⟨o, odx, z, c, dd, h1, h2, h3, h4, h5, h6⟩ := h
  refine ⟨o, odx, z, c, dd, h1, fun q => ?_, f.keep _ _ h2 h3, f.tup _ _ h4, h5.fr f g, f.tup _ _ h6⟩
  rcases g _ q with q | q
  · exact h2 q
  · rw [h3] at q; cases q
theorem OuAt.keep {v : V} {x : Tr} (h : OuAt P w K O H v x) (s : Same H H') : OuAt P w K O H' v x := h.fr (.of s) fun _ q => .inl q
theorem BdO.rows {c : Addr} {N : List (Ast × Int)} (h : BdO P w K O H c N) : BdR K H c N := BdS.bdR h.1
/-- a reference, a pair of numbers -/
abbrev P2At (K : PySem.W.Frag) (H : Hp) (v : V) (p : Int × Int) : Prop := ∃ z, v = .ref z ∧ SqT K H z [.int p.1, .int p.2]
def potName : Nat → Str
  | 0 => "fees"
  | 1 => "reserve"
  | _ => "treasury"
/-- what stands for a change -/
def ChAt (P : Program) (w : World) (K : PySem.W.Frag) (O : List Addr) (H : Hp) (v : V) : Chg → Prop
  | .out r b => ∃ z q u, v = .ref z ∧ SqT K H z [.str "output", .ref q, u] ∧ SqT K H q [.int r.1, .int r.2] ∧ match b with | none => u = .non | some t => OuAt P w K O H u t
  | .acc k b => ∃ z u, v = .ref z ∧ SqT K H z [.str "account", .int k, u] ∧ match b with | none => u = .non | some p => P2At K H u p
  | .pot n x => ∃ z, v = .ref z ∧ SqT K H z [.str "pot", .str (potName n), .int x]
  | .clk s e => ∃ z u, v = .ref z ∧ SqT K H z [.str "clock", .non, u] ∧ P2At K H u (s, e)
  | .stk rows => ∃ z q xs, v = .ref z ∧ SqT K H z [.str "stakes", .non, .ref q] ∧ SqT K H q xs ∧ DpAll K H xs (rows.map encP2)
  | .usd n => ∃ z, v = .ref z ∧ SqT K H z [.str "used", .int n, .bl false]
theorem ChAt.fr {v : V} {c : Chg} (h : ChAt P w K O H v c) (f : Fr K O H H') (g : ∀ x ∈ O', x ∈ O ∨ H x = none) : ChAt P w K O' H' v c := by
  cases c with
  | out r b =>
    obtain ⟨z, q, u, h1, h2, h3, h4⟩ := h
    refine ⟨z, q, u, h1, f.tup _ _ h2, f.tup _ _ h3, ?_⟩
    cases b with
    | none => exact h4
    | some t => exact OuAt.fr h4 f g
  | acc k b =>
    obtain ⟨z, u, h1, h2, h4⟩ := h
    refine ⟨z, u, h1, f.tup _ _ h2, ?_⟩
    cases b with
    | none => exact h4
    | some t =>
      obtain ⟨y, e, hy⟩ := h4
      exact ⟨y, e, f.tup _ _ hy⟩
  | pot n x =>
    obtain ⟨z, h1, h2⟩ := h
    exact ⟨z, h1, f.tup _ _ h2⟩
  | clk s e =>
    obtain ⟨z, u, h1, h2, y, e, hy⟩ := h
    exact ⟨z, u, h1, f.tup _ _ h2, y, e, f.tup _ _ hy⟩
  | stk rows =>
    obtain ⟨z, q, xs, h1, h2, h3, h4⟩ := h
    exact ⟨z, q, xs, h1, f.tup _ _ h2, f.tup _ _ h3, f.dpAll (nlMap encP2_nl) h4⟩
  | usd n =>
    obtain ⟨z, h1, h2⟩ := h
    exact ⟨z, h1, f.tup _ _ h2⟩
/-- an entry of the accounts -/
abbrev AccR (K : PySem.W.Frag) (H : Hp) (x : Key × V) (e : Int × (Int × Int)) : Prop := x.1 = .inl e.1 ∧ P2At K H x.2 e.2
/-- an entry of the outputs -/
abbrev OutR (P : Program) (w : World) (K : PySem.W.Frag) (O : List Addr) (H : Hp) (x : List Key × V) (e : Rf × Tr) : Prop := x.1 = eR e.1 ∧ OuAt P w K O H x.2 e.2
theorem _root_.Fa.BkAt.fr2 {b d : Addr} {ds : List Addr} {B : BkT} (h : BkAt P w K H b d ds B) (f : Fr K O H H') (nb : b ∉ O) (nd : ∀ x ∈ d :: ds, x ∉ O) (nc : ∀ c dx d r, H c = some (.ins (He.ga K "Bundle") dx [(("_quantities" : Str), .ref d), (("rows" : Str), .ref r)]) → c ∉ O) (nt : ∀ a xs, H a = some (.tup xs) → a ∉ O) : BkAt P w K H' b d ds B := by
  obtain ⟨dx, kvs, h1, h2, h3, h4, h5⟩ := h
  refine ⟨dx, kvs, f.keep _ _ nb h1, f.ds (nd _ List.mem_cons_self) h2, h3, h4, rest_keep h5 fun dj L hm q => ?_⟩
  obtain ⟨ks, q1, q2⟩ := q
  have hd : dj ∈ ds := by
    rw [h3] at hm
    obtain ⟨x, hx, ex⟩ := List.mem_map.mp hm
    cases ex
    exact hx
  exact ⟨ks, f.ds (nd _ (List.mem_cons_of_mem _ hd)) q1, Paired.mapP q2 fun _ _ ⟨e, c, e2, q⟩ => ⟨e, c, e2, by
    obtain ⟨dx, d, r, xs, g1, g2, g3⟩ := q
    exact f.bdR (nc _ _ _ _ g1) ⟨dx, d, r, xs, g1, g2, g3⟩ nt⟩⟩
/-- the state at A has the value S -/
structure StAt (P : Program) (w : World) (K : PySem.W.Frag) (H : Hp) (A : SA) (S : StM) (B : BkT) : Prop where
  nd : A.O.Nodup
  t : H A.t = some (stO K A S)
  bk : BkAt P w K H A.b A.d A.ds B
  bm : BM B S.outs
  lb : B.length + S.chg.length ≤ S.n
  lo : S.outs.length + S.chg.length ≤ S.n
  od : ∃ kv, DS P w K H A.od kv ∧ Paired (OutR P w K A.V H) kv S.outs
  ond : (S.outs.map (·.1)).Nodup
  ad : ∃ kv, H A.ad = some (.dK kv) ∧ Paired (AccR K H) kv S.accs
  and_ : (S.accs.map (·.1)).Nodup
  sk : ∃ xs, SqT K H A.sk xs ∧ DpAll K H xs (S.stk.map encP2)
  ud : H A.ud = some (.dK (S.used.map fun n => (.inl n, .bl true)))
  und : S.used.Nodup
  cl : ∃ xs, H A.cl = some (.lst xs) ∧ Paired (ChAt P w K A.V H) xs S.chg
  zl : ∀ x ∈ A.z, H x ≠ none ∧ x ∉ A.O
theorem StAt.inO {A : SA} {S : StM} {B : BkT} (h : StAt P w K H A S B) : ∀ x ∈ A.O, (∀ xs, H x ≠ some (.tup xs)) ∧ (∀ odx (fs : List (Str × V)), fs.length = 2 ∨ fs.length = 3 → ∀ C, H x ≠ some (.ins C odx fs)) := by
  intro x hx
  have nins : ∀ {o : HO}, H x = some o → (∀ xs, o ≠ .tup xs) → (∀ C odx fs, fs.length = 2 ∨ fs.length = 3 → o ≠ .ins C odx fs) → (∀ xs, H x ≠ some (.tup xs)) ∧ (∀ odx (fs : List (Str × V)), fs.length = 2 ∨ fs.length = 3 → ∀ C, H x ≠ some (.ins C odx fs)) := fun {o} e n1 n2 =>
    ⟨fun xs q => n1 xs (Option.some.inj (e.symm.trans q)), fun odx fs l C q => n2 C odx fs l (Option.some.inj (e.symm.trans q))⟩
  simp only [SA.O, List.mem_cons] at hx
  rcases hx with rfl | rfl | rfl | rfl | rfl | rfl | hx
  · exact nins h.t (fun _ z => by cases z) fun _ _ _ l z => by cases z; simp at l
  · obtain ⟨dx, hb⟩ : ∃ dx, H A.b = some (.ins (He.ga K "Books") dx [("_bundles", .ref A.d)]) := by
      obtain ⟨dx, kvs, h1, _⟩ := h.bk
      exact ⟨dx, h1⟩
    exact nins hb (fun _ z => by cases z) fun _ _ _ l z => by cases z; simp at l
  · obtain ⟨kv, h1, _⟩ := h.od
    exact nins h1.2.choose_spec.1 (fun _ z => by cases z) fun _ _ _ l z => by cases z
  · obtain ⟨kv, h1, _⟩ := h.ad
    exact nins h1 (fun _ z => by cases z) fun _ _ _ l z => by cases z
  · exact nins h.ud (fun _ z => by cases z) fun _ _ _ l z => by cases z
  · obtain ⟨kv, h1, _⟩ := h.cl
    exact nins h1 (fun _ z => by cases z) fun _ _ _ l z => by cases z
  · obtain ⟨xs, hx⟩ := h.bk.dic x (List.mem_cons.mpr hx)
    exact nins hx (fun _ z => by cases z) fun _ _ _ l z => by cases z
/-- nothing of the state has changed but what it doesn't own -/
theorem StAt.fr {A : SA} {S : StM} {B : BkT} (h : StAt P w K H A S B) {U : List Addr} (f : Fr K U H H') (n : ∀ x ∈ A.O, x ∉ U) (nb : ∀ c dx fs, fs.length = 2 ∨ fs.length = 3 → ∀ C, H c = some (.ins C dx fs) → c ∉ U) (nt : ∀ x ∈ U, x ∈ A.V ∨ ∀ xs, H x ≠ some (dX P w x xs)) (ntp : ∀ a xs, H a = some (.tup xs) → a ∉ U) (lz : ∀ x ∈ A.z, H' x ≠ none) : StAt P w K H' A S B := by
  have ou : ∀ {v : V} {x : Tr}, OuAt P w K A.V H v x → OuAt P w K A.V H' v x := fun {v x} q => by
    obtain ⟨o, odx, z, c, dd, h1, h2, h3, h4, ⟨⟨bdx, r, d, xs, g1, g2, g3, g4, g5⟩, bdx', d', r', g6, nc, nd'⟩, h6⟩ := q
    have ed : d = d' := by
      rw [g1] at g6
      have e := (HO.ins.inj (Option.some.inj g6)).2.2
      injection e with e1 _
      injection e1 with _ e2
      exact V.ref.inj e2
    subst ed
    have ndU : d ∉ U := fun q => (nt d q).elim nd' fun z => z _ g4.2.choose_spec.1
    refine ⟨o, odx, z, c, dd, h1, h2, f.keep _ _ (nb _ _ _ (.inr rfl) _ h3) h3, f.tup _ _ h4, ⟨⟨bdx, r, d, xs, f.keep _ _ (nb _ _ _ (.inl rfl) _ g1) g1, f.tr _ _ g2, f.dpAll (nlMap encR_nl) g3, f.ds ndU g4, g5⟩, bdx', d, r', f.keep _ _ (nb _ _ _ (.inl rfl) _ g6) g6, nc, nd'⟩, f.tup _ _ h6⟩
  have ch : ∀ {v : V} {c : Chg}, ChAt P w K A.V H v c → ChAt P w K A.V H' v c := fun {v c} q => by
    cases c with
    | out r b =>
      obtain ⟨z, q, u, h1, h2, h3, h4⟩ := q
      refine ⟨z, q, u, h1, f.tup _ _ h2, f.tup _ _ h3, ?_⟩
      cases b with
      | none => exact h4
      | some t => exact ou h4
    | acc k b =>
      obtain ⟨z, u, h1, h2, h4⟩ := q
      refine ⟨z, u, h1, f.tup _ _ h2, ?_⟩
      cases b with
      | none => exact h4
      | some t =>
        obtain ⟨y, e, hy⟩ := h4
        exact ⟨y, e, f.tup _ _ hy⟩
    | pot n x =>
      obtain ⟨z, h1, h2⟩ := q
      exact ⟨z, h1, f.tup _ _ h2⟩
    | clk s e =>
      obtain ⟨z, u, h1, h2, y, e, hy⟩ := q
      exact ⟨z, u, h1, f.tup _ _ h2, y, e, f.tup _ _ hy⟩
    | stk rows =>
      obtain ⟨z, q, xs, h1, h2, h3, h4⟩ := q
      exact ⟨z, q, xs, h1, f.tup _ _ h2, f.tup _ _ h3, f.dpAll (nlMap encP2_nl) h4⟩
    | usd n =>
      obtain ⟨z, h1, h2⟩ := q
      exact ⟨z, h1, f.tup _ _ h2⟩
  have m : ∀ {x : Addr}, x ∈ A.O → x ∉ U := fun q => n _ q
  have mt : A.t ∈ A.O := by simp [SA.O]
  have mb : A.b ∈ A.O := by simp [SA.O]
  have mo : A.od ∈ A.O := by simp [SA.O]
  have ma : A.ad ∈ A.O := by simp [SA.O]
  have mu : A.ud ∈ A.O := by simp [SA.O]
  have mc : A.cl ∈ A.O := by simp [SA.O]
  have md : ∀ x ∈ A.d :: A.ds, x ∈ A.O := fun x hx => by simp only [SA.O, List.mem_cons] at hx ⊢; simp [hx]
  exact { h with
    zl := fun x hx => ⟨lz x hx, (h.zl x hx).2⟩
    t := f.keep _ _ (m mt) h.t
    bk := h.bk.fr2 f (m mb) (fun x hx => m (md x hx)) (fun c dx d r q => nb _ _ _ (.inl rfl) _ q) ntp
    od := by
      obtain ⟨kv, h1, h2⟩ := h.od
      exact ⟨kv, f.ds (m mo) h1, Paired.mapP h2 fun _ _ ⟨e, q⟩ => ⟨e, ou q⟩⟩
    ad := by
      obtain ⟨kv, h1, h2⟩ := h.ad
      exact ⟨kv, f.keep _ _ (m ma) h1, Paired.mapP h2 fun _ _ ⟨e, y, e2, q⟩ => ⟨e, y, e2, f.tup _ _ q⟩⟩
    sk := by
      obtain ⟨xs, h1, h2⟩ := h.sk
      exact ⟨xs, f.tup _ _ h1, f.dpAll (nlMap encP2_nl) h2⟩
    ud := f.keep _ _ (m mu) h.ud
    cl := by
      obtain ⟨xs, h1, h2⟩ := h.cl
      exact ⟨xs, f.keep _ _ (m mc) h1, Paired.mapP h2 fun _ _ q => ch q⟩ }
/-- what of a state stands besides its outputs and books -/
structure StQ (P : Program) (w : World) (K : PySem.W.Frag) (H : Hp) (A : SA) (O : List Addr) (S : StM) : Prop where
  t : H A.t = some (stO K A S)
  ad : ∃ kv, H A.ad = some (.dK kv) ∧ Paired (AccR K H) kv S.accs
  and_ : (S.accs.map (·.1)).Nodup
  sk : ∃ xs, SqT K H A.sk xs ∧ DpAll K H xs (S.stk.map encP2)
  ud : H A.ud = some (.dK (S.used.map fun n => (.inl n, .bl true)))
  und : S.used.Nodup
  cl : ∃ xs, H A.cl = some (.lst xs) ∧ Paired (ChAt P w K O H) xs S.chg
theorem StAt.q {A : SA} {S : StM} {B : BkT} (h : StAt P w K H A S B) : StQ P w K H A A.V S := ⟨h.t, h.ad, h.and_, h.sk, h.ud, h.und, h.cl⟩
theorem StQ.fr {A : SA} {S : StM} {U : List Addr} (h : StQ P w K H A O S) (f : Fr K U H H') (hU : ∀ x ∈ U, x ∈ O) (n : ∀ x ∈ U, x ≠ A.t ∧ x ≠ A.ad ∧ x ≠ A.ud ∧ x ≠ A.cl) (g : ∀ x ∈ O', x ∈ O ∨ H x = none) : StQ P w K H' A O' S := by
  have fO := f.mono hU
  exact {
    t := f.keep _ _ (fun q => (n _ q).1 rfl) h.t
    ad := by
      obtain ⟨kv, h1, h2⟩ := h.ad
      exact ⟨kv, f.keep _ _ (fun q => (n _ q).2.1 rfl) h1, Paired.mapP h2 fun _ _ ⟨e, y, e2, q⟩ => ⟨e, y, e2, f.tup _ _ q⟩⟩
    and_ := h.and_
    sk := by
      obtain ⟨xs, h1, h2⟩ := h.sk
      exact ⟨xs, f.tup _ _ h1, f.dpAll (nlMap encP2_nl) h2⟩
    ud := f.keep _ _ (fun q => (n _ q).2.2.1 rfl) h.ud
    und := h.und
    cl := by
      obtain ⟨xs, h1, h2⟩ := h.cl
      exact ⟨xs, f.keep _ _ (fun q => (n _ q).2.2.2 rfl) h1, Paired.mapP h2 fun _ _ q => q.fr fO g⟩ }
theorem StAt.of {A : SA} {S : StM} {B : BkT} (q : StQ P w K H A A.V S) (nd : A.O.Nodup) (bk : BkAt P w K H A.b A.d A.ds B) (bm : BM B S.outs) (lb : B.length + S.chg.length ≤ S.n) (lo : S.outs.length + S.chg.length ≤ S.n)
    (od : ∃ kv, DS P w K H A.od kv ∧ Paired (OutR P w K A.V H) kv S.outs) (ond : (S.outs.map (·.1)).Nodup) (zl : ∀ x ∈ A.z, H x ≠ none ∧ x ∉ A.O) : StAt P w K H A S B :=
  ⟨nd, q.t, bk, bm, lb, lo, od, ond, q.ad, q.and_, q.sk, q.ud, q.und, q.cl, zl⟩
/-- nothing has changed, there is but more -/
theorem StAt.keep {A : SA} {S : StM} {B : BkT} (h : StAt P w K H A S B) (s : Same H H') : StAt P w K H' A S B :=
  .of (h.q.fr (U := []) (.of s) (by simp) (by simp) fun x q => .inl q) h.nd (BkAt.keep h.bk s) h.bm h.lb h.lo
    (by obtain ⟨kv, h1, h2⟩ := h.od; exact ⟨kv, Es.DS.keep s h1, Paired.mapP h2 fun _ _ ⟨e, q⟩ => ⟨e, q.keep s⟩⟩) h.ond (fun x hx => ⟨fun q => (h.zl x hx).1 (s.free q), (h.zl x hx).2⟩)
/-! reading -/
theorem outs_look {kv : List (List Key × V)} {M : MdT} {p : Rf} : Paired (OutR P w K O H) kv M → (∃ t v, lookM M p = some t ∧ valV kv (eR p) = some v ∧ OuAt P w K O H v t) ∨ (lookM M p = none ∧ valV kv (eR p) = none) := by
  intro h
  induction h with
  | nil => exact .inr ⟨rfl, rfl⟩
  | @cons x e l1 l2 h t ih =>
    by_cases c : e.1 = p
    · exact .inl ⟨e.2, x.2, by simp only [lookM, if_pos c], valV_pos (h.1.trans (by rw [c])), h.2⟩
    · have c2 : ¬ x.1 = eR p := fun z => c (eR_inj (h.1.symm.trans z))
      simp only [lookM, if_neg c]
      rw [valV_neg c2]
      exact ih
theorem outs_keys {kv : List (List Key × V)} {M : MdT} (h : Paired (OutR P w K O H) kv M) : ∃ m : List ((Int × Int) × V), kv = m.map (fun e => (eR e.1, e.2)) ∧ m.map (·.1) = M.map (·.1) := by
  induction h with
  | nil => exact ⟨[], rfl, rfl⟩
  | @cons x e l1 l2 h t ih =>
    obtain ⟨m, h1, h2⟩ := ih
    exact ⟨(e.1, x.2) :: m, by rw [List.map_cons, ← h1, ← h.1], by rw [List.map_cons, List.map_cons, h2]⟩
def lookA : List (Int × (Int × Int)) → Int → Option (Int × Int)
  | [], _ => none
  | x :: M, e => if x.1 = e then some x.2 else lookA M e
theorem accs_look {kv : List (Key × V)} {M : List (Int × (Int × Int))} {k : Int} (h : Paired (AccR K H) kv M) : (∃ t v, lookA M k = some t ∧ valV kv (.inl k) = some v ∧ P2At K H v t) ∨ (lookA M k = none ∧ valV kv (.inl k) = none) := by
  induction h with
  | nil => exact .inr ⟨rfl, rfl⟩
  | @cons x e l1 l2 h t ih =>
    by_cases c : e.1 = k
    · exact .inl ⟨e.2, x.2, by simp only [lookA, if_pos c], valV_pos (h.1.trans (by rw [c])), h.2⟩
    · have c2 : ¬ x.1 = .inl k := fun z => c (Sum.inl.inj (h.1.symm.trans z))
      simp only [lookA, if_neg c]
      rw [valV_neg c2]
      exact ih
theorem accs_keys {kv : List (Key × V)} {M : List (Int × (Int × Int))} (h : Paired (AccR K H) kv M) : kv.map (·.1) = (M.map (·.1)).map Sum.inl := by
  induction h with
  | nil => rfl
  | @cons x e l1 l2 h t ih => rw [List.map_cons, List.map_cons, List.map_cons, ih, h.1]
theorem used_val {U : List Int} {n : Int} : (valV (U.map fun n => ((.inl n : Key), V.bl true)) (.inl n)).isSome = decide (n ∈ U) := by
  induction U with
  | nil => rfl
  | cons u U ih =>
    by_cases c : u = n
    · rw [List.map_cons, valV_pos (by rw [c]), decide_eq_true (by rw [c]; exact List.mem_cons_self)]
      rfl
    · rw [List.map_cons, valV_neg fun z => c (Sum.inl.inj z), ih]
      by_cases m : n ∈ U
      · rw [decide_eq_true m, decide_eq_true (List.mem_cons_of_mem _ m)]
      · rw [decide_eq_false m, decide_eq_false fun q => (List.mem_cons.mp q).elim (fun z => c z.symm) m]
/-- the picture of a state's value -/
def encOu (o : Option Tr) : PyData := (o.map encTr).getD .none
def encAc (k : Int) (o : Option (Int × Int)) : PyData := .tuple [.int k, .int (o.getD (0, 0)).1, .int (o.getD (0, 0)).2]
def PicS (S : StM) (d : PyData) : Prop := ∃ (R : List Rf) (ks us : List Int), SrtO.Srtd ltII R ∧ R.Perm (S.outs.map (·.1)) ∧ ks.Pairwise (· ≤ ·) ∧ ks.Perm (S.accs.map (·.1)) ∧ us.Pairwise (· ≤ ·) ∧ us.Perm S.used ∧
  d = .tuple [.tuple (R.map fun r => .tuple [encP2 r, encOu (lookM S.outs r)]), .tuple (ks.map fun k => encAc k (lookA S.accs k)), .tuple (S.stk.map encP2), .int S.fees, .int S.res, .int S.tre, .int S.slot, .int S.epo, .tuple (us.map .int)]
theorem int_uniq {S T : List Int} (h1 : S.Pairwise (· ≤ ·)) (h2 : T.Pairwise (· ≤ ·)) (p : S.Perm T) : S = T :=
  List.Perm.eq_of_pairwise (fun a b _ _ x y => Int.le_antisymm x y) h1 h2 p
theorem PicS.uniq {S : StM} {d e : PyData} (h : PicS S d) (k : PicS S e) : d = e := by
  obtain ⟨R, ks, us, h1, h2, h3, h4, h5, h6, rfl⟩ := h
  obtain ⟨R', ks', us', k1, k2, k3, k4, k5, k6, rfl⟩ := k
  rw [srt_uniq h1 k1 (h2.trans k2.symm), int_uniq h3 k3 (h4.trans k4.symm), int_uniq h5 k5 (h6.trans k6.symm)]
def accSum : List (Int × (Int × Int)) → Int
  | [] => 0
  | e :: l => e.2.1 + e.2.2 + accSum l
theorem accSum_take {l : List (Int × (Int × Int))} {i : Nat} {e : Int × (Int × Int)} (h : l[i]? = some e) : accSum (l.take (i + 1)) = accSum (l.take i) + (e.2.1 + e.2.2) := by
  induction l generalizing i with
  | nil => simp at h
  | cons x l ih =>
    cases i with
    | zero =>
      simp only [List.getElem?_cons_zero, Option.some.injEq] at h
      subst h
      simp [accSum]
    | succ i =>
      simp only [List.getElem?_cons_succ] at h
      have := ih h
      simp only [List.take_succ_cons, accSum]
      omega
theorem upd_back {d : Addr} {u v : HO} (h : H d = some u) : upd (upd H d v) d u = H := by
  funext a
  by_cases e : a = d
  · rw [e, upd_same, h]
  · rw [upd_ne e, upd_ne e]
theorem encOu_nl (o : Option Tr) : nl (encOu o) = true := by
  cases o with
  | none => rfl
  | some t => exact encTr_nl t
theorem drop_outs {kv : List (List Key × V)} {M : MdT} {p : Rf} (h : Paired (OutR P w K O H) kv M) : Paired (OutR P w K O H) (L2.dropK kv (eR p)) (M.filter fun x => decide (x.1 ≠ p)) := by
  induction h with
  | nil => exact Paired.nil
  | @cons x y ks L h t ih =>
    by_cases c : y.1 = p
    · rw [show L2.dropK (x :: ks) (eR p) = L2.dropK ks (eR p) from List.filter_cons_of_neg (by simp [h.1, c]), List.filter_cons_of_neg (by simp [c])]
      exact ih
    · rw [show L2.dropK (x :: ks) (eR p) = x :: L2.dropK ks (eR p) from List.filter_cons_of_pos (by rw [h.1]; simpa using fun e => c (eR_inj e)), List.filter_cons_of_pos (by simpa using c)]
      exact Paired.cons h ih
theorem valV_someK {k : Key} : ∀ {ks : List (Key × V)}, k ∈ ks.map (·.1) → ∃ v, valV ks k = some v
  | [], h => by simp at h
  | x :: ks, h => by
    by_cases c : x.1 = k
    · exact ⟨_, valV_pos c⟩
    · rw [valV_neg c]
      exact valV_someK ((List.mem_cons.mp h).resolve_left fun z => c z.symm)
theorem lookM_no {M : MdT} {p : Rf} (h : p ∉ M.map (·.1)) : lookM M p = none := by
  induction M with
  | nil => rfl
  | cons y M ih =>
    rw [List.map_cons, List.mem_cons, not_or] at h
    simp only [lookM]
    rw [if_neg fun q => h.1 q.symm]
    exact ih h.2
theorem lookM_yes {M : MdT} {p : Rf} (h : p ∈ M.map (·.1)) : ∃ t, lookM M p = some t := by
  cases q : lookM M p with
  | some t => exact ⟨t, rfl⟩
  | none =>
    exfalso
    induction M with
    | nil => simp at h
    | cons y M ih =>
      simp only [lookM] at q
      split at q
      · cases q
      · rename_i c
        exact ih ((List.mem_cons.mp h).resolve_left fun z => c z.symm) q
def putOut (S : StM) (p : Rf) : Option Tr → StM
  | none => { S with outs := S.outs.filter fun e => decide (e.1 ≠ p) }
  | some t => { S with outs := S.outs ++ [(p, t)] }
theorem BkAt.dict {p b d : Addr} {ds : List Addr} {B : BkT} {ks : List (List Key × Addr × Value)} {o' : HO} (h : BkAt P w K H b d ds B) (hp : H p = some (dX P w p ks)) (n : p ∉ d :: ds) : BkAt P w K (upd H p o') b d ds B :=
  BkAt.fr2 h (Fr.dict hp (List.mem_singleton.mpr rfl)) (fun q => by obtain ⟨dx, _, h1, _⟩ := h; rw [List.mem_singleton.mp q] at h1; exact ins_dX h1 hp) (fun x hx q => n (List.mem_singleton.mp q ▸ hx)) (fun c dx d r hc q => by rw [List.mem_singleton.mp q] at hc; exact ins_dX hc hp) (fun a xs ha q => dX_no hp ha (fun _ z => by cases z) (List.mem_singleton.mp q))
theorem BkAt.ins {b d : Addr} {ds : List Addr} {B : BkT} (h : BkAt P w K H b d ds B) : ∃ dx, H b = some (.ins (He.ga K "Books") dx [("_bundles", .ref d)]) := by
  obtain ⟨dx, kvs, h1, _⟩ := h
  exact ⟨dx, h1⟩
theorem StQ.put {A : SA} {S : StM} {p : Rf} {o : Option Tr} (h : StQ P w K H A O S) : StQ P w K H A O (putOut S p o) := by
  cases o <;> exact ⟨h.t, h.ad, h.and_, h.sk, h.ud, h.und, h.cl⟩
/-- how the parts differ -/
structure SA.Ne (A : SA) : Prop where
  od : A.od ≠ A.t ∧ A.od ≠ A.ad ∧ A.od ≠ A.ud ∧ A.od ≠ A.cl
  odd : A.od ∉ A.d :: A.ds
  dd : ∀ x ∈ A.d :: A.ds, x ≠ A.t ∧ x ≠ A.ad ∧ x ≠ A.ud ∧ x ≠ A.cl
  t : A.t ≠ A.ad ∧ A.t ≠ A.ud ∧ A.t ≠ A.cl ∧ A.t ≠ A.b
  c : A.cl ≠ A.ad ∧ A.cl ≠ A.ud ∧ A.cl ≠ A.b ∧ A.ad ≠ A.ud ∧ A.ad ≠ A.b ∧ A.ud ≠ A.b ∧ A.od ≠ A.b
  bd : A.b ∉ A.d :: A.ds
theorem SA.ne {A : SA} (h : A.O.Nodup) : A.Ne := by
  simp only [SA.O, List.nodup_cons, List.mem_cons, not_or] at h
  obtain ⟨⟨a1, a2, a3, a4, a5, a6, a7⟩, ⟨b1, b2, b3, b4, b5, b6⟩, ⟨c1, c2, c3, c4, c5⟩, ⟨d1, d2, d3, d4⟩, ⟨e1, e2, e3⟩, ⟨f1, f2⟩, g1, g2⟩ := h
  refine ⟨⟨fun z => a2 z.symm, c1, c2, c3⟩, ?_, ?_, ⟨a3, a4, a5, a1⟩, ⟨fun z => d2 z.symm, fun z => e1 z.symm, fun z => b4 z.symm, d1, fun z => b2 z.symm, fun z => b3 z.symm, fun z => b1 z.symm⟩, ?_⟩
  · intro q
    rcases List.mem_cons.mp q with q | q
    · exact c4 q
    · exact c5 q
  · intro x hx
    rcases List.mem_cons.mp hx with rfl | hx
    · exact ⟨fun z => a6 z.symm, fun z => d3 z.symm, fun z => e2 z.symm, fun z => f1 z.symm⟩
    · exact ⟨fun z => a7 (z ▸ hx), fun z => d4 (z ▸ hx), fun z => e3 (z ▸ hx), fun z => f2 (z ▸ hx)⟩
  · intro q
    rcases List.mem_cons.mp q with q | q
    · exact b5 q
    · exact b6 q
theorem SA.nodup {A : SA} {ds' : List Addr} (h : A.O.Nodup) (h2 : (A.d :: ds').Nodup) (h3 : ∀ x ∈ ds', x ∈ A.ds ∨ H x = none) (h4 : ∀ x ∈ [A.t, A.b, A.od, A.ad, A.ud, A.cl, A.d], H x ≠ none) : ({ A with ds := ds' } : SA).O.Nodup := by
  have no : ∀ x ∈ [A.t, A.b, A.od, A.ad, A.ud, A.cl, A.d], x ∉ A.ds → x ∉ ds' := fun x hx hn q => (h3 x q).elim hn fun z => h4 x hx z
  simp only [SA.O, List.nodup_cons, List.mem_cons, not_or] at h h2 ⊢
  obtain ⟨⟨a1, a2, a3, a4, a5, a6, a7⟩, ⟨b1, b2, b3, b4, b5, b6⟩, ⟨c1, c2, c3, c4, c5⟩, ⟨d1, d2, d3, d4⟩, ⟨e1, e2, e3⟩, ⟨f1, f2⟩, g1, g2⟩ := h
  exact ⟨⟨a1, a2, a3, a4, a5, a6, no _ (by simp) a7⟩, ⟨b1, b2, b3, b4, b5, no _ (by simp) b6⟩, ⟨c1, c2, c3, c4, no _ (by simp) c5⟩, ⟨d1, d2, d3, no _ (by simp) d4⟩, ⟨e1, e2, no _ (by simp) e3⟩, ⟨f1, no _ (by simp) f2⟩, h2.1, h2.2⟩
theorem StAt.live {A : SA} {S : StM} {B : BkT} (h : StAt P w K H A S B) : ∀ x ∈ [A.t, A.b, A.od, A.ad, A.ud, A.cl, A.d], H x ≠ none := by
  obtain ⟨dx, hb⟩ := h.bk.ins
  obtain ⟨kv, h1, _⟩ := h.od
  obtain ⟨akv, h2, _⟩ := h.ad
  obtain ⟨cv, h3, _⟩ := h.cl
  obtain ⟨xs, hd⟩ := h.bk.dic A.d List.mem_cons_self
  intro x hx q
  simp only [List.mem_cons, List.not_mem_nil, or_false] at hx
  rcases hx with rfl | rfl | rfl | rfl | rfl | rfl | rfl
  · rw [h.t] at q; cases q
  · rw [hb] at q; cases q
  · rw [h1.2.choose_spec.1] at q; cases q
  · rw [h2] at q; cases q
  · rw [h.ud] at q; cases q
  · rw [h3] at q; cases q
  · rw [hd] at q; cases q
theorem SA.oV {A : SA} : ∀ x ∈ A.O, x ∈ A.V := fun x hx => List.mem_append_left _ hx
theorem SA.dO {A : SA} : ∀ x ∈ A.d :: A.ds, x ∈ A.O := fun x hx => by simp only [SA.O, List.mem_cons] at hx ⊢; simp [hx]
theorem SA.odO {A : SA} : ∀ x ∈ [A.od], x ∈ A.O := fun x hx => by rw [List.mem_singleton.mp hx]; simp [SA.O]
/-- books and outputs changed, the rest as it was -/
theorem StAt.books {A : SA} {S : StM} {B B' : BkT} {ds' : List Addr} {kv' : List (List Key × V)} {p : Rf} {o : Option Tr} {H1 : Hp} {ys : List (List Key × Addr × Value)} (h : StAt P w K H A S B) (e1 : H1 = upd H A.od (dX P w A.od ys)) (hD : DS P w K H1 A.od kv')
    (bk1 : BkAt P w K H1 A.b A.d A.ds B) (hk : ∀ a u, a ∉ A.d :: A.ds → H1 a = some u → H' a = some u) (hds : ∀ x ∈ ds', x ∈ A.ds ∨ H1 x = none) (bk : BkAt P w K H' A.b A.d ds' B') (bm : BM B' (putOut S p o).outs) (lb : B'.length + S.chg.length ≤ S.n) (lo : (putOut S p o).outs.length + S.chg.length ≤ S.n)
    (hP : Paired (OutR P w K A.V H) kv' (putOut S p o).outs) (ond : ((putOut S p o).outs.map (·.1)).Nodup) : Fr K A.O H H' ∧ (∀ x ∈ ds', x ∈ A.ds ∨ H x = none) ∧ StAt P w K H' { A with ds := ds' } (putOut S p o) B' := by
  subst e1
  obtain ⟨kv0, hD0, _⟩ := h.od
  have ne := SA.ne h.nd
  have f1 : Fr K [A.od] H (upd H A.od (dX P w A.od ys)) := Fr.dict hD0.2.choose_spec.1 (List.mem_singleton.mpr rfl)
  have f2 := Fr.books bk1 hk
  have fO := (f1.mono SA.odO).trans (f2.mono SA.dO)
  have hds2 : ∀ x ∈ ds', x ∈ A.ds ∨ H x = none := fun x hx => (hds x hx).imp id fun z => by
    by_cases e : x = A.od
    · rw [e, upd_same] at z; cases z
    · rwa [upd_ne e] at z
  have g : ∀ x ∈ ({ A with ds := ds' } : SA).O, x ∈ A.O ∨ H x = none := fun x hx => by
    simp only [SA.O, List.mem_cons] at hx ⊢
    rcases hx with hx | hx | hx | hx | hx | hx | hx | hx
    · simp [hx]
    · simp [hx]
    · simp [hx]
    · simp [hx]
    · simp [hx]
    · simp [hx]
    · simp [hx]
    · exact (hds2 x hx).imp (fun z => by simp [z]) id
  refine ⟨fO, hds2, ?_⟩
  have gV : ∀ x ∈ ({ A with ds := ds' } : SA).V, x ∈ A.V ∨ H x = none := fun x hx => (List.mem_append.mp hx).elim (fun q => (g x q).imp (SA.oV x) id) fun q => .inl (List.mem_append_right _ q)
  have q1 := (h.q.fr f1 (fun x q => SA.oV x (SA.odO x q)) (fun x hx => by rw [List.mem_singleton.mp hx]; exact ⟨ne.od.1, ne.od.2.1, ne.od.2.2.1, ne.od.2.2.2⟩) (fun x hx => .inl hx) : StQ P w K _ A A.V S)
  have g1 : ∀ x ∈ ({ A with ds := ds' } : SA).V, x ∈ A.V ∨ upd H A.od (dX P w A.od ys) x = none := fun x hx => (gV x hx).imp id fun z => by
    by_cases e : x = A.od
    · rw [e, hD0.2.choose_spec.1] at z; cases z
    · rwa [upd_ne e]
  have q2 := (q1.fr f2 (fun x q => SA.oV x (SA.dO x q)) ne.dd g1 : StQ P w K H' A ({ A with ds := ds' } : SA).V S)
  have q3 : StQ P w K H' { A with ds := ds' } ({ A with ds := ds' } : SA).V (putOut S p o) := by
    have := q2.put (p := p) (o := o)
    exact ⟨this.t, this.ad, this.and_, this.sk, this.ud, this.und, this.cl⟩
  have nd2 : (A.d :: ds').Nodup := by
    obtain ⟨_, _, _, _, _, n, _⟩ := bk
    exact n
  have chn : (putOut S p o).chg = S.chg ∧ (putOut S p o).n = S.n := by cases o <;> exact ⟨rfl, rfl⟩
  refine StAt.of q3 (SA.nodup h.nd nd2 hds2 h.live) bk bm (by rw [chn.1, chn.2]; exact lb) (by rw [chn.1, chn.2]; exact lo) ⟨kv', f2.ds ne.odd hD, Paired.mapP hP fun _ _ ⟨e, q⟩ => ⟨e, q.fr (fO.mono SA.oV) gV⟩⟩ ond (fun x hx => ⟨fun q => (by
    cases z : H x with
    | none => exact (h.zl x hx).1 z
    | some o =>
      rw [fO.keep x o (h.zl x hx).2 z] at q
      cases q), fun q => (g x q).elim (h.zl x hx).2 (h.zl x hx).1⟩)
/-- a state on its first day -/
def stZ (G : List (Int × Int)) (res : Int) : StM := ⟨0, res, 0, 0, 0, G.mapIdx fun i g => ((0, (i : Int)), ⟨[Sum.inr (Rd.S [107, 101, 121]), Sum.inl g.1], [((Rd.S [], 0), g.2)], []⟩), [], [], [], [], 0, G.length⟩
theorem StAt.liveO {A : SA} {S : StM} {B : BkT} (h : StAt P w K H A S B) : ∀ x ∈ A.O, H x ≠ none := fun x hx => by
  by_cases m : x ∈ A.ds
  · obtain ⟨xs, e⟩ := h.bk.dic x (List.mem_cons_of_mem _ m)
    rw [e]; exact fun z => by cases z
  · refine h.live x ?_
    simp only [SA.O, List.mem_cons] at hx
    simp only [List.mem_cons, List.not_mem_nil, or_false]
    rcases hx with h | h | h | h | h | h | h | h
    · simp [h]
    · simp [h]
    · simp [h]
    · simp [h]
    · simp [h]
    · simp [h]
    · simp [h]
    · exact absurd h m
theorem OuAt.new {H0 : Hp} {A : SA} {S : StM} {B : BkT} {o odx z c dd : Addr} {kk : List Key} {N : List (Ast × Int)} {dt : List Int} (h : StAt P w K H0 A S B) (ho : H0 o = none) (hc : H0 c = none) (hd : ∀ d, BdD K H' c d → H0 d = none) (hO : H' o = some (.ins (He.ga K "Output") odx [(("address" : Str), .ref z), (("bundle" : Str), .ref c), (("datum" : Str), .ref dd)])) (hz : SqT K H' z (kk.map kV)) (bd : BdS P w K H' c N) (hw : SqT K H' dd (dt.map V.int)) : OuAt P w K A.V H' (.ref o) ⟨kk, N, dt⟩ := by
  obtain ⟨dx, r, d, xs, h1, h2, h3, h4, h5⟩ := id bd
  have lv : ∀ x ∈ A.V, H0 x ≠ none := fun x hx => (List.mem_append.mp hx).elim (h.liveO x) (fun q => (h.zl x q).1)
  exact ⟨o, odx, z, c, dd, rfl, fun q => lv _ q ho, hO, hz, ⟨bd, dx, d, r, h1, fun q => lv _ q hc, fun q => lv _ q (hd _ ⟨dx, r, h1⟩)⟩, hw⟩
theorem nrm1 {q : Int} (h : 0 < q) : Nrm [((Rd.S [], 0), q)] := ⟨List.pairwise_singleton _ _, by simp, fun e he => by rw [List.mem_singleton.mp he]; show q ≠ 0; omega⟩
theorem mapIdx_take {α β : Type} {f : Nat → α → β} {l : List α} {i : Nat} {x : α} (h : l[i]? = some x) : (l.mapIdx f).take (i + 1) = (l.mapIdx f).take i ++ [f i x] := by
  rw [List.take_add_one, List.getElem?_mapIdx, h]
  rfl
theorem mapIdx_keys {G : List (Int × Int)} {res : Int} : (stZ G res).outs.map (·.1) = (List.range G.length).map fun (i : Nat) => ((0 : Int), (i : Int)) := by
  apply List.ext_getElem?
  intro i
  show ((G.mapIdx fun i g => (((0 : Int), (i : Int)), (⟨[Sum.inr (Rd.S [107, 101, 121]), Sum.inl g.1], [((Rd.S [], 0), g.2)], []⟩ : Tr))).map (·.1))[i]? = _
  rw [List.getElem?_map, List.getElem?_map, List.getElem?_mapIdx]
  by_cases h : i < G.length
  · rw [List.getElem?_range h, List.getElem?_eq_getElem h]; rfl
  · rw [List.getElem?_eq_none (by omega), List.getElem?_eq_none (by rw [List.length_range]; omega)]; rfl
theorem mapIdx_nd {G : List (Int × Int)} {res : Int} : ((stZ G res).outs.map (·.1)).Nodup := by
  rw [mapIdx_keys]
  refine List.pairwise_map.mpr ((List.nodup_range).imp fun {a b} n e => n ?_)
  have := (Prod.mk.inj e).2
  omega
theorem StAt.upto {A : SA} {S : StM} {B : BkT} {m : Nat} (h : StAt P w K H A S B) (hm : S.n ≤ m) : StAt P w K H A { S with n := m } B :=
  ⟨h.nd, h.t, h.bk, h.bm, Nat.le_trans h.lb hm, Nat.le_trans h.lo hm, h.od, h.ond, h.ad, h.and_, h.sk, h.ud, h.und, h.cl, h.zl⟩
/-- more to keep clear of -/
theorem StAt.addZ {A : SA} {S : StM} {B : BkT} {z : List Addr} (h : StAt P w K H A S B) (n : ∀ x ∈ z, H x = none) (s : Same H H') (l : ∀ x ∈ z, H' x ≠ none) : StAt P w K H' { A with z := A.z ++ z } S B := by
  have g : ∀ x ∈ ({ A with z := A.z ++ z } : SA).V, x ∈ A.V ∨ H x = none := fun x hx => by
    have hx2 : x ∈ A.O ++ (A.z ++ z) := hx
    rcases List.mem_append.mp hx2 with q | q
    · exact .inl (List.mem_append_left _ q)
    · rcases List.mem_append.mp q with q | q
      · exact .inl (List.mem_append_right _ q)
      · exact .inr (n x q)
  have h' := h.keep s
  have fs : Fr K A.V H H' := .of s
  exact { nd := h'.nd, t := h'.t, bk := h'.bk, bm := h'.bm, lb := h'.lb, lo := h'.lo, ond := h'.ond, ad := h'.ad, and_ := h'.and_, sk := h'.sk, ud := h'.ud, und := h'.und
          od := by
            obtain ⟨kv, h1, h2⟩ := h.od
            exact ⟨kv, Es.DS.keep s h1, Paired.mapP h2 fun _ _ ⟨e, q⟩ => ⟨e, q.fr fs g⟩⟩
          cl := by
            obtain ⟨xs, h1, h2⟩ := h.cl
            exact ⟨xs, s _ _ h1, Paired.mapP h2 fun _ _ q => q.fr fs g⟩
          zl := fun x hx => (List.mem_append.mp hx).elim (fun q => h'.zl x q) fun q => ⟨l x q, fun r => h.liveO x r (n x q)⟩ }
end
end Fa

set_option Elab.async false
set_option linter.all false
set_option maxRecDepth 100000
set_option maxHeartbeats 4000000
/-! The laws' own state: a dict of dicts and lists, with a state's value. -/
namespace Fa
open PySem PySem.Spec PyProof.Rows L2 Bd Es Dj Ef Re
structure MA where
  m : Addr
  o : Addr
  ac : Addr
  sk : Addr
  pt : Addr
  ck : Addr
  us : Addr
abbrev kO : Key := .inr (Rd.S [111, 117, 116, 112, 117, 116, 115])
abbrev kA : Key := .inr (Rd.S [97, 99, 99, 111, 117, 110, 116, 115])
abbrev kS : Key := .inr (Rd.S [115, 116, 97, 107, 101, 115])
abbrev kP : Key := .inr (Rd.S [112, 111, 116, 115])
abbrev kC : Key := .inr (Rd.S [99, 108, 111, 99, 107])
abbrev kU : Key := .inr (Rd.S [117, 115, 101, 100])
abbrev mdKv (D : MA) : List (Key × V) := [(kO, .ref D.o), (kA, .ref D.ac), (kS, .ref D.sk), (kP, .ref D.pt), (kC, .ref D.ck), (kU, .ref D.us)]
theorem mdV (D : MA) : valV (mdKv D) kO = some (.ref D.o) ∧ valV (mdKv D) kA = some (.ref D.ac) ∧ valV (mdKv D) kS = some (.ref D.sk) ∧ valV (mdKv D) kP = some (.ref D.pt) ∧ valV (mdKv D) kC = some (.ref D.ck) ∧ valV (mdKv D) kU = some (.ref D.us) := by
  have n : kO ≠ kA ∧ kO ≠ kS ∧ kO ≠ kP ∧ kO ≠ kC ∧ kO ≠ kU ∧ kA ≠ kS ∧ kA ≠ kP ∧ kA ≠ kC ∧ kA ≠ kU ∧ kS ≠ kP ∧ kS ≠ kC ∧ kS ≠ kU ∧ kP ≠ kC ∧ kP ≠ kU ∧ kC ≠ kU := by decide +kernel
  obtain ⟨a1, a2, a3, a4, a5, b2, b3, b4, b5, c3, c4, c5, d4, d5, e5⟩ := n
  refine ⟨valV_pos rfl, ?_, ?_, ?_, ?_, ?_⟩
  · rw [valV_neg a1]; exact valV_pos rfl
  · rw [valV_neg a2, valV_neg b2]; exact valV_pos rfl
  · rw [valV_neg a3, valV_neg b3, valV_neg c3]; exact valV_pos rfl
  · rw [valV_neg a4, valV_neg b4, valV_neg c4, valV_neg d4]; exact valV_pos rfl
  · rw [valV_neg a5, valV_neg b5, valV_neg c5, valV_neg d5, valV_neg e5]; exact valV_pos rfl
abbrev MoR (K : PySem.W.Frag) (H : Hp) (x : List Key × V) (e : Rf × Tr) : Prop := x.1 = eR e.1 ∧ Dp K H x.2 (encTr e.2)
/-- the law's own state at D has the value S -/
structure MdS (P : Program) (w : World) (K : PySem.W.Frag) (H : Hp) (D : MA) (S : StM) : Prop where
  m : H D.m = some (.dK (mdKv D))
  outs : ∃ kv, DS P w K H D.o kv ∧ Paired (MoR K H) kv S.outs
  ond : (S.outs.map (·.1)).Nodup
  accs : ∃ kv, H D.ac = some (.dK kv) ∧ Paired (AccR K H) kv S.accs
  and_ : (S.accs.map (·.1)).Nodup
  stk : ∃ xs, SqT K H D.sk xs ∧ DpAll K H xs (S.stk.map encP2)
  pots : H D.pt = some (.lst [.int S.fees, .int S.res, .int S.tre])
  clk : SqT K H D.ck [.int S.slot, .int S.epo]
  used : H D.us = some (.lst (S.used.map V.int))
  und : S.used.Nodup
section
variable {P : Program} {w : World} {K : PySem.W.Frag} {H H' : Hp} {D : MA} {S : StM} {R : V → Prop}
theorem MdS.g {k : Key} {v : V} (h : MdS P w K H D S) (e : valV (mdKv D) k = some v) (q : R v) : ∃ a v, V.ref D.m = .ref a ∧ DGet H a (kV k) (some v) ∧ R v :=
  ⟨D.m, v, rfl, by have := DGet.k (k := k) h.m; rwa [e] at this, q⟩
theorem MdS.gO (h : MdS P w K H D S) (q : R (.ref D.o)) : ∃ a v, V.ref D.m = .ref a ∧ DGet H a (.str (Rd.S [111, 117, 116, 112, 117, 116, 115])) (some v) ∧ R v := h.g (k := kO) (mdV D).1 q
theorem MdS.gA (h : MdS P w K H D S) (q : R (.ref D.ac)) : ∃ a v, V.ref D.m = .ref a ∧ DGet H a (.str (Rd.S [97, 99, 99, 111, 117, 110, 116, 115])) (some v) ∧ R v := h.g (k := kA) (mdV D).2.1 q
theorem MdS.gS (h : MdS P w K H D S) (q : R (.ref D.sk)) : ∃ a v, V.ref D.m = .ref a ∧ DGet H a (.str (Rd.S [115, 116, 97, 107, 101, 115])) (some v) ∧ R v := h.g (k := kS) (mdV D).2.2.1 q
theorem MdS.gP (h : MdS P w K H D S) (q : R (.ref D.pt)) : ∃ a v, V.ref D.m = .ref a ∧ DGet H a (.str (Rd.S [112, 111, 116, 115])) (some v) ∧ R v := h.g (k := kP) (mdV D).2.2.2.1 q
theorem MdS.gC (h : MdS P w K H D S) (q : R (.ref D.ck)) : ∃ a v, V.ref D.m = .ref a ∧ DGet H a (.str (Rd.S [99, 108, 111, 99, 107])) (some v) ∧ R v := h.g (k := kC) (mdV D).2.2.2.2.1 q
theorem MdS.gU (h : MdS P w K H D S) (q : R (.ref D.us)) : ∃ a v, V.ref D.m = .ref a ∧ DGet H a (.str (Rd.S [117, 115, 101, 100])) (some v) ∧ R v := h.g (k := kU) (mdV D).2.2.2.2.2 q
/-- what of D may change -/
def MA.O (D : MA) : List Addr := [D.m, D.o, D.ac, D.pt, D.us]
theorem MdS.fr {U : List Addr} (h : MdS P w K H D S) (f : Fr K U H H') (n : ∀ x ∈ D.O, x ∉ U) : MdS P w K H' D S := by
  have m : ∀ {x : Addr}, x ∈ D.O → x ∉ U := fun q => n _ q
  exact { h with
    m := f.keep _ _ (m (by simp [MA.O])) h.m
    outs := by
      obtain ⟨kv, h1, h2⟩ := h.outs
      exact ⟨kv, f.ds (m (by simp [MA.O])) h1, Paired.mapP h2 fun _ _ ⟨e, q⟩ => ⟨e, f.dp (encTr_nl _) q⟩⟩
    accs := by
      obtain ⟨kv, h1, h2⟩ := h.accs
      exact ⟨kv, f.keep _ _ (m (by simp [MA.O])) h1, Paired.mapP h2 fun _ _ ⟨e, y, e2, q⟩ => ⟨e, y, e2, f.tup _ _ q⟩⟩
    stk := by
      obtain ⟨xs, h1, h2⟩ := h.stk
      exact ⟨xs, f.tup _ _ h1, f.dpAll (nlMap encP2_nl) h2⟩
    pots := f.keep _ _ (m (by simp [MA.O])) h.pots
    clk := f.tup _ _ h.clk
    used := f.keep _ _ (m (by simp [MA.O])) h.used }
theorem MdS.keep (h : MdS P w K H D S) (s : Same H H') : MdS P w K H' D S := h.fr (U := []) (.of s) (by simp)
theorem MdS.live (h : MdS P w K H D S) : ∀ x ∈ D.O, H x ≠ none := fun x hx q => by
  obtain ⟨kv, h1, _⟩ := h.outs
  obtain ⟨av, h2, _⟩ := h.accs
  simp only [MA.O, List.mem_cons, List.not_mem_nil, or_false] at hx
  rcases hx with rfl | rfl | rfl | rfl | rfl
  · rw [h.m] at q; cases q
  · rw [h1.2.choose_spec.1] at q; cases q
  · rw [h2] at q; cases q
  · rw [h.pots] at q; cases q
  · rw [h.used] at q; cases q
theorem mo_look {kv : List (List Key × V)} {M : MdT} {p : Rf} (h : Paired (MoR K H) kv M) : (∃ t v, lookM M p = some t ∧ valV kv (eR p) = some v ∧ Dp K H v (encTr t)) ∨ (lookM M p = none ∧ valV kv (eR p) = none) := by
  induction h with
  | nil => exact .inr ⟨rfl, rfl⟩
  | @cons x e l1 l2 h t ih =>
    by_cases c : e.1 = p
    · exact .inl ⟨e.2, x.2, by simp only [lookM, if_pos c], valV_pos (h.1.trans (by rw [c])), h.2⟩
    · have c2 : ¬ x.1 = eR p := fun z => c (eR_inj (h.1.symm.trans z))
      simp only [lookM, if_neg c]
      rw [valV_neg c2]
      exact ih
theorem mo_keys {kv : List (List Key × V)} {M : MdT} (h : Paired (MoR K H) kv M) : kv.map (·.1) = (M.map (·.1)).map eR := by
  induction h with
  | nil => rfl
  | @cons x e l1 l2 h t ih => rw [List.map_cons, List.map_cons, List.map_cons, ih, h.1]
theorem keysR {ps : List Addr} {ks : List (List Key × V)} {R : List Rf} (h : KeysAt K H ps ks) (e : ks.map (·.1) = R.map eR) : DpAll K H (ps.map V.ref) (R.map encP2) := by
  unfold KeysAt at h
  induction h generalizing R with
  | nil =>
    cases R with
    | nil => exact .nil
    | cons r R => simp at e
  | @cons a b l1 l2 h t ih =>
    cases R with
    | nil => simp at e
    | cons r R =>
      rw [List.map_cons, List.map_cons, List.cons.injEq] at e
      rw [e.1] at h
      exact .cons (.tup (ds := [.int r.1, .int r.2]) h (.cons (.int _) (.cons (.int _) .nil))) (ih e.2)
/-- two values of a state that look the same -/
structure SEq (M S : StM) : Prop where
  fees : M.fees = S.fees
  res : M.res = S.res
  tre : M.tre = S.tre
  slot : M.slot = S.slot
  epo : M.epo = S.epo
  stk : M.stk = S.stk
  outs : M.outs.Perm S.outs
  accs : M.accs.Perm S.accs
  used : M.used.Perm S.used
theorem SEq.refl (S : StM) : SEq S S := ⟨rfl, rfl, rfl, rfl, rfl, rfl, .refl _, .refl _, .refl _⟩
theorem lookM_perm {M N : MdT} (h : M.Perm N) (hn : (M.map (·.1)).Nodup) (p : Rf) : lookM M p = lookM N p := by
  have hN : (N.map (·.1)).Nodup := (h.map _).nodup_iff.mp hn
  cases q : lookM N p with
  | some t => exact lookM_mem (x := (p, t)) hn (h.symm.subset (lookM_in q))
  | none =>
    cases r : lookM M p with
    | none => rfl
    | some t => rw [lookM_mem (x := (p, t)) hN (h.subset (lookM_in r))] at q; cases q
theorem lookA_mem {x : Int × (Int × Int)} : ∀ {M : List (Int × (Int × Int))}, (M.map (·.1)).Nodup → x ∈ M → lookA M x.1 = some x.2
  | [], _, h => by simp at h
  | y :: M, hn, h => by
    rw [List.map_cons, List.nodup_cons] at hn
    rcases List.mem_cons.mp h with rfl | q
    · simp only [lookA, if_true]
    · have c : y.1 ≠ x.1 := fun z => hn.1 (z ▸ List.mem_map_of_mem q)
      simp only [lookA, if_neg c]
      exact lookA_mem hn.2 q
theorem lookA_in {M : List (Int × (Int × Int))} {e : Int} {t : Int × Int} (h : lookA M e = some t) : (e, t) ∈ M := by
  induction M with
  | nil => cases h
  | cons y M ih =>
    simp only [lookA] at h
    split at h
    · rename_i c
      cases h
      rw [← c]; exact List.mem_cons_self
    · exact List.mem_cons_of_mem _ (ih h)
theorem lookA_perm {M N : List (Int × (Int × Int))} (h : M.Perm N) (hn : (M.map (·.1)).Nodup) (p : Int) : lookA M p = lookA N p := by
  have hN : (N.map (·.1)).Nodup := (h.map _).nodup_iff.mp hn
  cases q : lookA N p with
  | some t => exact lookA_mem (x := (p, t)) hn (h.symm.subset (lookA_in q))
  | none =>
    cases r : lookA M p with
    | none => rfl
    | some t => rw [lookA_mem (x := (p, t)) hN (h.subset (lookA_in r))] at q; cases q
theorem PicS.congr {M : StM} {d : PyData} (h : PicS M d) (e : SEq M S) (n1 : (M.outs.map (·.1)).Nodup) (n2 : (M.accs.map (·.1)).Nodup) : PicS S d := by
  obtain ⟨R, ks, us, h1, h2, h3, h4, h5, h6, rfl⟩ := h
  refine ⟨R, ks, us, h1, h2.trans (e.outs.map _), h3, h4.trans (e.accs.map _), h5, h6.trans e.used, ?_⟩
  rw [e.fees, e.res, e.tre, e.slot, e.epo, e.stk]
  have a1 : (fun r => PyData.tuple [encP2 r, encOu (lookM M.outs r)]) = fun r => PyData.tuple [encP2 r, encOu (lookM S.outs r)] := by
    funext r
    rw [lookM_perm e.outs n1]
  have a2 : (fun k => encAc k (lookA M.accs k)) = fun k => encAc k (lookA S.accs k) := by
    funext k
    rw [lookA_perm e.accs n2]
  rw [a1, a2]
/-! the picture as a whole -/
theorem encR_sh {e : Ast × Int} (h : PyData.strOk e.1.1 = true) : Sh 2 (encR e) := Sh.tuple fun d hd => by
  simp only [List.mem_cons, List.not_mem_nil, or_false] at hd
  rcases hd with rfl | rfl
  · refine Sh.tuple fun d hd => ?_
    simp only [List.mem_cons, List.not_mem_nil, or_false] at hd
    rcases hd with rfl | rfl
    · exact .str _ h
    · exact .int _ _
  · exact .int _ _
theorem encTr_sh {t : Tr} (h1 : OkR t.rw) (h2 : AdOk t.ad) : Sh 4 (encTr t) := Sh.tuple fun d hd => by
  simp only [List.mem_cons, List.not_mem_nil, or_false] at hd
  rcases hd with rfl | rfl | rfl
  · refine (Sh.tuple (n := 1) fun d hd => ?_).mono (by decide)
    obtain ⟨k, hk, rfl⟩ := List.mem_map.mp hd
    cases k with
    | inl i => exact .int _ _
    | inr s => exact .str _ (h2.2 s hk)
  · refine Sh.tuple fun d hd => ?_
    obtain ⟨e, he, rfl⟩ := List.mem_map.mp hd
    exact encR_sh (h1 e he)
  · refine (Sh.tuple (n := 1) fun d hd => ?_).mono (by decide)
    obtain ⟨k, hk, rfl⟩ := List.mem_map.mp hd
    exact .int _ _
theorem kDat_nd : ∀ {a : List Key}, ndAll (a.map kDat) = true
  | [] => rfl
  | .inl _ :: a => by simp only [List.map_cons, ndAll, kDat, nd, Bool.true_and]; exact kDat_nd
  | .inr _ :: a => by simp only [List.map_cons, ndAll, kDat, nd, Bool.true_and]; exact kDat_nd
theorem encTr_nd (t : Tr) : nd (encTr t) = true := by
  have h1 : ndAll (t.rw.map encR) = true := ndMap encR_nd
  have h2 : ndAll (t.dt.map PyData.int) = true := ndMap fun _ => rfl
  simp only [encTr, nd, ndAll, kDat_nd, h1, h2, Bool.and_self]
/-- the texts of the outputs are good ones -/
def OkM (M : MdT) : Prop := ∀ e ∈ M, OkR e.2.rw ∧ AdOk e.2.ad
theorem encOu_sh {M : MdT} (h : OkM M) (r : Rf) : Sh 4 (encOu (lookM M r)) := by
  cases q : lookM M r with
  | none => exact .none _
  | some t => exact encTr_sh (h _ (lookM_in q)).1 (h _ (lookM_in q)).2
theorem encOu_nd (o : Option Tr) : nd (encOu o) = true := by
  cases o with
  | none => rfl
  | some t => exact encTr_nd t
theorem ndT {ds : List PyData} (h : ∀ d ∈ ds, nd d = true) : nd (.tuple ds) = true := by simp only [nd]; exact ndAll_mem.mpr h
theorem encP2_sh1 (p : Rf) (n : Nat) : Sh (n + 1) (encP2 p) := Sh.tuple fun d hd => by
  rcases List.mem_cons.mp hd with rfl | hd
  · exact .int _ _
  · rw [List.mem_singleton.mp hd]; exact .int _ _
theorem PicS.sh {d : PyData} (h : PicS S d) (ok : OkM S.outs) : SeqAt.shaped d = true ∧ nd d = true := by
  obtain ⟨R, ks, us, _, _, _, _, _, _, rfl⟩ := h
  constructor
  · refine (Sh.tuple (n := 6) fun d hd => ?_).shaped (by decide)
    simp only [List.mem_cons, List.not_mem_nil, or_false] at hd
    rcases hd with rfl | rfl | rfl | rfl | rfl | rfl | rfl | rfl | rfl
    · refine Sh.tuple fun d hd => ?_
      obtain ⟨r, _, rfl⟩ := List.mem_map.mp hd
      refine Sh.tuple fun d hd => ?_
      simp only [List.mem_cons, List.not_mem_nil, or_false] at hd
      rcases hd with rfl | rfl
      · exact encP2_sh1 _ _
      · exact encOu_sh ok r
    · refine Sh.tuple fun d hd => ?_
      obtain ⟨r, _, rfl⟩ := List.mem_map.mp hd
      refine Sh.tuple fun d hd => ?_
      simp only [List.mem_cons, List.not_mem_nil, or_false] at hd
      rcases hd with rfl | rfl | rfl <;> exact .int _ _
    · refine Sh.tuple fun d hd => ?_
      obtain ⟨r, _, rfl⟩ := List.mem_map.mp hd
      exact encP2_sh1 _ _
    · exact .int _ _
    · exact .int _ _
    · exact .int _ _
    · exact .int _ _
    · exact .int _ _
    · refine Sh.tuple fun d hd => ?_
      obtain ⟨r, _, rfl⟩ := List.mem_map.mp hd
      exact .int _ _
  · refine ndT fun d hd => ?_
    simp only [List.mem_cons, List.not_mem_nil, or_false] at hd
    rcases hd with rfl | rfl | rfl | rfl | rfl | rfl | rfl | rfl | rfl
    · refine ndT fun d hd => ?_
      obtain ⟨r, _, rfl⟩ := List.mem_map.mp hd
      refine ndT fun d hd => ?_
      simp only [List.mem_cons, List.not_mem_nil, or_false] at hd
      rcases hd with rfl | rfl
      · rfl
      · exact encOu_nd _
    · refine ndT fun d hd => ?_
      obtain ⟨r, _, rfl⟩ := List.mem_map.mp hd
      rfl
    · refine ndT fun d hd => ?_
      obtain ⟨r, _, rfl⟩ := List.mem_map.mp hd
      rfl
    · rfl
    · rfl
    · rfl
    · rfl
    · rfl
    · refine ndT fun d hd => ?_
      obtain ⟨r, _, rfl⟩ := List.mem_map.mp hd
      rfl
theorem StAt.list {A : SA} {B : BkT} {p : Addr} {l l' : List V} (h : StAt P w K H A S B) (hp : H p = some (.lst l)) (n : p ∉ A.O) : StAt P w K (upd H p (.lst l')) A S B :=
  h.fr (Fr.list hp (List.mem_singleton.mpr rfl)) (fun x hx q => n (List.mem_singleton.mp q ▸ hx)) (fun c dx fs _ C e q => by rw [List.mem_singleton.mp q, hp] at e; cases e)
    (fun x hx => .inr fun xs e => by rw [List.mem_singleton.mp hx, hp] at e; cases e) (fun a xs e q => by rw [List.mem_singleton.mp q, hp] at e; cases e)
    (fun x hx q => by
      by_cases e : x = p
      · rw [e, upd_same] at q; cases q
      · rw [upd_ne e] at q; exact (h.zl x hx).1 q)
theorem MdS.list {p : Addr} {l : List V} {o : HO} (h : MdS P w K H D S) (hp : H p = some (.lst l)) (n : p ∉ D.O) : MdS P w K (upd H p o) D S :=
  h.fr (Fr.list hp (List.mem_singleton.mpr rfl)) (fun x hx q => n (List.mem_singleton.mp q ▸ hx))
theorem stZ_ok {G : List (Int × Int)} {res : Int} : OkM (stZ G res).outs := fun e he => by
  obtain ⟨i, hi, rfl⟩ := List.mem_mapIdx.mp he
  exact ⟨fun x hx => by rw [List.mem_singleton.mp hx]; exact strOk_S (by simp), adI (strOk_S (by decide))⟩
theorem stZ_look {G : List (Int × Int)} {res : Int} {i : Nat} {g : Int × Int} (h : G[i]? = some g) : lookM (stZ G res).outs (0, (i : Int)) = some ⟨[Sum.inr (Rd.S [107, 101, 121]), Sum.inl g.1], [((Rd.S [], 0), g.2)], []⟩ := by
  refine lookM_mem (x := (((0 : Int), (i : Int)), _)) mapIdx_nd (List.mem_iff_getElem?.mpr ⟨i, ?_⟩)
  show (G.mapIdx _)[i]? = _
  rw [List.getElem?_mapIdx, h]
  rfl
theorem keys_srt (n : Nat) : SrtO.Srtd ltII ((List.range n).map fun (i : Nat) => ((0 : Int), (i : Int))) := by
  refine List.pairwise_map.mpr (List.pairwise_lt_range.imp fun {a b} h => ?_)
  exact ltII_no.mpr fun z => by
    rcases z with z | z
    · simp at z
    · have := z.2
      simp only at this
      omega
def sumG (G : List (Int × Int)) : Int := (G.map (·.2)).sum
theorem sumG_take {G : List (Int × Int)} {i : Nat} {g : Int × Int} (h : G[i]? = some g) : sumG (G.take (i + 1)) = sumG (G.take i) + g.2 := by
  unfold sumG
  rw [List.take_add_one, h]
  simp
theorem stZ_tot {G : List (Int × Int)} {res : Int} (p : Ast) : tot (sumR (stZ G res).outs ((stZ G res).outs.map (·.1))) p = tot [((Rd.S [], 0), sumG G)] p := by
  rw [sumR_tot, List.map_map]
  have e1 : (stZ G res).outs.map ((fun e => tot (((lookM (stZ G res).outs e).map (·.rw)).getD []) p) ∘ (·.1)) = (stZ G res).outs.map fun x => tot x.2.rw p :=
    List.map_congr_left fun x hx => by simp only [Function.comp, lookM_mem mapIdx_nd hx, Option.map_some, Option.getD_some]
  rw [e1]
  have e2 : ((stZ G res).outs.map fun x => tot x.2.rw p) = G.map fun g => tot [((Rd.S [], 0), g.2)] p := by
    apply List.ext_getElem?
    intro i
    show ((G.mapIdx _).map _)[i]? = _
    rw [List.getElem?_map, List.getElem?_map, List.getElem?_mapIdx]
    cases G[i]? <;> rfl
  rw [e2]
  unfold sumG
  clear e1 e2
  induction G with
  | nil => simp [tot]
  | cons g G ih =>
    simp only [List.map_cons, List.sum_cons, tot] at ih ⊢
    rw [ih]
    split <;> omega
theorem tot_add {q p : Ast} {x y : Int} : tot [(q, x)] p + tot [(q, y)] p = tot [(q, x + y)] p := by
  by_cases h : q = p <;> simp [tot, h]
theorem tot_zero {q p : Ast} : tot [(q, (0 : Int))] p = 0 := by
  by_cases h : q = p <;> simp [tot, h]
end
end Fa

set_option Elab.async false
set_option linter.all false
set_option maxRecDepth 100000
set_option maxHeartbeats 4000000
/-! Changes of a state, made and taken back. -/
namespace Fa
open PySem PySem.Spec PyProof.Rows L2 Bd Es Dj Ef Re
/-- what a change puts in the place of what is there -/
inductive Act
  | out (p : Rf) (o : Option Tr)
  | acc (k : Int) (o : Option (Int × Int))
  | pot (n : Nat) (v : Int)
  | clk (s e : Int)
  | stk (rows : List (Int × Int))
  | use (n : Int) (b : Bool)
def setA (l : List (Int × (Int × Int))) (k : Int) : Option (Int × Int) → List (Int × (Int × Int))
  | none => l.filter fun e => decide (e.1 ≠ k)
  | some q => if (l.any fun e => decide (e.1 = k)) = true then l.map (fun e => if e.1 = k then (e.1, q) else e) else l ++ [(k, q)]
def potV (S : StM) : Nat → Int
  | 0 => S.fees
  | 1 => S.res
  | _ => S.tre
def putPot (S : StM) (v : Int) : Nat → StM
  | 0 => { S with fees := v }
  | 1 => { S with res := v }
  | _ => { S with tre := v }
def putA (S : StM) : Act → StM
  | .out p o => putOut S p o
  | .acc k o => { S with accs := setA S.accs k o }
  | .pot n v => putPot S v n
  | .clk s e => { S with slot := s, epo := e }
  | .stk rows => { S with stk := rows }
  | .use n true => { S with used := S.used ++ [n] }
  | .use n false => { S with used := S.used.filter fun x => decide (x ≠ n) }
/-- what was there -/
def befA (S : StM) : Act → Chg
  | .out p _ => .out p (lookM S.outs p)
  | .acc k _ => .acc k (lookA S.accs k)
  | .pot n _ => .pot n (potV S n)
  | .clk _ _ => .clk S.slot S.epo
  | .stk _ => .stk S.stk
  | .use n _ => .usd n
def logA (S : StM) (c : Chg) : StM := { S with chg := S.chg ++ [c] }
/-- a change: noted, and made -/
def doA (S : StM) (a : Act) : StM := putA (logA S (befA S a)) a
/-- what takes a change back -/
def undo : Chg → Act
  | .out p o => .out p o
  | .acc k o => .acc k o
  | .pot n v => .pot n v
  | .clk s e => .clk s e
  | .stk rows => .stk rows
  | .usd n => .use n false
def kindA : Act → Str
  | .out _ _ => "output"
  | .acc _ _ => "account"
  | .pot _ _ => "pot"
  | .clk _ _ => "clock"
  | .stk _ => "stakes"
  | .use _ _ => "used"
/-- the item and what is put there -/
def ActAt (P : Program) (w : World) (K : PySem.W.Frag) (O : List Addr) (H : Hp) (it v : V) : Act → Prop
  | .out p o => (∃ r, it = .ref r ∧ SqT K H r [.int p.1, .int p.2]) ∧ match o with | none => v = .non | some t => OuAt P w K O H v t
  | .acc k o => it = .int k ∧ match o with | none => v = .non | some q => P2At K H v q
  | .pot n x => n < 3 ∧ it = .str (potName n) ∧ v = .int x
  | .clk s e => it = .non ∧ P2At K H v (s, e)
  | .stk rows => it = .non ∧ ∃ q xs, v = .ref q ∧ SqT K H q xs ∧ DpAll K H xs (rows.map encP2)
  | .use n b => it = .int n ∧ v = .bl b
/-- what a change needs -/
def OkA (B : BkT) (S : StM) : Act → Prop
  | .out p none => p ∈ S.outs.map (·.1) ∧ B.length + S.chg.length + 1 ≤ S.n ∧ S.outs.length + S.chg.length + 1 ≤ S.n
  | .out p (some t) => p ∉ S.outs.map (·.1) ∧ t.rw.length ≤ 3 ∧ B.length + S.chg.length + 1 ≤ S.n ∧ S.outs.length + S.chg.length + 1 ≤ S.n
  | .use n true => n ∉ S.used
  | .use n false => n ∈ S.used
  | _ => True
section
variable {P : Program} {w : World} {K : PySem.W.Frag} {H H' : Hp} {O O' : List Addr}
theorem setA_some {l : List (Int × (Int × Int))} {k : Int} {q : Int × Int} : setA l k (some q) = if (l.any fun e => decide (e.1 = k)) = true then l.map (fun e => if e.1 = k then (e.1, q) else e) else l ++ [(k, q)] := rfl
theorem setA_keys {l : List (Int × (Int × Int))} {k : Int} {o : Option (Int × Int)} (h : (l.map (·.1)).Nodup) : ((setA l k o).map (·.1)).Nodup := by
  cases o with
  | none => exact List.Nodup.sublist ((List.filter_sublist (l := l)).map _) h
  | some q =>
    rw [setA_some]
    split
    · rw [List.map_map, show ((·.1) ∘ fun e : Int × (Int × Int) => if e.1 = k then (e.1, q) else e) = (·.1) from funext fun e => by
        show (if e.1 = k then (e.1, q) else e).1 = e.1
        split <;> rfl]
      exact h
    · rename_i c
      rw [List.map_append, List.nodup_append]
      refine ⟨h, by simp, fun a ha b hb => ?_⟩
      rw [List.map_singleton, List.mem_singleton] at hb
      subst hb
      intro e
      obtain ⟨x, hx, ex⟩ := List.mem_map.mp ha
      exact c (List.any_eq_true.mpr ⟨x, hx, by simp [ex, e]⟩)
theorem drop_accs {kv : List (Key × V)} {M : List (Int × (Int × Int))} {k : Int} (h : Paired (AccR K H) kv M) : Paired (AccR K H) (L2.dropK kv (.inl k)) (setA M k none) := by
  unfold setA
  induction h with
  | nil => exact Paired.nil
  | @cons x y ks L h t ih =>
    by_cases c : y.1 = k
    · rw [show L2.dropK (x :: ks) (.inl k) = L2.dropK ks (.inl k) from List.filter_cons_of_neg (by simp [h.1, c]), List.filter_cons_of_neg (by simp [c])]
      exact ih
    · rw [show L2.dropK (x :: ks) (.inl k) = x :: L2.dropK ks (.inl k) from List.filter_cons_of_pos (by rw [h.1]; simpa using c), List.filter_cons_of_pos (by simpa using c)]
      exact Paired.cons h ih
theorem any_accs {kv : List (Key × V)} {M : List (Int × (Int × Int))} {k : Int} (h : Paired (AccR K H) kv M) : (kv.any fun e => decide (e.1 = (.inl k : Key))) = M.any fun e => decide (e.1 = k) := by
  induction h with
  | nil => rfl
  | @cons x y ks L h t ih =>
    rw [List.any_cons, List.any_cons, ih, h.1]
    congr 1
    simp
theorem put_accs {kv : List (Key × V)} {M : List (Int × (Int × Int))} {k : Int} {v : V} {q : Int × Int} (h : Paired (AccR K H) kv M) (hv : P2At K H v q) : Paired (AccR K H) (putK kv (.inl k) v) (setA M k (some q)) := by
  rw [setA_some]
  unfold putK
  rw [any_accs h]
  split
  · rename_i c
    clear c
    induction h with
    | nil => exact Paired.nil
    | @cons x y ks L h t ih =>
      refine Paired.cons ?_ ih
      by_cases c : y.1 = k
      · show AccR K H (if x.1 = .inl k then (x.1, v) else x) (if y.1 = k then (y.1, q) else y)
        rw [if_pos (by rw [h.1, c]), if_pos c]
        exact ⟨h.1, hv⟩
      · show AccR K H (if x.1 = .inl k then (x.1, v) else x) (if y.1 = k then (y.1, q) else y)
        rw [if_neg (by rw [h.1]; simpa using c), if_neg c]
        exact h
  · exact Paired.snoc h ⟨rfl, hv⟩
theorem StAt.frp {A : SA} {S : StM} {B : BkT} {p : Addr} {o : HO} (h : StAt P w K H A S B) (hp : p ∈ [A.t, A.ad, A.ud, A.cl]) : Fr K [p] H (upd H p o) := by
  have m : p ∈ [p] := List.mem_singleton.mpr rfl
  simp only [List.mem_cons, List.not_mem_nil, or_false] at hp
  rcases hp with rfl | rfl | rfl | rfl
  · exact Fr.ins h.t m
  · obtain ⟨kv, h1, _⟩ := h.ad
    exact Fr.dk h1 m
  · exact Fr.dk h.ud m
  · obtain ⟨xs, h1, _⟩ := h.cl
    exact Fr.list h1 m
/-- one of the parts that are neither books nor outputs has changed -/
theorem StAt.qup {A : SA} {S S' : StM} {B : BkT} {sk' p : Addr} {o : HO} (h : StAt P w K H A S B) (hp : p ∈ [A.t, A.ad, A.ud, A.cl]) (q : StQ P w K (upd H p o) { A with sk := sk' } A.V S') (ho : S'.outs = S.outs) (lb : B.length + S'.chg.length ≤ S'.n) (lo : S'.outs.length + S'.chg.length ≤ S'.n) :
    Fr K A.O H (upd H p o) ∧ StAt P w K (upd H p o) { A with sk := sk' } S' B := by
  have f := h.frp (o := o) hp
  have ne := SA.ne h.nd
  have pO : ∀ x ∈ [p], x ∈ A.O := fun x hx => by
    rw [List.mem_singleton.mp hx]
    simp only [List.mem_cons, List.not_mem_nil, or_false] at hp
    rcases hp with rfl | rfl | rfl | rfl <;> simp [SA.O]
  have pi := h.inO p (pO p (List.mem_singleton.mpr rfl))
  have nb : A.b ∉ [p] := fun z => by
    have z := List.mem_singleton.mp z
    simp only [List.mem_cons, List.not_mem_nil, or_false] at hp
    rcases hp with rfl | rfl | rfl | rfl
    · exact ne.t.2.2.2 z.symm
    · exact ne.c.2.2.2.2.1 z.symm
    · exact ne.c.2.2.2.2.2.1 z.symm
    · exact ne.c.2.2.1 z.symm
  have nod : A.od ∉ [p] := fun z => by
    have z := List.mem_singleton.mp z
    simp only [List.mem_cons, List.not_mem_nil, or_false] at hp
    rcases hp with rfl | rfl | rfl | rfl
    · exact ne.od.1 z
    · exact ne.od.2.1 z
    · exact ne.od.2.2.1 z
    · exact ne.od.2.2.2 z
  have nd : ∀ x ∈ A.d :: A.ds, x ∉ [p] := fun x hx z => by
    have z := List.mem_singleton.mp z
    have := ne.dd x hx
    simp only [List.mem_cons, List.not_mem_nil, or_false] at hp
    rcases hp with rfl | rfl | rfl | rfl
    · exact this.1 z
    · exact this.2.1 z
    · exact this.2.2.1 z
    · exact this.2.2.2 z
  have fV : Fr K A.V H (upd H p o) := f.mono fun x hx => SA.oV x (pO x hx)
  refine ⟨f.mono pO, StAt.of q h.nd (h.bk.fr2 f nb nd (fun c dx d r q z => ?_) fun a xs e z => ?_) (by rw [ho]; exact h.bm) lb lo ?_ (by rw [ho]; exact h.ond) fun x hx => ⟨fun z => ?_, (h.zl x hx).2⟩⟩
  · rw [List.mem_singleton.mp z] at q
    exact pi.2 _ _ (.inl rfl) _ q
  · rw [List.mem_singleton.mp z] at e
    exact pi.1 _ e
  · obtain ⟨kv, h1, h2⟩ := h.od
    rw [ho]
    exact ⟨kv, f.ds nod h1, Paired.mapP h2 fun _ _ ⟨e, q⟩ => ⟨e, q.fr fV fun x hx => .inl hx⟩⟩
  · have hx2 : x ≠ p := fun e => (h.zl x hx).2 (e ▸ pO p (List.mem_singleton.mpr rfl))
    rw [upd_ne hx2] at z
    exact (h.zl x hx).1 z
/-- what of these parts stays -/
theorem StAt.mv {A : SA} {S : StM} {B : BkT} {p : Addr} {o : HO} (h : StAt P w K H A S B) (hp : p ∈ [A.t, A.ad, A.ud, A.cl]) :
    (∀ {kv M}, Paired (AccR K H) kv M → Paired (AccR K (upd H p o)) kv M) ∧ (∀ {v q}, P2At K H v q → P2At K (upd H p o) v q) ∧ (∀ {sk} {rows : List (Int × Int)}, (∃ xs, SqT K H sk xs ∧ DpAll K H xs (rows.map encP2)) → ∃ xs, SqT K (upd H p o) sk xs ∧ DpAll K (upd H p o) xs (rows.map encP2)) ∧ (∀ {v c}, ChAt P w K A.V H v c → ChAt P w K A.V (upd H p o) v c) := by
  have f := h.frp (o := o) hp
  have fV : Fr K A.V H (upd H p o) := f.mono fun x hx => SA.oV x (by
    rw [List.mem_singleton.mp hx]
    simp only [List.mem_cons, List.not_mem_nil, or_false] at hp
    rcases hp with rfl | rfl | rfl | rfl <;> simp [SA.O])
  refine ⟨fun q => Paired.mapP q fun _ _ ⟨e, y, e2, q⟩ => ⟨e, y, e2, f.tup _ _ q⟩, fun ⟨y, e, q⟩ => ⟨y, e, f.tup _ _ q⟩, fun ⟨xs, a, b⟩ => ⟨xs, f.tup _ _ a, f.dpAll (nlMap encP2_nl) b⟩, fun q => q.fr fV fun x hx => .inl hx⟩
theorem StAt.upT {A : SA} {S S' : StM} {B : BkT} {sk' : Addr} (h : StAt P w K H A S B) (e : S'.outs = S.outs ∧ S'.accs = S.accs ∧ S'.used = S.used ∧ S'.chg = S.chg ∧ S'.n = S.n) (hs : ∃ xs, SqT K H sk' xs ∧ DpAll K H xs (S'.stk.map encP2)) :
    Fr K A.O H (upd H A.t (stO K { A with sk := sk' } S')) ∧ StAt P w K (upd H A.t (stO K { A with sk := sk' } S')) { A with sk := sk' } S' B := by
  have ne := SA.ne h.nd
  have hp : A.t ∈ [A.t, A.ad, A.ud, A.cl] := by simp
  obtain ⟨m1, m2, m3, m4⟩ := h.mv (o := stO K { A with sk := sk' } S') hp
  obtain ⟨e1, e2, e3, e4, e5⟩ := e
  obtain ⟨kv, a1, a2⟩ := h.ad
  obtain ⟨xs, c1, c2⟩ := h.cl
  refine h.qup hp ⟨upd_same, ⟨kv, (upd_ne ne.t.1.symm).trans a1, by rw [e2]; exact m1 a2⟩, by rw [e2]; exact h.and_, m3 hs, ?_, by rw [e3]; exact h.und, ⟨xs, (upd_ne ne.t.2.2.1.symm).trans c1, by rw [e4]; exact Paired.mapP c2 fun _ _ q => m4 q⟩⟩ e1 (by rw [e4, e5]; exact h.lb) (by rw [e1, e4, e5]; exact h.lo)
  rw [e3]
  exact (upd_ne ne.t.2.1.symm).trans h.ud
theorem StAt.upL {A : SA} {S S' : StM} {B : BkT} {ys : List V} {ys' : List Chg} (h : StAt P w K H A S B) (hy : Paired (ChAt P w K A.V H) ys ys') (e1 : S' = { S with chg := ys' }) (lb : B.length + ys'.length ≤ S.n) (lo : S.outs.length + ys'.length ≤ S.n) :
    Fr K A.O H (upd H A.cl (.lst ys)) ∧ StAt P w K (upd H A.cl (.lst ys)) A S' B := by
  subst e1
  have ne := SA.ne h.nd
  have hp : A.cl ∈ [A.t, A.ad, A.ud, A.cl] := by simp
  obtain ⟨m1, m2, m3, m4⟩ := h.mv (o := .lst ys) hp
  obtain ⟨kv, a1, a2⟩ := h.ad
  exact h.qup (sk' := A.sk) hp ⟨(upd_ne ne.t.2.2.1).trans h.t, ⟨kv, (upd_ne ne.c.1.symm).trans a1, m1 a2⟩, h.and_, m3 h.sk, (upd_ne ne.c.2.1.symm).trans h.ud, h.und, ⟨ys, upd_same, Paired.mapP hy fun _ _ q => m4 q⟩⟩ rfl lb lo
theorem StAt.upA {A : SA} {S : StM} {B : BkT} {kv' : List (Key × V)} {M : List (Int × (Int × Int))} (h : StAt P w K H A S B) (hk : Paired (AccR K H) kv' M) (nd : (M.map (·.1)).Nodup) :
    Fr K A.O H (upd H A.ad (.dK kv')) ∧ StAt P w K (upd H A.ad (.dK kv')) A { S with accs := M } B := by
  have ne := SA.ne h.nd
  have hp : A.ad ∈ [A.t, A.ad, A.ud, A.cl] := by simp
  obtain ⟨m1, m2, m3, m4⟩ := h.mv (o := .dK kv') hp
  obtain ⟨xs, c1, c2⟩ := h.cl
  exact h.qup (sk' := A.sk) hp ⟨(upd_ne ne.t.1).trans h.t, ⟨kv', upd_same, m1 hk⟩, nd, m3 h.sk, (upd_ne ne.c.2.2.2.1.symm).trans h.ud, h.und, ⟨xs, (upd_ne ne.c.1).trans c1, Paired.mapP c2 fun _ _ q => m4 q⟩⟩ rfl h.lb h.lo
theorem StAt.upU {A : SA} {S : StM} {B : BkT} {U : List Int} (h : StAt P w K H A S B) (nd : U.Nodup) :
    Fr K A.O H (upd H A.ud (.dK (U.map fun n => (.inl n, .bl true)))) ∧ StAt P w K (upd H A.ud (.dK (U.map fun n => (.inl n, .bl true)))) A { S with used := U } B := by
  have ne := SA.ne h.nd
  have hp : A.ud ∈ [A.t, A.ad, A.ud, A.cl] := by simp
  obtain ⟨m1, m2, m3, m4⟩ := h.mv (o := .dK (U.map fun n => (.inl n, .bl true))) hp
  obtain ⟨kv, a1, a2⟩ := h.ad
  obtain ⟨xs, c1, c2⟩ := h.cl
  exact h.qup (sk' := A.sk) hp ⟨(upd_ne ne.t.2.1).trans h.t, ⟨kv, (upd_ne ne.c.2.2.2.1).trans a1, m1 a2⟩, h.and_, m3 h.sk, upd_same, nd, ⟨xs, (upd_ne ne.c.2.1).trans c1, Paired.mapP c2 fun _ _ q => m4 q⟩⟩ rfl h.lb h.lo
theorem used_put {U : List Int} {n : Int} (h : n ∉ U) : putK (U.map fun n => ((.inl n : Key), V.bl true)) (.inl n) (.bl true) = (U ++ [n]).map fun n => ((.inl n : Key), V.bl true) := by
  unfold putK
  rw [if_neg, List.map_append]
  · rfl
  · intro c
    obtain ⟨x, hx, e⟩ := List.any_eq_true.mp c
    obtain ⟨m, hm, rfl⟩ := List.mem_map.mp hx
    have e2 : m = n := by simpa using e
    exact h (e2 ▸ hm)
theorem used_drop {U : List Int} {n : Int} : L2.dropK (U.map fun n => ((.inl n : Key), V.bl true)) (.inl n) = (U.filter fun x => decide (x ≠ n)).map fun n => ((.inl n : Key), V.bl true) := by
  unfold L2.dropK
  rw [List.filter_map]
  congr 1
  refine List.filter_congr fun x _ => ?_
  simp
/-- a change's note tells what takes it back -/
theorem ChAt.act {A : SA} {v : V} {c : Chg} (h : ChAt P w K O H v c) (hc : ∀ n x, c = .pot n x → n < 3) : ∃ z it u, v = .ref z ∧ SqT K H z [.str (kindA (undo c)), it, u] ∧ ActAt P w K O H it u (undo c) := by
  cases c with
  | out r b =>
    obtain ⟨z, q, u, h1, h2, h3, h4⟩ := h
    exact ⟨z, _, u, h1, h2, ⟨q, rfl, h3⟩, h4⟩
  | acc k b =>
    obtain ⟨z, u, h1, h2, h4⟩ := h
    exact ⟨z, _, u, h1, h2, rfl, h4⟩
  | pot n x =>
    obtain ⟨z, h1, h2⟩ := h
    exact ⟨z, _, _, h1, h2, hc n x rfl, rfl, rfl⟩
  | clk s e =>
    obtain ⟨z, u, h1, h2, h3⟩ := h
    exact ⟨z, _, u, h1, h2, rfl, h3⟩
  | stk rows =>
    obtain ⟨z, q, xs, h1, h2, h3, h4⟩ := h
    exact ⟨z, _, _, h1, h2, rfl, q, xs, rfl, h3, h4⟩
  | usd n =>
    obtain ⟨z, h1, h2⟩ := h
    exact ⟨z, _, _, h1, h2, rfl, rfl⟩
end
end Fa
namespace Fa
open PySem PySem.Spec PyProof.Rows L2 Bd Es Dj Ef Re
/-- the parts that may stand elsewhere behind a change -/
def UpA (H : Hp) (A A' : SA) : Prop := ∃ ds sk, A' = { A with ds := ds, sk := sk } ∧ ∀ x ∈ ds, x ∈ A.ds ∨ H x = none
def putName : Act → Str
  | .out _ _ => "_put_output"
  | .acc _ _ => "_put_account"
  | .pot _ _ => "_put_pot"
  | .clk _ _ => "_put_clock"
  | .stk _ => "_put_stakes"
  | .use _ _ => "_put_used"
end Fa
namespace Fa
open PySem PySem.Spec PyProof.Rows L2 Bd Es Dj Ef Re
theorem lookA_no {k : Int} : ∀ {l : List (Int × (Int × Int))}, lookA l k = none → setA l k none = l
  | [], _ => rfl
  | x :: l, h => by
    by_cases c : x.1 = k
    · simp only [lookA, if_pos c] at h; cases h
    · simp only [lookA, if_neg c] at h
      show (x :: l).filter (fun e => decide (e.1 ≠ k)) = x :: l
      rw [List.filter_cons_of_pos (by simpa using c)]
      exact congrArg (x :: ·) (lookA_no h)
end Fa
namespace Fa
open PySem PySem.Spec PyProof.Rows L2 Bd Es Dj Ef Re
section
variable {P : Program} {w : World} {K : PySem.W.Frag} {H H1 H' : Hp} {O O' : List Addr}
theorem ActAt.fr {it v : V} {a : Act} (h : ActAt P w K O H it v a) (f : Fr K O H H') : ActAt P w K O H' it v a := by
  have g : ∀ x ∈ O, x ∈ O ∨ H x = none := fun x q => .inl q
  cases a with
  | out p o =>
    obtain ⟨⟨r, e, hr⟩, h2⟩ := h
    refine ⟨⟨r, e, f.tup _ _ hr⟩, ?_⟩
    cases o with
    | none => exact h2
    | some t => exact OuAt.fr h2 f g
  | acc k o =>
    refine ⟨h.1, ?_⟩
    cases o with
    | none => exact h.2
    | some q =>
      obtain ⟨z, e, hz⟩ := h.2
      exact ⟨z, e, f.tup _ _ hz⟩
  | pot n x => exact h
  | clk s e =>
    obtain ⟨e1, z, e2, hz⟩ := h
    exact ⟨e1, z, e2, f.tup _ _ hz⟩
  | stk rows =>
    obtain ⟨e, q, xs, e2, h1, h2⟩ := h
    exact ⟨e, q, xs, e2, f.tup _ _ h1, f.dpAll (nlMap encP2_nl) h2⟩
  | use n b => exact h
theorem kind_bef {S : StM} {a : Act} : kindA (undo (befA S a)) = kindA a := by cases a <;> rfl
theorem ActAt.ch {z : Addr} {it v : V} {c : Chg} (hz : SqT K H z [.str (kindA (undo c)), it, v]) (h : ActAt P w K O H it v (undo c)) : ChAt P w K O H (.ref z) c := by
  cases c with
  | out r b =>
    obtain ⟨⟨q, rfl, hq⟩, h2⟩ := h
    exact ⟨z, q, v, rfl, hz, hq, h2⟩
  | acc k b =>
    obtain ⟨rfl, h2⟩ := h
    exact ⟨z, v, rfl, hz, h2⟩
  | pot n x =>
    obtain ⟨_, rfl, rfl⟩ := h
    exact ⟨z, rfl, hz⟩
  | clk s e =>
    obtain ⟨rfl, h2⟩ := h
    exact ⟨z, v, rfl, hz, h2⟩
  | stk rows =>
    obtain ⟨rfl, q, xs, rfl, h1, h2⟩ := h
    exact ⟨z, q, xs, rfl, hz, h1, h2⟩
  | usd n =>
    obtain ⟨rfl, rfl⟩ := h
    exact ⟨z, rfl, hz⟩
theorem UpA.back {A A' : SA} (h : UpA H1 A A') (f : Fr K O H H1) (l : ∀ x ∈ O, H1 x ≠ none) : UpA H A A' := by
  obtain ⟨ds, sk, e, hd⟩ := h
  refine ⟨ds, sk, e, fun x hx => (hd x hx).imp id fun z => ?_⟩
  cases e2 : H x with
  | none => rfl
  | some o =>
    by_cases c : x ∈ O
    · exact absurd z (l x c)
    · rw [f.keep x o c e2] at z; cases z
end
end Fa

set_option Elab.async false
set_option linter.all false
set_option maxRecDepth 100000
set_option maxHeartbeats 4000000
/-! What a class of errors must say, as a test. -/
namespace Bd
open PySem PySem.Spec PyProof.Rows L2
def oxB (K : PySem.W.Frag) (C : Addr) : Bool := match K.lookup C with
  | some ⟨.type "type", _, .cls cd, sl⟩ => (match cd.mro, sl.toList with
    | .ref C' :: bm, [_, _, _, _, some (.builtin n), _] => C' == C && n == "ValueError.__new__" && !cd.hasDel && cd.hasDict && PySem.HandSPX.refsVE bm
    | _, _ => false)
  | _ => false
def xcB (K : PySem.W.Frag) (C fI : Addr) : Bool := oxB K C && (decide (PySem.W.findIn K (.ref C) "__setattr__" = some (some (.builtin "object.__setattr__"))) && (decide (PySem.W.subIn K (.ref C) (.type "BaseException") = some true) && (decide (PySem.W.typeIn K (.ref C) = some (.type "type")) &&
  (PySem.W.keepIn K (.ref C) && (decide (PySem.W.findIn K (.ref C) "__init__" = some (some (.ref fI))) && (decide (PySem.W.typeIn K (.ref fI) = some (.type "function")) && (decide (PySem.W.findIn K (.ref C) "__getattribute__" = some (some (.builtin "BaseException.__getattribute__"))) &&
  (decide (PySem.W.findIn K (.ref C) "__getattr__" = some none) && (PySem.W.hasDictIn K C && (decide (PySem.W.findIn K (.ref C) "__class__" = some (some (.builtin "object.__class__"))) && (decide (PySem.W.mroIn K C (.type "object") = some true) && decide (PySem.W.findIn K (.ref C) "what" = some none))))))))))))
end Bd

set_option Elab.async false
set_option linter.all false
set_option maxRecDepth 100000
set_option maxHeartbeats 4000000
/-! Errors of own classes as plain values: made, asked for their class, their field read. -/
namespace Bd
open PySem PySem.Spec PyProof.Rows L2
/-- the class says what an error class over ValueError must say, with fI as the __init__ that it has from its base -/
structure XC (K : PySem.W.Frag) (C fI : Addr) : Prop where
  o : OexC K C
  iC : PySem.W.findIn K (.ref C) "__init__" = some (some (.ref fI))
  tI : PySem.W.typeIn K (.ref fI) = some (.type "function")
  x : ExcC K C
  nw : PySem.W.findIn K (.ref C) "what" = some none
theorem oxB_ok {K : PySem.W.Frag} {C : Addr} (q : oxB K C = true) : ∃ nm q N bs bm sn sub ab col dd k0 k1 k2 k3 k5, K.lookup C = some (excClassObj nm q C N bs bm true sn sub ab col dd k0 k1 k2 k3 k5 "ValueError.__new__") ∧ PySem.HandSPX.refsVE bm = true := by
  unfold oxB at q
  split at q
  · rename_i dd cd sl ho
    split at q
    · rename_i C' bm k0 k1 k2 k3 n k5 hm hs
      simp only [Bool.and_eq_true, beq_iff_eq, Bool.not_eq_true'] at q
      obtain ⟨⟨⟨⟨rfl, rfl⟩, hdel⟩, hhd⟩, hve⟩ := q
      obtain ⟨nm, bs, mro, ns, qn, hd, sn, sub, ab, col, del⟩ := cd
      dsimp only at hm hdel hhd
      subst hm hdel hhd
      have hsl : sl = #[k0, k1, k2, k3, some (.builtin "ValueError.__new__"), k5] := by
        obtain ⟨l⟩ := sl
        simp only at hs
        rw [hs]
      subst hsl
      exact ⟨nm, qn, ns, bs, bm, sn, sub, ab, col, dd, k0, k1, k2, k3, k5, ho, hve⟩
    · cases q
  · cases q
theorem sp_class {K : PySem.W.Frag} : PySem.W.specialIn K (.builtin "object.__class__") "__get__" = some (some (.builtin "getset_descriptor.__get__")) := by kernel_rfl
theorem tk_class {K : PySem.W.Frag} : PySem.W.takesIn K (.builtin "object.__class__") = some true := by kernel_rfl
theorem xcB_ok {K : PySem.W.Frag} {C fI : Addr} (h : xcB K C fI = true) : XC K C fI := by
  unfold xcB at h
  simp only [Bool.and_eq_true, decide_eq_true_eq] at h
  obtain ⟨h1, h2, h3, h4, h5, h6, h7, h8, h9, h10, h11, h12, h13⟩ := h
  exact ⟨⟨oxB_ok h1, h2, h3, h4, h5⟩, h6, h7, ⟨h8, h9, h3, h10, h11, sp_class, tk_class, h12⟩, h13⟩
/-- an error of class C stands at a, with the field what -/
def ErrAt (H : Hp) (a C : Addr) (x : V) : Prop := ∃ d : Addr, H a = some (exo a C (some d)) ∧ H d = some (exd d [("what", x)])
section
variable {X : Cx} {CX : CXT} {k : Nat} {C fI : Addr} {fd : FuncData} {ps : List Str} {sp : Sp} {dvs : List V} {ds : List Value} {E : XK} {x : Str} {p pos : Pos} {e : Expr} {es : List Expr} {ta : TA}
def tMkE (C : Addr) (sp : Sp) (dvs : List V) (E : XK) (ta : TA) : TE := fun σ H Q => ta σ H fun vs H1 => vs.length ≤ 1000 ∧ ∀ a, H1 a = none → sp (.ref a :: (vs ++ dvs)) (upd H1 a (exo a C none)) (fun v H2 => v = .non ∧ Q (.ref a) H2) E
theorem run_mkE {pins : List (Addr × Obj)} {σ : L2.St} {H1 : Hp} {s1 : Shared} {Q : VK} {us : List Value} {vs : List V} (T : XC X.K C fI) (F1 : FnOk X.prog X.w X.K X.mg X.base CX k fI fd ps sp) (hr : Room (k + 1) X.A) (hb : Binds X.K fd ps ds) (hd : Vals dvs ds) (hx : Passes CX X E)
    (I1 : Inv X pins σ H1 s1) (r1 : Vals vs us) (hz : vs.length ≤ 1000)
    (q1 : ∀ a, H1 a = none → sp (.ref a :: (vs ++ dvs)) (upd H1 a (exo a C none)) (fun v H2 => v = .non ∧ Q (.ref a) H2) E) : wpAny (model X.prog X.w) X.A (call (.ref C) us) (EP X pins σ Q) X.xe s1 := by
  obtain ⟨nm, q, N, bs, bm, sn, sub, ab, col, dd, k0, k1, k2, k3, k5, hC, hbm⟩ := T.o.cls
  obtain ⟨hp, g, dr, tk, os⟩ := s1
  have hsz : hp.objs.size ≤ hp.objs.size + 1 := Nat.le_succ _
  have hn : H1 (hp.objs.size + 1) = none := I1.hok.fresh hsz
  have hq := q1 (hp.objs.size + 1) hn
  have kk : ∀ b o, hp.get? b = some o → ((hp.push (PySem.W.kdv_tup us)).push (PySem.HandSPX.excO C hp.objs.size)).get? b = some o := fun b o e => Heap.get?_push_of_some _ (Heap.get?_push_of_some _ e)
  have hget : ((hp.push (PySem.W.kdv_tup us)).push (PySem.HandSPX.excO C hp.objs.size)).get? (hp.objs.size + 1) = some (PySem.HandSPX.excO C hp.objs.size) := by heap_get
  have I2 : Inv X pins σ (upd H1 (hp.objs.size + 1) (exo (hp.objs.size + 1) C none)) ⟨(hp.push (PySem.W.kdv_tup us)).push (PySem.HandSPX.excO C hp.objs.size), g, dr, tk, os⟩ :=
    I1.laid (t' := tk) (a := hp.objs.size + 1) (o := exo (hp.objs.size + 1) C none) (h' := (hp.push (PySem.W.kdv_tup us)).push (PySem.HandSPX.excO C hp.objs.size)) kk hsz (exo_ok hget)
  have r2 : Vals (V.ref (hp.objs.size + 1) :: (vs ++ dvs)) (Value.ref (hp.objs.size + 1) :: (us ++ ds)) := .cons rfl (r1.append hd)
  have hl : (Value.ref (hp.objs.size + 1) :: us ++ ds).length = ps.length := by
    have e := r2.length
    rw [F1.len _ _ _ _ hq] at e
    exact e.symm
  have hus : us.length ≤ sizeLine := by
    rw [← Paired.length r1, sizeLine_eq]
    omega
  refine wpAny_call (PySem.HandSPX.call_own F.excBase_ValueError (fun Y => PySem.HandSPX.refsVE_contains Y bm hbm) (I1.kIn _ _ hC) (PySem.W.looks_findIn I1.kIn T.iC) (fun self => PySem.W.bind_fn I1.kIn self T.tI) hus
    (codeAny_mono (F1.run _ X.stack _ _ ⟨Value.ref (hp.objs.size + 1) :: us, []⟩ (Value.ref (hp.objs.size + 1) :: (us ++ ds)) _ _ E (hr.make C us []) (I2.env0.make C us []) (hb _ (Value.ref (hp.objs.size + 1) :: us) I2.kIn hl) r2 hq) fun r s' hq' => ?_))
  cases r with
  | error er => exact hx pins σ _ _ er s' I2 hq'
  | ok fl =>
    cases fl with
    | ret u =>
      obtain ⟨v, H', I3, rv, ev, q3⟩ := I2.after hq'
      subst ev
      exact ⟨rv, ⟨V.ref (hp.objs.size + 1), H', I3, rfl, q3⟩⟩
    | next => exact False.elim hq'
    | brk => exact False.elim hq'
    | cont => exact False.elim hq'
theorem pe_mkE (T : XC X.K C fI) (F1 : FnOk X.prog X.w X.K X.mg X.base CX k fI fd ps sp) (hr : Room (k + 1) X.A) (hg : Gl X x) (hm : X.mg x = some (.ref C)) (hb : Binds X.K fd ps ds) (hd : Vals dvs ds) (hx : Passes CX X E) (ha : PA X (e :: es) ta)
    (hdb : (x == ("__debug__" : Str)) = false := by decide) (he : starEach (e :: es) X.env = (false, eval e X.env) :: starEach es X.env := by rfl) (hpl : (backTo pos (starEach es X.env)).any (·.1) = false := by rfl) :
    PE X (.Call (.Name x p) (e :: es) [] pos) (tMkE C sp dvs E ta) := by
  refine ⟨fun pins s σ H Q I h => ?_⟩
  refine wpAny_Call_Name_kw (ld_glob I hg hm ?_ hdb)
  refine PySem.W.callWith_K (h₀ := X.base) I.ok.mod.kin T.o.kC (thn (ha.run pos pins s σ H _ I h) fun us s1 ⟨vs, H1, I1, r1, hz, q1⟩ => ⟨I1.kIn, ?_⟩) he hpl
  exact run_mkE T F1 hr hb hd hx I1 r1 hz q1
theorem pe_mkE0 (T : XC X.K C fI) (F1 : FnOk X.prog X.w X.K X.mg X.base CX k fI fd ps sp) (hr : Room (k + 1) X.A) (hg : Gl X x) (hm : X.mg x = some (.ref C)) (hb : Binds X.K fd ps ds) (hd : Vals dvs ds) (hx : Passes CX X E)
    (hdb : (x == ("__debug__" : Str)) = false := by decide) : PE X (.Call (.Name x p) [] [] pos) (tMkE C sp dvs E tNil) := by
  refine ⟨fun pins s σ H Q I h => ?_⟩
  refine wpAny_Call_Name_kw (ld_glob I hg hm ?_ hdb)
  obtain ⟨hz, q1⟩ := h
  exact PySem.W.callWith_K0 I.kIn T.o.kC (run_mkE (us := []) T F1 hr hb hd hx I .nil hz q1)
end
section
variable {X : Cx} {pins : List (Addr × Obj)} {σ : L2.St} {H : Hp} {s : Shared}
theorem err_at {a C d : Addr} {fs : List (Str × V)} (I : Inv X pins σ H s) (e : H a = some (exo a C (some d))) (ed : H d = some (exd d fs)) :
    ∃ (oe od : Obj) (mA : Str → Option Value), PySem.W.InstAt s.heap a oe C (some od) ∧ (∀ name, PySem.W.lookIn name od = some (mA name)) ∧ ∀ f, RelO (fs.lookup f) (mA f) := by
  obtain ⟨t1, he⟩ := exo_at I.hok e
  obtain ⟨mA, hns, hr⟩ := exd_at I.hok ed
  obtain ⟨od, ho, hl⟩ := lookIn_ns hns
  exact ⟨_, od, mA, ⟨he, rfl, rfl, ho⟩, hl, hr⟩
theorem kitE {K : PySem.W.Frag} {x D : Addr} {ox od : Obj} (T : ExcC K D) : PySem.W.KitX K (.ref x) (.ref D) (fun h => PySem.W.InstAt h x ox D (some od)) where
  ty := fun _ _ _ I => I.type
  it := fun _ _ X _ => by
    obtain ⟨cdD, hcD, _⟩ := PySem.W.any_some T.hd
    unfold PySem.W.clsIn at hcD
    split at hcD
    · rename_i c' d' cd' sl' ho
      intro A' Q' E' s' k q
      unfold isType loadHead
      exact wpAny_bind (wpAny_loadPart (k _ _ (X _ _ ho)) (wpAny_pure q))
    · cases hcD
  ne := fun h tp dd its n sl X htp => by
    obtain ⟨cdD, hcD, _⟩ := PySem.W.any_some T.hd
    refine Bool.eq_false_iff.mpr fun q => ?_
    have e : D = tp := Value.ref.inj (beq_iff_eq.mp q)
    subst e
    unfold PySem.W.clsIn at hcD
    split at hcD
    · rename_i c' d' cd' sl' ho
      have z := (X _ _ ho).symm.trans htp
      cases z
    · cases hcD
  ca := fun X I k => PySem.W.kx_classE X I T.hg T.hk T.hs (PySem.W.findObj_dataE (by obtain ⟨cd, hc, _⟩ := PySem.W.any_some T.hd; rw [hc]; rfl) T.ha T.hn T.ht) T.hm k
/-- isinstance(e, c), e such an error -/
def rIsE (K : PySem.W.Frag) : List V → Hp → VK → Prop := fun xs H Q => ∃ (a C : Addr) (c w : V) (u : Value) (b : Bool), xs = [.ref a, c] ∧ ClsV c u ∧ ErrAt H a C w ∧ ExcC K C ∧ PySem.W.kitOne K (.ref C) u = some b ∧ Q (.bl b) H
theorem call_isE : CallR X (.builtin "isinstance") (rIsE X.K) := by
  intro pins s σ H xs us Q I r h
  obtain ⟨a, C, c, w, u, b, rfl, k, ⟨d, ea, ed⟩, T, e, q⟩ := h
  obtain ⟨u1, u2, rfl, r1, r2⟩ := vals2 r
  have e2 := k.eq r2
  subst e2
  cases (show u1 = Value.ref a from r1)
  obtain ⟨oe, od, mA, J, _, _⟩ := err_at I ea ed
  exact PySem.W.kia_one (kitE (ox := oe) (od := od) T) I.kIn J e (fun z => nomatch z) fun tk => ⟨.bl b, H, I.tok tk, rfl, q⟩
/-- e.what -/
def tErrF (K : PySem.W.Frag) (te : TE) : TE := fun σ H Q => te σ H fun x H1 => ∃ (a C : Addr) (v : V), x = .ref a ∧ ErrAt H1 a C v ∧ ExcC K C ∧ PySem.W.findIn K (.ref C) "what" = some none ∧ Q v H1
theorem pe_errF {e : Expr} {te : TE} {pos : Pos} (he : PE X e te) (hb : attributeBase e "what" X.env (eval e X.env) = eval e X.env := by rfl) : PE X (.Attribute e "what" pos) (tErrF X.K te) := by
  refine ⟨fun pins s σ H Q I h => ?_⟩
  refine attr_of hb (thn (he.run pins s σ H _ I h) fun u s1 hh => ?_)
  obtain ⟨x, H1, I1, rx, a, C, v, ex, ⟨d, ea, ed⟩, T, hno, q⟩ := hh
  subst ex
  obtain rfl : u = Value.ref a := rx
  obtain ⟨oe, od, mA, J, hl, hr⟩ := err_at I1 ea ed
  obtain ⟨u, hu, ru⟩ := RelO.some_of (v := v) (o := mA "what") (hr "what")
  exact HandSPX.exc_get I1.kIn J T.hg T.hk T.hs (PySem.W.findObj_own T.hd hno rfl (by rw [hl, hu])) (handed_of ru) ⟨v, H1, I1.tok _, ru, q⟩
end
end Bd

set_option Elab.async false
set_option linter.all false
set_option maxRecDepth 100000
set_option maxHeartbeats 4000000
/-! isinstance of a caught error that has a dict (the suite of an except clause). -/
namespace Bd
open PySem PySem.Spec PyProof.Rows L2
/-- isinstance(e, c), e the error that the suite holds: its class D, its dict d -/
def rIsS (K : PySem.W.Frag) (D a d : Addr) : List V → Hp → VK → Prop := fun xs H Q => ∃ (c : V) (u : Value) (fs : List (Str × V)) (b : Bool), xs = [.ref a, c] ∧ ClsV c u ∧ H d = some (.xd fs) ∧ PySem.W.kitOne K (.ref D) u = some b ∧ Q (.bl b) H
theorem call_isS {X : Cx} {a D d : Addr} {oe : Obj} {pn : List (Addr × Obj)} (C : ExcC X.K D) (hz : Zc (.ref D) (some d) oe) (hf : ∃ vs, oe.data = .fields vs) : CallR (X.suite a ((a, oe) :: pn)) (.builtin "isinstance") (rIsS X.K D a d) := by
  intro pins s σ H xs us Q I r h
  obtain ⟨c, u, fs, b, rfl, k, ed, e, q⟩ := h
  obtain ⟨u1, u2, rfl, r1, r2⟩ := vals2 r
  have e2 := k.eq r2
  subst e2
  cases (show u1 = Value.ref a from r1)
  obtain ⟨hget, _⟩ := I.pin (a, oe) (List.mem_append.mpr (.inl List.mem_cons_self))
  have hx : ObjOk X.prog X.w H s.heap d (.xd fs) := I.hok d _ ed
  obtain ⟨mA, hns, hr⟩ := hx
  obtain ⟨od, ho, hl⟩ := lookIn_ns hns
  obtain ⟨vs, hv⟩ := hf
  have J : PySem.W.InstAt s.heap a oe D (some od) := ⟨hget, hz.1, by unfold PySem.W.notCls; rw [hv] <;> rfl, by rw [hz.2]; exact ho⟩
  exact PySem.W.kia_one (kitE (ox := oe) (od := od) C) I.kIn J e (fun z => nomatch z) fun tk => ⟨.bl b, H, I.tok tk, rfl, q⟩
end Bd

set_option Elab.async false
set_option linter.all false
set_option maxRecDepth 100000
set_option maxHeartbeats 4000000
/-! Errors that methods raise, and the suites that catch them. -/
namespace Bd
open PySem PySem.Spec PyProof.Rows L2
section
variable {X : Cx} {CX : CXT} {k : Nat} {f C : Addr} {fd : FuncData} {ps : List Str} {sp : Sp} {E : L2.St → XK} {m : Str} {pos apos : Pos} {e o : Expr} {es : List Expr} {ta : TE} {t : TA}
/-- o.m(e, ..) where what is raised is wished for at the caller's slots -/
def tMethS (C : Addr) (m : Str) (sp : Sp) (E : L2.St → XK) (ta : TE) (t : TA) : TE := fun σ H Q => ta σ H fun x H1 => ∃ a dx fs, x = .ref a ∧ H1 a = some (.ins C dx fs) ∧ fs.lookup m = none ∧ t σ H1 fun vs H2 => sp (x :: vs) H2 Q (E σ)
theorem pe_methS {pl : Sem Bool} (he : PE X o ta) (c : Cls X.K C) (hm : Meth X.K C m f) (F : FnOk X.prog X.w X.K X.mg X.base CX k f fd ps sp) (hr : Room k X.A) (hb : Binds X.K fd ps []) (hx : ∀ σ, PassesAt CX X σ (E σ)) (ha : PA X (e :: es) t)
    (hst : starEach (e :: es) X.env = (false, eval e X.env) :: starEach es X.env := by rfl) (hpl : (backTo pos (starEach es X.env)).any (·.1) = false := by rfl)
    (ht : eval (.Call (.Attribute o m apos) (e :: es) [] pos) X.env = (do
      let ov ← eval o X.env
      standAt apos.atName
      let (f, first) ← holding [ov] (getMethod ov m pl)
      callWith pos f first (backTo pos (starEach (e :: es) X.env)) (backToKw pos (keywordEach [] X.env))) := by rfl) :
    PE X (.Call (.Attribute o m apos) (e :: es) [] pos) (tMethS C m sp E ta t) := by
  refine ⟨fun pins s σ H Q I h => ?_⟩
  refine PySem.W.methodCall_KW (pl := pl) (thn (he.run pins s σ H _ I h) fun u s1 ⟨x, H1, I1, rx, a, dx, fs, ex, ea, l, q⟩ => ?_) ht
  subst ex
  obtain rfl : u = Value.ref a := rx
  refine getmeth_ok I1 ea c hm l ?_
  refine PySem.W.callWith_K (first := [.ref a]) (h₀ := X.base) I.ok.mod.kin hm.kp (thn (ha.run pos pins s1 σ H1 _ I1 q) fun us s2 ⟨vs, H2, I2, r, q2⟩ => ⟨I2.kIn, ?_⟩) hst hpl
  exact run_fnS (us := .ref a :: us) (vs := .ref a :: vs) F hr hb (hx σ) I2 (.cons rfl r) q2
end
/-- isinstance(e, c), e the caught error whose class and dict the reading tells -/
def rIsG (K : PySem.W.Frag) (a : Addr) (cls : Value) (d : Option Addr) : List V → Hp → VK → Prop := fun xs H Q => ∃ D dd, cls = .ref D ∧ d = some dd ∧ ExcC K D ∧ rIsS K D a dd xs H Q
theorem call_isG {X : Cx} {a : Addr} {cls : Value} {d : Option Addr} {oe : Obj} {pn : List (Addr × Obj)} (hz : Zc cls d oe) (hf : ∃ vs, oe.data = .fields vs) : CallR (X.suite a ((a, oe) :: pn)) (.builtin "isinstance") (rIsG X.K a cls d) := by
  intro pins s σ H xs us Q I r h
  obtain ⟨D, dd, rfl, rfl, C, h⟩ := h
  exact call_isS C hz hf pins s σ H xs us Q I r h
/-- e.f, e the caught error whose class and dict the reading tells -/
def tXg (K : PySem.W.Frag) (a : Addr) (cls : Value) (d : Option Addr) (f : Str) (te : TE) : TE := fun σ H Q => te σ H fun x H1 => x = .ref a ∧ ∃ (C dd : Addr) (fs : List (Str × V)) (v : V), cls = .ref C ∧ d = some dd ∧ XfC K C ∧ PySem.W.findIn K (.ref C) f = some none ∧ H1 dd = some (.xd fs) ∧ fs.lookup f = some v ∧ Q v H1
theorem pe_xg {X : Cx} {a : Addr} {oe : Obj} {cls : Value} {d : Option Addr} {pn : List (Addr × Obj)} {e : Expr} {te : TE} {pos : Pos} {n : Str}
    (hz : Zc cls d oe) (hf : ∃ vs, oe.data = .fields vs) (he : PE (X.suite a ((a, oe) :: pn)) e te) (hb : attributeBase e n X.env (eval e X.env) = eval e X.env := by rfl) :
    PE (X.suite a ((a, oe) :: pn)) (.Attribute e n pos) (tXg X.K a cls d n te) := by
  refine ⟨fun pins s σ H Q I h => ?_⟩
  refine attr_of hb (thn (he.run pins s σ H _ I h) fun u s1 hh => ?_)
  obtain ⟨x, H1, I1, rx, ex, C, dd, fs, v, ec, ed, T, hno, ea, l, q⟩ := hh
  subst ex
  obtain rfl : u = Value.ref a := rx
  subst ec
  subst ed
  obtain ⟨ha, _⟩ := I1.pin (a, oe) (List.mem_append_left _ List.mem_cons_self)
  obtain ⟨vs, hd⟩ := hf
  have hx : ObjOk X.prog X.w H1 s1.heap dd (.xd fs) := I1.hok dd _ ea
  obtain ⟨mA, hns, hr⟩ := hx
  obtain ⟨od, ho, hl⟩ := lookIn_ns hns
  obtain ⟨u, hu, ru⟩ := RelO.some_of (v := v) (o := mA n) (by rw [← l]; exact hr n)
  have J : PySem.W.InstAt s1.heap a oe C (some od) := ⟨ha, hz.1, by unfold PySem.W.notCls; rw [hd] <;> rfl, by rw [hz.2]; exact ho⟩
  exact HandSPX.exc_get I1.kIn J T.ga T.gg T.exC (PySem.W.findObj_own T.hdC hno rfl (by rw [hl, hu])) (handed_of ru) ⟨v, H1, I1.tok _, ru, q⟩
theorem ExcC.xf {K : PySem.W.Frag} {C : Addr} (h : ExcC K C) : XfC K C := ⟨h.hg, h.hk, h.hs, h.hd⟩
/-- a class's error at its way out: E (.ref C) (some d) .. with what = v -/
def tMkX (C : Addr) (sp : Sp) (ta : TA) : L2.St → Hp → XK → Prop := tMkO C sp [] ta
end Bd

namespace Fa
open PySem PySem.Spec PyProof.Rows L2 Bd Es Dj Ef Re
/-- the errors of a state, and their families -/
def kin (n m : Str) : Bool := decide (m = "KeptError") || (decide (n = m) || (decide (m = "StateError") && !decide (n = "KeptError")))
def efBN (N : List Str) (K : PySem.W.Frag) : Bool := N.all fun n => xcB K (He.ga K n) (He.fAd K ("KeptError", some "__init__")) && N.all fun m => decide (PySem.W.kitOne K (.ref (He.ga K n)) (.ref (He.ga K m)) = some (kin n m)) && decide (PySem.W.exmOne K (.ref (He.ga K n)) (.ref (He.ga K m)) = some (kin n m))
structure StErr (N : List Str) (K : PySem.W.Frag) (mg : Str → Option Value) : Prop where
  m : ∀ n ∈ N, mg n = some (.ref (He.ga K n))
  b : efBN N K = true
section
variable {N : List Str} {K : PySem.W.Frag} {mg : Str → Option Value} {H H' : Hp}
theorem StErr.x (W : StErr N K mg) (n : Str) (h : n ∈ N) : XC K (He.ga K n) (He.fAd K ("KeptError", some "__init__")) := by
  have q := List.all_eq_true.mp W.b n h
  rw [Bool.and_eq_true] at q
  exact xcB_ok q.1
theorem StErr.kit (W : StErr N K mg) (n m : Str) (h : n ∈ N) (h2 : m ∈ N) : PySem.W.kitOne K (.ref (He.ga K n)) (.ref (He.ga K m)) = some (kin n m) ∧ PySem.W.exmOne K (.ref (He.ga K n)) (.ref (He.ga K m)) = some (kin n m) := by
  have q := List.all_eq_true.mp W.b n h
  rw [Bool.and_eq_true] at q
  have r := List.all_eq_true.mp q.2 m h2
  simp only [Bool.and_eq_true, decide_eq_true_eq] at r
  exact r
/-- the way out by an error of the class n that names x -/
def ErrW (K : PySem.W.Frag) (n : Str) (x : V) (H : Hp) (E : XK) : Prop := ∀ d H', Same H H' → H d = none → H' d = some (.xd [("what", x)]) → E (.ref (He.ga K n)) (some d) H'
theorem del_back {a dx : Addr} {C : Addr} {x : V} (ha : H a = none) (hne : dx ≠ a) : upd (del (upd (upd (upd H a (exo a C none)) dx (exd dx [("what", x)])) a (exo a C (some dx))) a) dx (.xd [("what", x)]) = upd H dx (.xd [("what", x)]) := by
  funext b
  by_cases c : b = dx
  · subst c
    rw [upd_same, upd_same]
  · rw [upd_ne c, upd_ne c]
    by_cases c2 : b = a
    · subst c2
      rw [ha]
      unfold del
      simp
    · unfold del
      simp only [if_neg c2]
      rw [upd_ne c2, upd_ne c, upd_ne c2]
end
end Fa
namespace Fa
open PySem PySem.Spec PyProof.Rows L2 Bd Es Dj Ef Re
section
variable {P : Program} {w : World} {K : PySem.W.Frag} {H H' : Hp} {O : List Addr} {B : BkT} {S : StM} {p : Rf} {t : Tr} {c : Chg}
theorem log_len : (logA S c).chg.length = S.chg.length + 1 := by show (S.chg ++ [c]).length = _; rw [List.length_append]; rfl
theorem okOut (h : p ∉ S.outs.map (·.1)) (h3 : t.rw.length ≤ 3) (hn : B.length + S.chg.length + 2 ≤ S.n ∧ S.outs.length + S.chg.length + 2 ≤ S.n) : OkA B (logA S c) (.out p (some t)) := by
  refine ⟨h, h3, ?_, ?_⟩
  · rw [log_len]; exact hn.1
  · rw [log_len]; exact hn.2
theorem okRem (h : p ∈ S.outs.map (·.1)) (hn : B.length + S.chg.length + 2 ≤ S.n ∧ S.outs.length + S.chg.length + 2 ≤ S.n) : OkA B (logA S c) (.out p none) := by
  refine ⟨h, ?_, ?_⟩
  · rw [log_len]; exact hn.1
  · rw [log_len]; exact hn.2
theorem befOut {r : Addr} (h : p ∉ S.outs.map (·.1)) (hr : SqT K H r [.int p.1, .int p.2]) {o : Option Tr} : ActAt P w K O H (.ref r) .non (undo (befA S (.out p o))) := by
  show ActAt P w K O H (.ref r) .non (.out p (lookM S.outs p))
  rw [lookM_no h]
  exact ⟨⟨r, rfl, hr⟩, rfl⟩
theorem befRem {r : Addr} {v : V} (h : lookM S.outs p = some t) (hr : SqT K H r [.int p.1, .int p.2]) (hv : OuAt P w K O H v t) {o : Option Tr} : ActAt P w K O H (.ref r) v (undo (befA S (.out p o))) := by
  show ActAt P w K O H (.ref r) v (.out p (lookM S.outs p))
  rw [h]
  exact ⟨⟨r, rfl, hr⟩, hv⟩
end
end Fa
namespace Re
open PySem PySem.Spec PyProof.Rows L2
theorem dnotinS {σ : L2.St} {H : Hp} {Q : VK} {ty td : TE} (k : ty σ H fun y H1 => td σ H1 fun x H2 => ∃ a o, x = .ref a ∧ DGet H2 a y o ∧ Q (.bl (!o.isSome)) H2) : tDNotIn ty td σ H Q := k
end Re
namespace Fa
open PySem PySem.Spec PyProof.Rows L2 Bd Es Dj Ef Re
def potKv (S : StM) : List (Key × V) := [(.inr "fees", .int S.fees), (.inr "reserve", .int S.res), (.inr "treasury", .int S.tre)]
theorem pot_id {S : StM} : mergeK [] (potKv S) = potKv S := merge_id (by show ([.inr "fees", .inr "reserve", .inr "treasury"] : List Key).Nodup; decide +kernel)
theorem pot_val {S : StM} {n : Nat} (h : n < 3) : valV (potKv S) (.inr (potName n)) = some (.int (potV S n)) := by
  obtain rfl | rfl | rfl : n = 0 ∨ n = 1 ∨ n = 2 := by omega
  · exact valV_pos rfl
  · exact (valV_neg (by show ¬ (.inr "fees" : Key) = .inr "reserve"; decide +kernel)).trans (valV_pos rfl)
  · exact (valV_neg (by show ¬ (.inr "fees" : Key) = .inr "treasury"; decide +kernel)).trans ((valV_neg (by show ¬ (.inr "reserve" : Key) = .inr "treasury"; decide +kernel)).trans (valV_pos rfl))
theorem pot_none {S : StM} : valV (potKv S) (.inr "purse") = none :=
  (valV_neg (by show ¬ (.inr "fees" : Key) = .inr "purse"; decide +kernel)).trans ((valV_neg (by show ¬ (.inr "reserve" : Key) = .inr "purse"; decide +kernel)).trans (valV_neg (by show ¬ (.inr "treasury" : Key) = .inr "purse"; decide +kernel)))
end Fa

set_option Elab.async false
set_option linter.all false
set_option maxRecDepth 100000
set_option maxHeartbeats 4000000
/-! A state and the law's own one beside it. -/
namespace Fa
open PySem PySem.Spec PyProof.Rows L2 Bd Es Dj Ef Re
section
variable {P : Program} {w : World} {K : PySem.W.Frag} {H H' : Hp} {A A' : SA} {S S' M M' : StM} {B B' : BkT} {D D' : MA} {U : List Addr}
theorem MdS.inO (h : MdS P w K H D M) : ∀ x ∈ D.O, (∀ xs, H x ≠ some (.tup xs)) ∧ (∀ C dx fs, H x ≠ some (.ins C dx fs)) := by
  obtain ⟨kv, h1, _⟩ := h.outs
  obtain ⟨av, h2, _⟩ := h.accs
  have g : ∀ {x : Addr} {o : HO}, H x = some o → (∀ xs, o ≠ .tup xs) → (∀ C dx fs, o ≠ .ins C dx fs) → (∀ xs, H x ≠ some (.tup xs)) ∧ (∀ C dx fs, H x ≠ some (.ins C dx fs)) := fun {x o} e n1 n2 =>
    ⟨fun xs q => n1 xs (Option.some.inj (e.symm.trans q)), fun C dx fs q => n2 C dx fs (Option.some.inj (e.symm.trans q))⟩
  intro x hx
  simp only [MA.O, List.mem_cons, List.not_mem_nil, or_false] at hx
  rcases hx with rfl | rfl | rfl | rfl | rfl
  · exact g h.m (fun _ z => by cases z) fun _ _ _ z => by cases z
  · exact g h1.2.choose_spec.1 (fun _ z => by cases z) fun _ _ _ z => by cases z
  · exact g h2 (fun _ z => by cases z) fun _ _ _ z => by cases z
  · exact g h.pots (fun _ z => by cases z) fun _ _ _ z => by cases z
  · exact g h.used (fun _ z => by cases z) fun _ _ _ z => by cases z
/-- the law's own state changes: the state stays -/
theorem StAt.mdl (h : StAt P w K H A S B) (hM : MdS P w K H D M) (z : ∀ x ∈ D.O, x ∈ A.z) (f : Fr K U H H') (hU : ∀ x ∈ U, x ∈ D.O) (l : ∀ x ∈ U, H' x ≠ none) : StAt P w K H' A S B :=
  h.fr f (fun x hx q => (h.zl x (z x (hU x q))).2 hx) (fun c dx fs _ C e q => (hM.inO c (hU c q)).2 _ _ _ e) (fun x q => .inl (List.mem_append_right _ (z x (hU x q)))) (fun a xs e q => (hM.inO a (hU a q)).1 _ e) fun x hx => by
    by_cases c : x ∈ U
    · exact l x c
    · cases e : H x with
      | none => exact absurd e (h.zl x hx).1
      | some o => rw [f.keep x o c e]; exact fun q => by cases q
/-- the state changes: the law's own one stays -/
theorem MdS.sta (hM : MdS P w K H D M) (h : StAt P w K H A S B) (z : ∀ x ∈ D.O, x ∈ A.z) (f : Fr K A.O H H') : MdS P w K H' D M := hM.fr f fun x hx q => (h.zl x (z x hx)).2 q
/-- both, and they look the same -/
structure Lw (P : Program) (w : World) (K : PySem.W.Frag) (H : Hp) (A : SA) (S : StM) (B : BkT) (D : MA) (M : StM) : Prop where
  st : StAt P w K H A S B
  md : MdS P w K H D M
  eq : SEq M S
  z : ∀ x ∈ D.O, x ∈ A.z
  nd : D.O.Nodup
  ok : OkM M.outs
theorem Lw.keep (h : Lw P w K H A S B D M) (s : Same H H') : Lw P w K H' A S B D M := ⟨h.st.keep s, h.md.keep s, h.eq, h.z, h.nd, h.ok⟩
theorem UpA.z (u : UpA H A A') : A'.z = A.z ∧ A'.t = A.t := by
  obtain ⟨ds, sk, rfl, _⟩ := u
  exact ⟨rfl, rfl⟩
/-- what a step of the law leaves -/
structure Stp (P : Program) (w : World) (K : PySem.W.Frag) (H H' : Hp) (A A' : SA) (S S' : StM) (B' : BkT) (D D' : MA) (M' : StM) (z : Int) : Prop where
  lw : Lw P w K H' A' S' B' D' M'
  up : UpA H A A'
  t : A'.t = A.t ∧ D'.m = D.m
  f : Fr K (A.O ++ D.O) H H'
  zs : (z = 0 ∧ S' = S) ∨ (z = 1 ∧ ∃ a, S' = doA S a)
  ks : ∀ p ∈ S'.outs.map (·.1), p ∈ S.outs.map (·.1) ∨ p.1 < 5
theorem MA.ne (hd : D.O.Nodup) : (D.pt ≠ D.m ∧ D.pt ≠ D.o ∧ D.pt ≠ D.ac ∧ D.pt ≠ D.us) ∧ (D.us ≠ D.m ∧ D.us ≠ D.o ∧ D.us ≠ D.ac) ∧ (D.ac ≠ D.m ∧ D.ac ≠ D.o) ∧ D.o ≠ D.m := by
  simp only [MA.O, List.nodup_cons, List.mem_cons, not_or, List.not_mem_nil, not_false_iff, and_true] at hd
  obtain ⟨⟨a1, a2, a3, a4⟩, ⟨b1, b2, b3⟩, ⟨c1, c2⟩, d1, _⟩ := hd
  exact ⟨⟨Ne.symm a3, Ne.symm b2, Ne.symm c1, d1⟩, ⟨Ne.symm a4, Ne.symm b3, Ne.symm c2⟩, ⟨Ne.symm a2, Ne.symm b1⟩, Ne.symm a1⟩
/-- the law's own pots -/
theorem MdS.upP (hM : MdS P w K H D M) (hd : D.O.Nodup) (e : M'.outs = M.outs ∧ M'.accs = M.accs ∧ M'.stk = M.stk ∧ M'.used = M.used ∧ M'.slot = M.slot ∧ M'.epo = M.epo) :
    Fr K [D.pt] H (upd H D.pt (.lst [.int M'.fees, .int M'.res, .int M'.tre])) ∧ MdS P w K (upd H D.pt (.lst [.int M'.fees, .int M'.res, .int M'.tre])) D M' := by
  have f : Fr K [D.pt] H (upd H D.pt (.lst [.int M'.fees, .int M'.res, .int M'.tre])) := Fr.list hM.pots (List.mem_singleton.mpr rfl)
  obtain ⟨⟨n1, n2, n3, n4⟩, _⟩ := MA.ne hd
  have nn : ∀ {x : Addr}, D.pt ≠ x → x ∉ [D.pt] := fun h q => h (List.mem_singleton.mp q).symm
  obtain ⟨kv, h1, h2⟩ := hM.outs
  obtain ⟨av, h3, h4⟩ := hM.accs
  obtain ⟨xs, h5, h6⟩ := hM.stk
  obtain ⟨e1, e2, e3, e4, e5, e6⟩ := e
  exact ⟨f, {
    m := f.keep _ _ (nn n1) hM.m
    outs := by rw [e1]; exact ⟨kv, f.ds (nn n2) h1, Paired.mapP h2 fun _ _ ⟨e, q⟩ => ⟨e, f.dp (encTr_nl _) q⟩⟩
    ond := by rw [e1]; exact hM.ond
    accs := by rw [e2]; exact ⟨av, f.keep _ _ (nn n3) h3, Paired.mapP h4 fun _ _ ⟨e, y, e2, q⟩ => ⟨e, y, e2, f.tup _ _ q⟩⟩
    and_ := by rw [e2]; exact hM.and_
    stk := by rw [e3]; exact ⟨xs, f.tup _ _ h5, f.dpAll (nlMap encP2_nl) h6⟩
    pots := upd_same
    clk := by rw [e5, e6]; exact f.tup _ _ hM.clk
    used := by rw [e4]; exact f.keep _ _ (nn n4) hM.used
    und := by rw [e4]; exact hM.und }⟩
/-- .. its used numbers -/
theorem MdS.upU {V0 : List Int} (hM : MdS P w K H D M) (hd : D.O.Nodup) (nd : V0.Nodup) :
    Fr K [D.us] H (upd H D.us (.lst (V0.map V.int))) ∧ MdS P w K (upd H D.us (.lst (V0.map V.int))) D { M with used := V0 } := by
  have f : Fr K [D.us] H (upd H D.us (.lst (V0.map V.int))) := Fr.list hM.used (List.mem_singleton.mpr rfl)
  obtain ⟨⟨_, _, _, n4⟩, ⟨n1, n2, n3⟩, _⟩ := MA.ne hd
  have nn : ∀ {x : Addr}, D.us ≠ x → x ∉ [D.us] := fun h q => h (List.mem_singleton.mp q).symm
  obtain ⟨kv, h1, h2⟩ := hM.outs
  obtain ⟨av, h3, h4⟩ := hM.accs
  obtain ⟨xs, h5, h6⟩ := hM.stk
  exact ⟨f, {
    m := f.keep _ _ (nn n1) hM.m
    outs := ⟨kv, f.ds (nn n2) h1, Paired.mapP h2 fun _ _ ⟨e, q⟩ => ⟨e, f.dp (encTr_nl _) q⟩⟩
    ond := hM.ond
    accs := ⟨av, f.keep _ _ (nn n3) h3, Paired.mapP h4 fun _ _ ⟨e, y, e2, q⟩ => ⟨e, y, e2, f.tup _ _ q⟩⟩
    and_ := hM.and_
    stk := ⟨xs, f.tup _ _ h5, f.dpAll (nlMap encP2_nl) h6⟩
    pots := f.keep _ _ (nn n4.symm) hM.pots
    clk := f.tup _ _ hM.clk
    used := upd_same
    und := nd }⟩
end
end Fa

namespace Bd
open PySem PySem.Spec PyProof.Rows L2
theorem op_in_seqK {X : Cx} {K : PySem.W.Frag} (h : X.K = K) : OpR X (compareOp .In) (rIn K false) := h ▸ op_in_seq
theorem tryMeth {σ : L2.St} {H : Hp} {D : Ends} {C : Addr} {m : Str} {sp : Sp} {E : L2.St → XK} {ta : TE} {t : TA} (k : ta σ H fun x H1 => ∃ a dx fs, x = .ref a ∧ H1 a = some (.ins C dx fs) ∧ fs.lookup m = none ∧ t σ H1 fun vs H2 => sp (x :: vs) H2 (fun _ H' => D.nx σ H') (E σ)) : tDrop (tMethS C m sp E ta t) D σ H := k
end Bd
namespace Fa
open PySem PySem.Spec PyProof.Rows L2 Bd Es Dj Ef Re
def potN : Nat → Str
  | 3 => "purse"
  | n => potName n
theorem potN_at {j : Nat} (h : j < 4) : atI [V.str (Rd.S [102, 101, 101, 115]), V.str (Rd.S [114, 101, 115, 101, 114, 118, 101]), V.str (Rd.S [116, 114, 101, 97, 115, 117, 114, 121]), V.str (Rd.S [112, 117, 114, 115, 101])] (j : Int) = some (.str (potN j)) := by
  obtain rfl | rfl | rfl | rfl : j = 0 ∨ j = 1 ∨ j = 2 ∨ j = 3 := by omega
  all_goals rfl
theorem potN_is {j : Nat} (h : j < 4) : (j < 3 ∧ potN j = potName j) ∨ (j = 3 ∧ potN j = "purse") := by
  obtain rfl | rfl | rfl | rfl : j = 0 ∨ j = 1 ∨ j = 2 ∨ j = 3 := by omega
  · exact .inl ⟨by omega, rfl⟩
  · exact .inl ⟨by omega, rfl⟩
  · exact .inl ⟨by omega, rfl⟩
  · exact .inr ⟨rfl, rfl⟩
theorem potN_purse {j : Nat} (h : j < 4) : (potN j = (Rd.S [112, 117, 114, 115, 101])) ↔ j = 3 := by
  obtain rfl | rfl | rfl | rfl : j = 0 ∨ j = 1 ∨ j = 2 ∨ j = 3 := by omega
  all_goals decide
end Fa

namespace Fa
open PySem PySem.Spec PyProof.Rows L2 Bd Es Dj Ef Re
/-- a drawn number, by its place -/
theorem ixG {K : PySem.W.Frag} {H : Hp} {Q : VK} {b : Addr} {ns : List Int} {i : Int} {m : Nat} (hb : H b = some (.lst (ns.map V.int))) (e : i = (m : Int)) (h : m < ns.length) (k : Q (.int (ns.getD m 0)) H) : rIxL K (.ref b) (.int i) H Q := by
  subst e
  exact Rd.ixL (SqL.of hb) (Rd.atI_ints (by omega) (by omega)) (by rw [Int.toNat_natCast]; exact k)
theorem B3.at {ns : List Int} (h : B3 ns) {m : Nat} (hm : m < ns.length) : 0 ≤ ns.getD m 0 ∧ ns.getD m 0 < 1000 := by
  rw [List.getD_eq_getElem?_getD, List.getElem?_eq_getElem hm]
  exact h _ (List.getElem_mem hm)
end Fa

namespace Fa
open PySem PySem.Spec PyProof.Rows L2 Bd Es Dj Ef Re
theorem pot_ix {j : Nat} {a b c : V} (h : j < 3) : ixN [a, b, c].length (j : Int) = some j := by
  obtain rfl | rfl | rfl : j = 0 ∨ j = 1 ∨ j = 2 := by omega
  all_goals rfl
theorem pot_set {M : StM} {x : Int} {j : Nat} (h : j < 3) : [V.int M.fees, .int M.res, .int M.tre].set j (.int x) = [.int (putPot M x j).fees, .int (putPot M x j).res, .int (putPot M x j).tre] := by
  obtain rfl | rfl | rfl : j = 0 ∨ j = 1 ∨ j = 2 := by omega
  all_goals rfl
theorem pot_same {M : StM} {x : Int} {j : Nat} : (putPot M x j).outs = M.outs ∧ (putPot M x j).accs = M.accs ∧ (putPot M x j).stk = M.stk ∧ (putPot M x j).used = M.used ∧ (putPot M x j).slot = M.slot ∧ (putPot M x j).epo = M.epo := by
  match j with
  | 0 => exact ⟨rfl, rfl, rfl, rfl, rfl, rfl⟩
  | 1 => exact ⟨rfl, rfl, rfl, rfl, rfl, rfl⟩
  | n + 2 => exact ⟨rfl, rfl, rfl, rfl, rfl, rfl⟩
theorem SEq.pot {M S : StM} {x : Int} {j : Nat} (e : SEq M S) : SEq (putPot M x j) (doA S (.pot j x)) := by
  match j with
  | 0 => exact ⟨rfl, e.res, e.tre, e.slot, e.epo, e.stk, e.outs, e.accs, e.used⟩
  | 1 => exact ⟨e.fees, rfl, e.tre, e.slot, e.epo, e.stk, e.outs, e.accs, e.used⟩
  | n + 2 => exact ⟨e.fees, e.res, rfl, e.slot, e.epo, e.stk, e.outs, e.accs, e.used⟩
section
variable {P : Program} {w : World} {K : PySem.W.Frag} {H H1 H2 H3 : Hp} {A A2 : SA} {S S2 M M2 : StM} {B B2 : BkT} {D : MA} {U : List Addr}
/-- a step that changed nothing -/
theorem Stp.no (h : Lw P w K H A S B D M) (s : Same H H1) : Stp P w K H H1 A A S S B D D M 0 :=
  ⟨h.keep s, ⟨A.ds, A.sk, rfl, fun x hx => .inl hx⟩, ⟨rfl, rfl⟩, .of s, .inl ⟨rfl, rfl⟩, fun _ h => .inl h⟩
/-- a step that changed the state, then the law's own one -/
theorem Stp.yes {a : Fa.Act} (h : Lw P w K H1 A S B D M) (s : Same H H1) (f2 : Fr K A.O H1 H2) (u2 : UpA H1 A A2) (st2 : StAt P w K H2 A2 (doA S a) B2) (g : Fr K U H2 H3) (hU : ∀ x ∈ U, x ∈ D.O) (l : ∀ x ∈ U, H3 x ≠ none) (m3 : MdS P w K H3 D M2) (e : SEq M2 (doA S a)) (ok : OkM M2.outs) (ks : ∀ p ∈ (doA S a).outs.map (·.1), p ∈ S.outs.map (·.1) ∨ p.1 < 5) : Stp P w K H H3 A A2 S (doA S a) B2 D D M2 1 := by
  have z2 : ∀ x ∈ D.O, x ∈ A2.z := fun x hx => by rw [u2.z.1]; exact h.z x hx
  have hM2 := h.md.sta h.st h.z f2
  refine ⟨⟨st2.mdl hM2 z2 g hU l, m3, e, z2, h.nd, ok⟩, ?_, ⟨u2.z.2, rfl⟩, (Fr.of s).trans ((f2.mono fun x hx => List.mem_append_left _ hx).trans (g.mono fun x hx => List.mem_append_right _ (hU x hx))), .inr ⟨rfl, a, rfl⟩, ks⟩
  exact u2.back (K := K) (O := A.O) (.of s) h.st.liveO
end
end Fa

namespace Fa
open PySem PySem.Spec PyProof.Rows L2 Bd Es Dj Ef Re
theorem SEq.use {M S : StM} {n : Int} (e : SEq M S) : SEq { M with used := M.used ++ [n] } (doA S (.use n true)) :=
  ⟨e.fees, e.res, e.tre, e.slot, e.epo, e.stk, e.outs, e.accs, e.used.append_right [n]⟩
theorem nd_snoc {l : List Int} {n : Int} (h : l.Nodup) (hn : n ∉ l) : (l ++ [n]).Nodup := by
  rw [List.nodup_append]
  exact ⟨h, by simp, fun a ha b hb => by rw [List.mem_singleton.mp hb]; exact fun e => hn (e ▸ ha)⟩
end Fa

namespace Fa
open PySem PySem.Spec PyProof.Rows L2 Bd Es Dj Ef Re
theorem inInt {n : Int} : ∀ {l : List Int}, inV (.int n) (l.map V.int) = decide (n ∈ l)
  | [] => rfl
  | x :: l => by
    show ((x == n) || inV (.int n) (l.map V.int)) = _
    rw [inInt]
    by_cases c : n = x
    · simp [c]
    · simp [c, Ne.symm c]
theorem flInt : ∀ {l : List Int}, (l.map V.int).all flatV = true
  | [] => rfl
  | x :: l => by
    show (true && (l.map V.int).all flatV) = true
    rw [flInt]; rfl
/-- a number in a list of numbers -/
theorem inI {K : PySem.W.Frag} {H : Hp} {Q : VK} {p : Addr} {n : Int} {l : List Int} (h : H p = some (.lst (l.map V.int))) (k : Q (.bl (decide (n ∈ l))) H) : rIn K false (.int n) (.ref p) H Q :=
  ⟨p, _, rfl, .inl (SqL.of h), rfl, flInt, by rw [if_neg (by decide), inInt]; exact k⟩
end Fa
namespace Fa
theorem pot_keys {S : StM} {j : Nat} {v : Int} : ∀ p ∈ (doA S (.pot j v)).outs.map (·.1), p ∈ S.outs.map (·.1) ∨ p.1 < 5 := by
  match j with
  | 0 => exact fun _ h => .inl h
  | 1 => exact fun _ h => .inl h
  | n + 2 => exact fun _ h => .inl h
end Fa

set_option Elab.async false
set_option linter.all false
set_option maxRecDepth 100000
set_option maxHeartbeats 4000000
/-! What the top has written: properties, static methods, and tables with text keys. -/
namespace Bd
open PySem PySem.Spec PyProof.Rows L2
structure SaysZ (fa : List He.Fa) (fn : List He.DefD) (ts : List He.Tab) (ex : PySem.W.Frag → Bool) (fx : List He5.DefA) (w : World) (K : PySem.W.Frag) : Prop where
  y : SaysY fa fn ex fx K
  tabs : (ts.map fun t => He.dicW K (t.1 K)) = ts.map fun t => some (He.keysIn w.params t.2)
abbrev TellZ : Type := TellY × List (Option (List (Option (Str × Int))))
def tellZ (fa : List He.Fa) (fn : List He.DefD) (ts : List He.Tab) (ex : PySem.W.Frag → Bool) (fx : List He5.DefA) (K : PySem.W.Frag) : TellZ := (tellY fa fn ex fx K, ts.map fun t => He.dicW K (t.1 K))
def wantZ (fn : List He.DefD) (ts : List He.Tab) (fx : List He5.DefA) (w : World) : TellZ := (wantY fn fx, ts.map fun t => some (He.keysIn w.params t.2))
theorem saysZ {fa : List He.Fa} {fn : List He.DefD} {ts : List He.Tab} {ex : PySem.W.Frag → Bool} {fx : List He5.DefA} {w : World} {K : PySem.W.Frag} (e : tellZ fa fn ts ex fx K = wantZ fn ts fx w) : SaysZ fa fn ts ex fx w K :=
  ⟨saysY (congrArg (fun z : TellZ => z.1) e), congrArg (fun z : TellZ => z.2) e⟩
def hookZ (n : Nat) (fa : List He.Fa) (fn : List He.DefD) (ts : List He.Tab) (ex : PySem.W.Frag → Bool) (fx : List He5.DefA) : PySem.W.Hook where
  α := TellZ
  obs := fun s => tellZ fa fn ts ex fx (fragY n s.heap.get?)
  val := fun w => wantZ fn ts fx w
  says := fun w h => ∃ K : PySem.W.Frag, K.In h ∧ SaysZ fa fn ts ex fx w K
  of := fun _ _ e => ⟨_, He.frG_in, saysZ e⟩
  keeps := fun _ _ _ ⟨K, hK, c⟩ k => ⟨K, PySem.W.Frag.In.keeps hK k, c⟩
def obsZ (n : Nat) (fa : List He.Fa) (fn : List He.DefD) (ts : List He.Tab) (ex : PySem.W.Frag → Bool) (fx : List He5.DefA) (g : Addr → Option Obj) : TellZ := tellZ fa fn ts ex fx (fragY n g)
theorem obsZ_eq {n : Nat} {fa : List He.Fa} {fn : List He.DefD} {ts : List He.Tab} {ex : PySem.W.Frag → Bool} {fx : List He5.DefA} {g : Addr → Option Obj} {s : Shared} (h : ∀ a, g a = s.heap.get? a) : obsZ n fa fn ts ex fx g = (hookZ n fa fn ts ex fx).obs s := by
  have e : g = s.heap.get? := funext h
  rw [e]
  rfl
theorem SaysZ.tab {fa : List He.Fa} {fn : List He.DefD} {ts : List He.Tab} {ex : PySem.W.Frag → Bool} {fx : List He5.DefA} {w : World} {K : PySem.W.Frag} (c : SaysZ fa fn ts ex fx w K) (i : Nat) {t : He.Tab} (h : ts[i]? = some t := by rfl) : ∃ es n, KDict K w (t.1 K) es n := by
  have e2 : (ts.map fun t => He.dicW K (t.1 K))[i]? = (ts.map fun t => some (He.keysIn w.params t.2))[i]? := by rw [c.tabs]
  rw [List.getElem?_map, List.getElem?_map, h] at e2
  exact He.dicW_ok (Option.some.inj e2)
/-- the i-th key's value -/
def keyB (K : PySem.W.Frag) (a : Addr) (x : Str) (f : Addr) : Bool := match PySem.W.nsIn K a x with
  | some (some u) => decide (u = .ref f)
  | _ => false
theorem keyB_ok {K : PySem.W.Frag} {w : World} {a f : Addr} {x : Str} {es : Array DictEntry} {n : Nat} (T : KDict K w a es n) (h : keyB K a x f = true) : KDct K w a x (.ref f) := by
  unfold keyB at h
  split at h
  · rename_i u e
    have := of_decide_eq_true h
    subst this
    exact ⟨es, n, _, T.at_, T.lit, e, rfl⟩
  · cases h
end Bd

set_option Elab.async false
set_option linter.all false
set_option maxRecDepth 100000
set_option maxHeartbeats 4000000
/-! The law's own state changes: its outputs, accounts, clock, stakes. -/
namespace Es
open PySem PySem.Spec PyProof.Rows L2
section
variable {X : Cx} {P : Program} {w : World} {K : PySem.W.Frag} {i o e value : Expr} {pos pos' apos cpos : Pos} {ty td tv : TE}
theorem pc_dinXK (hP : X.prog = P) (hw : X.w = w) (hK : X.K = K) (hu : X.A.units + 1 < cLine) (hi : PE X i ty) (ho : PE X o td) : PC X .In i o (tDInX P w K ty td) := by
  subst hP; subst hw; subst hK; exact pc_dinX hu hi ho
theorem pc_dnotinXK (hP : X.prog = P) (hw : X.w = w) (hK : X.K = K) (hu : X.A.units + 1 < cLine) (hi : PE X i ty) (ho : PE X o td) : PC X .NotIn i o (tDNotInX P w K ty td) := by
  subst hP; subst hw; subst hK; exact pc_dnotinX hu hi ho
theorem pe_dgetXK (hP : X.prog = P) (hw : X.w = w) (hK : X.K = K) (hu : X.A.units + 1 < cLine) (ho : PE X o td) (hi : PE X i ty) (hs : NoSl i) : PE X (.Subscript o i pos) (tDGetX P w K td ty) := by
  subst hP; subst hw; subst hK; exact pe_dgetX hu ho hi hs
theorem ps_dputXK (hP : X.prog = P) (hw : X.w = w) (hK : X.K = K) (hu : X.A.units + 1 < cLine) (ho : PE X o td) (hi : PE X i ty) (hv : PE X value tv) (hs : swapsWith value (some (.Subscript o i pos')) pos.line X.env = pure false) :
    PS X (.Assign [.Subscript o i pos'] value pos) (sDPutX P w K td ty tv) := by
  subst hP; subst hw; subst hK; exact ps_dputX hu ho hi hv hs
theorem pe_dpopXK (hP : X.prog = P) (hw : X.w = w) (hK : X.K = K) (hu : X.A.units + 1 < cLine) (ho : PE X o td) (he : PE X e ty) (m : M1 X o "pop" apos e cpos) : PE X (.Call (.Attribute o "pop" apos) [e] [] cpos) (tDPopX P w K td ty) := by
  subst hP; subst hw; subst hK; exact pe_dpopX hu ho he m
end
end Es
namespace Bd
open PySem PySem.Spec PyProof.Rows L2
theorem meS {σ : L2.St} {H : Hp} {Q : VK} {C : Addr} {m : Str} {sp : Sp} {E : L2.St → XK} {ta : TE} {t : TA} (k : ta σ H fun x H1 => ∃ a dx fs, x = .ref a ∧ H1 a = some (.ins C dx fs) ∧ fs.lookup m = none ∧ t σ H1 fun vs H2 => sp (x :: vs) H2 Q (E σ)) : tMethS C m sp E ta t σ H Q := k
end Bd
namespace Fa
open PySem PySem.Spec PyProof.Rows L2 Bd Es Dj Ef Re
section
variable {P : Program} {w : World} {K : PySem.W.Frag} {H H' : Hp} {D : MA} {M M' S : StM}
theorem MdS.upO {kv' : List (List Key × V)} {L : MdT} {ys : List (List Key × Addr × Value)} (hM : MdS P w K H D M) (hd : D.O.Nodup) (hD : DS P w K (upd H D.o (dX P w D.o ys)) D.o kv') (hP : Paired (MoR K H) kv' L) (nd : (L.map (·.1)).Nodup) :
    Fr K [D.o] H (upd H D.o (dX P w D.o ys)) ∧ MdS P w K (upd H D.o (dX P w D.o ys)) D { M with outs := L } := by
  obtain ⟨kv, h1, h2⟩ := hM.outs
  have f : Fr K [D.o] H (upd H D.o (dX P w D.o ys)) := Fr.dict h1.2.choose_spec.1 (List.mem_singleton.mpr rfl)
  obtain ⟨⟨_, n1, _, _⟩, ⟨_, n2, _⟩, ⟨_, n3⟩, n4⟩ := MA.ne hd
  have nn : ∀ {x : Addr}, x ≠ D.o → x ∉ [D.o] := fun h q => h (List.mem_singleton.mp q)
  obtain ⟨av, h3, h4⟩ := hM.accs
  obtain ⟨xs, h5, h6⟩ := hM.stk
  exact ⟨f, {
    m := f.keep _ _ (nn n4.symm) hM.m
    outs := ⟨kv', hD, Paired.mapP hP fun _ _ ⟨e, q⟩ => ⟨e, f.dp (encTr_nl _) q⟩⟩
    ond := nd
    accs := ⟨av, f.keep _ _ (nn n3) h3, Paired.mapP h4 fun _ _ ⟨e, y, e2, q⟩ => ⟨e, y, e2, f.tup _ _ q⟩⟩
    and_ := hM.and_
    stk := ⟨xs, f.tup _ _ h5, f.dpAll (nlMap encP2_nl) h6⟩
    pots := f.keep _ _ (nn n1) hM.pots
    clk := f.tup _ _ hM.clk
    used := f.keep _ _ (nn n2) hM.used
    und := hM.und }⟩
theorem MdS.upA {kv' : List (Key × V)} {L : List (Int × (Int × Int))} (hM : MdS P w K H D M) (hd : D.O.Nodup) (hP : Paired (AccR K H) kv' L) (nd : (L.map (·.1)).Nodup) :
    Fr K [D.ac] H (upd H D.ac (.dK kv')) ∧ MdS P w K (upd H D.ac (.dK kv')) D { M with accs := L } := by
  obtain ⟨av, h3, h4⟩ := hM.accs
  have f : Fr K [D.ac] H (upd H D.ac (.dK kv')) := Fr.dk h3 (List.mem_singleton.mpr rfl)
  obtain ⟨⟨_, _, n1, _⟩, ⟨_, _, n2⟩, ⟨n3, n4⟩, _⟩ := MA.ne hd
  have nn : ∀ {x : Addr}, x ≠ D.ac → x ∉ [D.ac] := fun h q => h (List.mem_singleton.mp q)
  obtain ⟨kv, h1, h2⟩ := hM.outs
  obtain ⟨xs, h5, h6⟩ := hM.stk
  exact ⟨f, {
    m := f.keep _ _ (nn n3.symm) hM.m
    outs := ⟨kv, f.ds (nn n4.symm) h1, Paired.mapP h2 fun _ _ ⟨e, q⟩ => ⟨e, f.dp (encTr_nl _) q⟩⟩
    ond := hM.ond
    accs := ⟨kv', upd_same, Paired.mapP hP fun _ _ ⟨e, y, e2, q⟩ => ⟨e, y, e2, f.tup _ _ q⟩⟩
    and_ := nd
    stk := ⟨xs, f.tup _ _ h5, f.dpAll (nlMap encP2_nl) h6⟩
    pots := f.keep _ _ (nn n1) hM.pots
    clk := f.tup _ _ hM.clk
    used := f.keep _ _ (nn n2) hM.used
    und := hM.und }⟩
/-- the law's own dict itself -/
theorem MdS.upM {D' : MA} (hM : MdS P w K H D M) (hd : D.O.Nodup) (e : D'.m = D.m ∧ D'.o = D.o ∧ D'.ac = D.ac ∧ D'.pt = D.pt ∧ D'.us = D.us) (e2 : M'.outs = M.outs ∧ M'.accs = M.accs ∧ M'.used = M.used ∧ M'.fees = M.fees ∧ M'.res = M.res ∧ M'.tre = M.tre)
    (hs : ∃ xs, SqT K H D'.sk xs ∧ DpAll K H xs (M'.stk.map encP2)) (hc : SqT K H D'.ck [.int M'.slot, .int M'.epo]) :
    Fr K [D.m] H (upd H D.m (.dK (mdKv D'))) ∧ MdS P w K (upd H D.m (.dK (mdKv D'))) D' M' := by
  have f : Fr K [D.m] H (upd H D.m (.dK (mdKv D'))) := Fr.dk hM.m (List.mem_singleton.mpr rfl)
  obtain ⟨⟨n1, _, _, _⟩, ⟨n2, _, _⟩, ⟨n3, _⟩, n4⟩ := MA.ne hd
  have nn : ∀ {x : Addr}, x ≠ D.m → x ∉ [D.m] := fun h q => h (List.mem_singleton.mp q)
  obtain ⟨kv, h1, h2⟩ := hM.outs
  obtain ⟨av, h3, h4⟩ := hM.accs
  obtain ⟨xs, h5, h6⟩ := hs
  obtain ⟨a1, a2, a3, a4, a5⟩ := e
  obtain ⟨b1, b2, b3, b4, b5, b6⟩ := e2
  exact ⟨f, {
    m := by rw [a1]; exact upd_same
    outs := by rw [a2, b1]; exact ⟨kv, f.ds (nn n4) h1, Paired.mapP h2 fun _ _ ⟨e, q⟩ => ⟨e, f.dp (encTr_nl _) q⟩⟩
    ond := by rw [b1]; exact hM.ond
    accs := by rw [a3, b2]; exact ⟨av, f.keep _ _ (nn n3) h3, Paired.mapP h4 fun _ _ ⟨e, y, e2, q⟩ => ⟨e, y, e2, f.tup _ _ q⟩⟩
    and_ := by rw [b2]; exact hM.and_
    stk := ⟨xs, f.tup _ _ h5, f.dpAll (nlMap encP2_nl) h6⟩
    pots := by rw [a4, b4, b5, b6]; exact f.keep _ _ (nn n1) hM.pots
    clk := f.tup _ _ hc
    used := by rw [a5, b3]; exact f.keep _ _ (nn n2) hM.used
    und := by rw [b3]; exact hM.und }⟩
theorem putM_clk {D : MA} {z : Addr} : putK (mdKv D) kC (.ref z) = mdKv { D with ck := z } := by
  show putK [(kO, V.ref D.o), (kA, .ref D.ac), (kS, .ref D.sk), (kP, .ref D.pt), (kC, .ref D.ck), (kU, .ref D.us)] kC (.ref z) = _
  have n : kO ≠ kC ∧ kA ≠ kC ∧ kS ≠ kC ∧ kP ≠ kC ∧ kU ≠ kC := by decide +kernel
  obtain ⟨a1, a2, a3, a4, a5⟩ := n
  unfold putK
  rw [if_pos (by simp)]
  simp only [List.map_cons, List.map_nil, if_neg a1, if_neg a2, if_neg a3, if_neg a4, if_neg a5, if_pos]
theorem putM_stk {D : MA} {z : Addr} : putK (mdKv D) kS (.ref z) = mdKv { D with sk := z } := by
  show putK [(kO, V.ref D.o), (kA, .ref D.ac), (kS, .ref D.sk), (kP, .ref D.pt), (kC, .ref D.ck), (kU, .ref D.us)] kS (.ref z) = _
  have n : kO ≠ kS ∧ kA ≠ kS ∧ kP ≠ kS ∧ kC ≠ kS ∧ kU ≠ kS := by decide +kernel
  obtain ⟨a1, a2, a3, a4, a5⟩ := n
  unfold putK
  rw [if_pos (by simp)]
  simp only [List.map_cons, List.map_nil, if_neg a1, if_neg a2, if_neg a3, if_neg a4, if_neg a5, if_pos]
theorem SEq.out {p : Rf} {t : Tr} (e : SEq M S) : SEq { M with outs := M.outs ++ [(p, t)] } (doA S (.out p (some t))) :=
  ⟨e.fees, e.res, e.tre, e.slot, e.epo, e.stk, e.outs.append_right [(p, t)], e.accs, e.used⟩
theorem SEq.rem {p : Rf} (e : SEq M S) : SEq { M with outs := M.outs.filter fun x => decide (x.1 ≠ p) } (doA S (.out p none)) :=
  ⟨e.fees, e.res, e.tre, e.slot, e.epo, e.stk, e.outs.filter _, e.accs, e.used⟩
theorem SEq.clk {s t : Int} (e : SEq M S) : SEq { M with slot := s, epo := t } (doA S (.clk s t)) :=
  ⟨e.fees, e.res, e.tre, rfl, rfl, e.stk, e.outs, e.accs, e.used⟩
theorem SEq.stk_ {R : List (Int × Int)} (e : SEq M S) : SEq { M with stk := R } (doA S (.stk R)) :=
  ⟨e.fees, e.res, e.tre, e.slot, e.epo, rfl, e.outs, e.accs, e.used⟩
theorem setA_perm {l m : List (Int × (Int × Int))} {k : Int} {o : Option (Int × Int)} (h : l.Perm m) (hl : (l.map (·.1)).Nodup) : (setA l k o).Perm (setA m k o) := by
  cases o with
  | none => exact h.filter _
  | some q =>
    rw [setA_some, setA_some]
    have e : (l.any fun e => decide (e.1 = k)) = m.any fun e => decide (e.1 = k) := by
      cases c : l.any fun e => decide (e.1 = k) with
      | true =>
        obtain ⟨x, hx, hx2⟩ := List.any_eq_true.mp c
        exact (List.any_eq_true.mpr ⟨x, h.subset hx, hx2⟩).symm
      | false =>
        cases d : m.any fun e => decide (e.1 = k) with
        | false => rfl
        | true =>
          obtain ⟨x, hx, hx2⟩ := List.any_eq_true.mp d
          rw [List.any_eq_true.mpr ⟨x, h.symm.subset hx, hx2⟩] at c
          cases c
    rw [e]
    split
    · exact h.map _
    · exact h.append_right _
theorem SEq.acc {k : Int} {o : Option (Int × Int)} (e : SEq M S) (hm : (M.accs.map (·.1)).Nodup) : SEq { M with accs := setA M.accs k o } (doA S (.acc k o)) :=
  ⟨e.fees, e.res, e.tre, e.slot, e.epo, e.stk, e.outs, setA_perm e.accs hm, e.used⟩
/-- a reference in the law's own outputs -/
theorem MdS.look {r : Addr} {p : Rf} (hM : MdS P w K H D M) (hr : SqT K H r [.int p.1, .int p.2]) : ∃ o, GX P w K H D.o (.ref r) o ∧ ((p ∈ M.outs.map (·.1) ∧ ∃ t v, lookM M.outs p = some t ∧ o = some v ∧ Dp K H v (encTr t)) ∨ (p ∉ M.outs.map (·.1) ∧ o = none)) := by
  obtain ⟨kv, hD, hP⟩ := hM.outs
  refine ⟨_, ⟨kv, eR p, r, hD, rfl, hr, rfl⟩, ?_⟩
  rcases mo_look (p := p) hP with ⟨t, v, h1, h2, h3⟩ | ⟨h1, h2⟩
  · exact .inl ⟨List.mem_map_of_mem (f := (·.1)) (lookM_in h1), t, v, h1, h2, h3⟩
  · refine .inr ⟨fun q => ?_, h2⟩
    obtain ⟨t, ht⟩ := lookM_yes q
    rw [h1] at ht; cases ht
theorem drop_mo {kv : List (List Key × V)} {L : MdT} {p : Rf} (h : Paired (MoR K H) kv L) : Paired (MoR K H) (dropK kv (eR p)) (L.filter fun e => decide (e.1 ≠ p)) := by
  induction h with
  | nil => exact Paired.nil
  | @cons x y ks L h t ih =>
    by_cases c : y.1 = p
    · rw [show dropK (x :: ks) (eR p) = dropK ks (eR p) from List.filter_cons_of_neg (by simp [h.1, c]), List.filter_cons_of_neg (by simp [c])]
      exact ih
    · have c2 : ¬ x.1 = eR p := fun z => c (eR_inj (h.1.symm.trans z))
      rw [show dropK (x :: ks) (eR p) = x :: dropK ks (eR p) from List.filter_cons_of_pos (by simpa using c2), List.filter_cons_of_pos (by simpa using c)]
      exact Paired.cons h ih
end
end Fa
namespace Fa
open PySem PySem.Spec PyProof.Rows L2 Bd Es Dj Ef Re
theorem nrm_app {R : List (Ast × Int)} {n : Str} {i z : Int} (h : Nrm R) (hl : ∀ e ∈ R, (e.1.1.cps.toList < n.cps.toList ∧ e.1.1 ≠ n) ∨ False) (hz : 0 < z) : Nrm (R ++ [((n, i), z)]) := by
  have hh : ∀ e ∈ R, e.1.1.cps.toList < n.cps.toList ∧ e.1.1 ≠ n := fun e he => (hl e he).elim id False.elim
  refine ⟨List.pairwise_append.mpr ⟨h.srt, List.pairwise_singleton _ _, fun a ha b hb => ?_⟩, ?_, fun e he => ?_⟩
  · rw [List.mem_singleton.mp hb]
    obtain ⟨h1, h2⟩ := hh a ha
    unfold ltSI
    rw [if_neg (fun q => h2 (show n = a.1.1 from q).symm)]
    exact decide_eq_false (fun q => (List.lt_asymm h1 q))
  · rw [List.map_append, List.nodup_append]
    refine ⟨h.nd, by simp, fun a ha b hb => ?_⟩
    rw [List.map_singleton, List.mem_singleton] at hb
    obtain ⟨x, hx, rfl⟩ := List.mem_map.mp ha
    intro q
    exact (hh x hx).2 (by rw [q, hb])
  · rcases List.mem_append.mp he with q | q
    · exact h.nz e q
    · rw [List.mem_singleton.mp q]
      show z ≠ 0
      omega
end Fa
namespace Dj
open PySem PySem.Spec PyProof.Rows L2
/-- a list of data against the empty list -/
theorem neNilL {K : PySem.W.Frag} {H : Hp} {Q : VK} {x : V} {y : Addr} {ds : List PyData} (hx : Dp K H x (.list ds)) (hy : SqL K H y []) (sh : SeqAt.shaped (.list ds) = true) (k : Q (.bl (!ds.isEmpty)) H) : rNeD K x (.ref y) H Q := by
  refine ⟨.list ds, .list [], hx, .lst hy .nil, sh, rfl, ?_⟩
  cases ds with
  | nil => exact k
  | cons d ds => exact k
end Dj
namespace Fa
open PySem PySem.Spec PyProof.Rows L2 Bd Es Dj Ef Re
/-- an item of a list of pairs of numbers -/
theorem p2Ix {K : PySem.W.Frag} {H : Hp} {Q : VK} {q : Addr} {xs : List V} {R : List (Int × Int)} {i : Int} (hq : SqL K H q xs) (hx : DpAll K H xs (R.map encP2)) (h0 : 0 ≤ i) (h1 : i < xs.length) (k : ∀ z p, p ∈ R → SqT K H z [.int p.1, .int p.2] → Q (.ref z) H) : rIxL K (.ref q) (.int i) H Q := by
  obtain ⟨j, rfl⟩ := Int.eq_ofNat_of_zero_le h0
  have hj : j < xs.length := by omega
  have e := List.getElem?_eq_getElem hj
  obtain ⟨d, hd, hp⟩ := dpAll_at hx e
  obtain ⟨p, hp2, rfl⟩ := map_at hd
  obtain ⟨z, u, v, e2, hz, hu, hv⟩ := dp_pair hp
  cases dp_int hu; cases dp_int hv
  exact Rd.ixL hq (atI_nat (e.trans (by rw [e2]))) (k z p (List.mem_of_getElem? hp2) hz)
end Fa
namespace Fa
open PySem PySem.Spec PyProof.Rows L2 Bd Es Dj Ef Re
section
variable {N : List Str} {K : PySem.W.Frag} {mg : Str → Option Value} {H : Hp} {Q : VK}
/-- isinstance(e, a class of the family) in the suite -/
theorem isiE (We : StErr N K mg) {n m : Str} {a d : Addr} {x : V} (hn : n ∈ N) (hm : m ∈ N) (b : Bool) (hb : kin n m = b) (hd : H d = some (.xd [("what", x)])) (k : Q (.bl b) H) : rIsG K a (.ref (He.ga K n)) (some d) [.ref a, .ref (He.ga K m)] H Q :=
  ⟨_, d, rfl, rfl, (We.x n hn).x, .ref (He.ga K m), .ref (He.ga K m), _, b, rfl, .own _, hd, by rw [← hb]; exact (We.kit n m hn hm).1, k⟩
/-- e.what in the suite -/
theorem xgE (We : StErr N K mg) {n : Str} {a d : Addr} {x : V} {σ : L2.St} {i : Nat} (hn : n ∈ N) (hs : σ[i]? = some (some (.ref a))) (hd : H d = some (.xd [("what", x)])) (k : Q x H) : tXg K a (.ref (He.ga K n)) (some d) "what" (tVar i) σ H Q :=
  Rd.var hs ⟨rfl, He.ga K n, d, _, x, rfl, rfl, Bd.ExcC.xf (We.x n hn).x, (We.x n hn).nw, hd, rfl, k⟩
theorem ints_of {l : List Int} : ∀ {xs : List V}, DpAll K H xs (l.map PyData.int) → xs = l.map V.int := by
  intro xs h
  induction l generalizing xs with
  | nil => cases h; rfl
  | cons n l ih =>
    cases h with
    | cons a b => cases dp_int a; rw [ih b]; rfl
end
end Fa
namespace Re
open PySem PySem.Spec PyProof.Rows L2 Es
theorem dnotX {P : Program} {w : World} {K : PySem.W.Frag} {σ : L2.St} {H : Hp} {Q : VK} {ty td : TE} (k : ty σ H fun y H1 => td σ H1 fun x H2 => ∃ a o, x = .ref a ∧ GX P w K H2 a y o ∧ Q (.bl (!o.isSome)) H2) : tDNotInX P w K ty td σ H Q := k
end Re
namespace Fa
open PySem PySem.Spec PyProof.Rows L2 Bd Es Dj Ef Re
section
variable {P : Program} {w : World} {K : PySem.W.Frag} {H H1 H2 H3 : Hp} {A A2 : SA} {S S2 M M2 : StM} {B B2 : BkT} {D D2 : MA} {U : List Addr}
theorem UpA.sub (u : UpA H A A2) : ∀ x ∈ A2.O, x ∈ A.O ∨ H x = none := fun x hx => by
  obtain ⟨ds, sk, rfl, h⟩ := u
  simp only [SA.O, List.mem_cons] at hx ⊢
  rcases hx with hx | hx | hx | hx | hx | hx | hx | hx
  · simp [hx]
  · simp [hx]
  · simp [hx]
  · simp [hx]
  · simp [hx]
  · simp [hx]
  · simp [hx]
  · exact (h x hx).imp (fun z => by simp [z]) id
/-- a list that is nobody's changes -/
theorem Lw.list {p : Addr} {l l' : List V} (h : Lw P w K H A S B D M) (hp : H p = some (.lst l)) (n : p ∉ A.O) (n2 : p ∉ D.O) : Lw P w K (upd H p (.lst l')) A S B D M :=
  ⟨h.st.list hp n, h.md.list hp n2, h.eq, h.z, h.nd, h.ok⟩
/-- a step that changed the state, then the law's own one, whose parts may stand elsewhere -/
theorem Stp.yes2 {a : Fa.Act} (h : Lw P w K H1 A S B D M) (s : Same H H1) (u2 : UpA H1 A A2) (l3 : Lw P w K H3 A2 (doA S a) B2 D2 M2) (t : D2.m = D.m) (f : Fr K (A.O ++ D.O) H1 H3) (ks : ∀ p ∈ (doA S a).outs.map (·.1), p ∈ S.outs.map (·.1) ∨ p.1 < 5) : Stp P w K H H3 A A2 S (doA S a) B2 D D2 M2 1 :=
  ⟨l3, u2.back (K := K) (O := A.O) (.of s) h.st.liveO, ⟨u2.z.2, t⟩, (Fr.of s).trans f, .inr ⟨rfl, a, rfl⟩, ks⟩
theorem mO_eq {D D' : MA} (e : D'.m = D.m ∧ D'.o = D.o ∧ D'.ac = D.ac ∧ D'.pt = D.pt ∧ D'.us = D.us) : D'.O = D.O := by
  obtain ⟨a, b, c, d, e⟩ := e
  simp only [MA.O, a, b, c, d, e]
end
/-- the keys of the stakes that the law draws -/
def stK : List Int := [2, 9, 10, 33, 100, 1000, 1000000000]
theorem stk_srt {R : List (Int × Int)} {n : Nat} (h : R.map (·.1) = stK.take n) : SrtO.Srtd ltII R := by
  have h1 : (stK.take n).Pairwise (· < ·) := List.Pairwise.sublist (List.take_sublist _ _) (by decide)
  rw [← h] at h1
  exact (List.pairwise_map.mp h1).imp fun {a b} q => ltII_no.mpr fun z => by
    rcases z with z | z <;> omega
end Fa
namespace Dj
open PySem PySem.Spec PyProof.Rows L2
theorem dpAll_rev {K : PySem.W.Frag} {H : Hp} {xs : List V} {ds : List PyData} (h : DpAll K H xs ds) : DpAll K H xs.reverse ds.reverse := by
  induction ds generalizing xs with
  | nil => cases h; exact .nil
  | cons d ds ih =>
    cases h with
    | cons a b =>
      rw [List.reverse_cons, List.reverse_cons]
      exact dpAll_app (ih b) (.cons a .nil)
end Dj

set_option Elab.async false
set_option linter.all false
set_option maxRecDepth 100000
set_option maxHeartbeats 4000000
/-! Walks over a locked dict whose turns read it; what the laws of states share besides. -/
namespace Es
open PySem PySem.Spec PyProof.Rows L2 Bd Dj
section
variable {X : Cx} {pins : List (Addr × Obj)} {σ : L2.St} {H : Hp} {s : Shared} {a b : Addr} {y v : V} {u : Value} {A : Around} {E : Value → Shared → Prop}
theorem dr_get {Q : Value → Shared → Prop} (hu : A.units + 1 < cLine) (I : Inv X pins σ H s) (g : GR X.prog X.w X.K H a y (some v)) (ry : RelV y u) (h : ∀ w' s', Inv X pins σ H s' → RelV v w' → Q w' s') :
    wpAny (model X.prog X.w) A (getItem (.ref a) u) Q E s := by
  obtain ⟨kvs, k, b, d, rfl, eb, l⟩ := g
  cases (show u = Value.ref b from ry)
  obtain ⟨_, xs, rel, dd⟩ := dr_at I d
  have q := rel.val k
  rw [← l] at q
  obtain ⟨w', hw, rw'⟩ := RelO.some_of q
  obtain ⟨p, hp, hp2⟩ := Option.map_eq_some_iff.mp hw
  exact wpAny_getItem_heap (tupleKind_room_in1 hu) (keyC I eb) dd hp (by rw [hp2]; exact h w' _ (I.tok _) rw')
end
/-- d[y], the dict locked or not -/
def tDGetR (P : Program) (w : World) (K : PySem.W.Frag) (td ty : TE) : TE := fun σ H Q => td σ H fun x H1 => ty σ H1 fun y H2 => ∃ a v, x = .ref a ∧ GR P w K H2 a y (some v) ∧ Q v H2
theorem pe_dgetR {X : Cx} {P : Program} {w : World} {K : PySem.W.Frag} {o i : Expr} {pos : Pos} {td ty : TE} (hP : X.prog = P) (hw : X.w = w) (hK : X.K = K) (hu : X.A.units + 1 < cLine) (ho : PE X o td) (hi : PE X i ty) (hs : NoSl i) : PE X (.Subscript o i pos) (tDGetR P w K td ty) := by
  subst hP; subst hw; subst hK
  refine ⟨fun pins s σ H Q I h => ?_⟩
  refine subD_of PySem.F.slot_dict_getitem.lookup hs (thn (ho.run pins s σ H _ I h) fun u s1 ⟨x, H1, I1, rx, q1⟩ => thn (hi.run pins s1 σ H1 _ I1 q1) fun iv s2 ⟨y, H2, I2, ry, a, v, ex, g, q2⟩ => ?_)
  subst ex
  obtain rfl : u = Value.ref a := rx
  have t := dr_typeIs I2 g.choose_spec.choose_spec.choose_spec.1
  exact ⟨t.1, dr_get hu I2 g ry fun w' s3 I3 rw' => ⟨v, H2, I3, rw', q2⟩⟩
end Es
namespace Re
open PySem PySem.Spec PyProof.Rows L2 Bd Es Dj Ef
section
variable {P : Program} {w : World} {K : PySem.W.Frag} {σ : L2.St} {H : Hp} {Q : VK} {td ty : TE} {n b c : L2.St → Hp → Prop} {r : VK}
theorem dgetR (k : td σ H fun x H1 => ty σ H1 fun y H2 => ∃ a v, x = .ref a ∧ GR P w K H2 a y (some v) ∧ Q v H2) : tDGetR P w K td ty σ H Q := k
/-- for x in d, d locked -/
theorem forKeysX {d : Addr} {g0 : Obj} {ks : List (List Key × Addr × Value)} {g : TG} {tb : TS} (Pv : Nat → L2.St → Hp → Prop) (h : H d = some (.frz g0 (dX P w d ks))) (h0 : Pv 0 σ H) (hl : ∀ i σ H', i ≤ ks.length → Pv i σ H' → H' d = some (.frz g0 (dX P w d ks)))
    (hs : ∀ (i : Nat) (e : List Key × Addr × Value) (σ' : L2.St) (H' : Hp), ks[i]? = some e → Pv i σ' H' → g (.ref e.2.1) σ' H' fun σ2 H2 => tb ⟨Pv (i + 1), r, n, Pv (i + 1)⟩ σ2 H2) (hd : ∀ σ' H', Pv ks.length σ' H' → n σ' H') :
    Rd.ForJ g tb ⟨n, r, b, c⟩ σ (ItX P w d g0 ks) H := by
  refine ⟨fun i m σ' H' => m = ks.length - i ∧ i ≤ ks.length ∧ Pv i σ' H', ⟨ks.length, by simp, Nat.zero_le _, h0⟩, ?_⟩
  rintro i m σ' H' ⟨rfl, hi, p⟩
  have q := hl i σ' H' hi p
  by_cases hlt : i < ks.length
  · refine .inr ⟨⟨q, hlt⟩, Pv (i + 1), fun σ2 H2 p' => ⟨ks.length - (i + 1), by omega, rfl, hlt, p'⟩, ?_⟩
    rintro x H2 ⟨rfl, e, he, rfl⟩
    exact hs i e σ' _ he p
  · have e : i = ks.length := by omega
    subst e
    exact .inl ⟨⟨q, Nat.le_refl _⟩, hd σ' H' p⟩
end
end Re
namespace Fa
open PySem PySem.Spec PyProof.Rows L2 Bd Es Dj Ef Re
section
variable {P : Program} {w : World} {K : PySem.W.Frag} {H H' : Hp} {A : SA} {S M : StM} {B : BkT} {D : MA}
theorem setA_len {l : List (Int × (Int × Int))} {k : Int} {o : Option (Int × Int)} : (setA l k o).length ≤ l.length + 1 := by
  cases o with
  | none => exact Nat.le_trans (List.length_filter_le _ _) (Nat.le_succ _)
  | some q =>
    rw [setA_some]
    split
    · rw [List.length_map]; omega
    · rw [List.length_append]; simp
theorem doA_len (S : StM) (a : Act) : (doA S a).accs.length ≤ S.accs.length + 1 ∧ (doA S a).used.length ≤ S.used.length + 1 ∧ (doA S a).n = S.n ∧ (doA S a).fgt = S.fgt ∧ (doA S a).chg.length = S.chg.length + 1 ∧ (doA S a).outs.length ≤ S.outs.length + 1 := by
  have hl : (logA S (befA S a)).chg.length = S.chg.length + 1 := log_len
  cases a with
  | out p o =>
    cases o with
    | none => exact ⟨Nat.le_succ _, Nat.le_succ _, rfl, rfl, hl, Nat.le_trans (List.length_filter_le _ _) (Nat.le_succ _)⟩
    | some t => exact ⟨Nat.le_succ _, Nat.le_succ _, rfl, rfl, hl, by show (S.outs ++ [(p, t)]).length ≤ _; rw [List.length_append]; simp⟩
  | acc k o => exact ⟨setA_len, Nat.le_succ _, rfl, rfl, hl, Nat.le_succ _⟩
  | pot n v =>
    match n with
    | 0 => exact ⟨Nat.le_succ _, Nat.le_succ _, rfl, rfl, hl, Nat.le_succ _⟩
    | 1 => exact ⟨Nat.le_succ _, Nat.le_succ _, rfl, rfl, hl, Nat.le_succ _⟩
    | n + 2 => exact ⟨Nat.le_succ _, Nat.le_succ _, rfl, rfl, hl, Nat.le_succ _⟩
  | clk s e => exact ⟨Nat.le_succ _, Nat.le_succ _, rfl, rfl, hl, Nat.le_succ _⟩
  | stk rows => exact ⟨Nat.le_succ _, Nat.le_succ _, rfl, rfl, hl, Nat.le_succ _⟩
  | use n b =>
    cases b with
    | true => exact ⟨Nat.le_succ _, by show (S.used ++ [n]).length ≤ _; rw [List.length_append]; simp, rfl, rfl, hl, Nat.le_succ _⟩
    | false => exact ⟨Nat.le_succ _, Nat.le_trans (List.length_filter_le _ _) (Nat.le_succ _), rfl, rfl, hl, Nat.le_succ _⟩
theorem Lw.upto {m : Nat} (h : Lw P w K H A S B D M) (hm : S.n ≤ m) : Lw P w K H A { S with n := m } B D M :=
  ⟨h.st.upto hm, h.md, ⟨h.eq.fees, h.eq.res, h.eq.tre, h.eq.slot, h.eq.epo, h.eq.stk, h.eq.outs, h.eq.accs, h.eq.used⟩, h.z, h.nd, h.ok⟩
theorem lw_pic {d e : PyData} (h : Lw P w K H A S B D M) (h1 : PicS S d) (h2 : PicS M e) : d = e ∧ SeqAt.shaped d = true ∧ nd d = true := by
  have h3 := h2.congr h.eq h.md.ond h.md.and_
  have h4 := h2.sh h.ok
  have e2 := h1.uniq h3
  exact ⟨e2, by rw [e2]; exact h4.1, by rw [e2]; exact h4.2⟩
end
end Fa
namespace Fa
open PySem PySem.Spec PyProof.Rows L2 Bd Es Dj Ef Re
section
variable {P : Program} {w : World} {K : PySem.W.Frag} {H H0 H' : Hp} {A A' : SA} {S S' M M' : StM} {B B' : BkT} {D D' : MA} {z : Int}
theorem StAt.liveV (h : StAt P w K H A S B) : ∀ x ∈ A.V, H x ≠ none := fun x hx => (List.mem_append.mp hx).elim (h.liveO x) fun q => (h.zl x q).1
/-- a step, from a heap that has none of the two states -/
theorem Stp.run (st : Stp P w K H H' A A' S S' B' D D' M' z) (s0 : Same H0 H) (hV : ∀ x ∈ A.V, H0 x = none) (hz : ∀ x ∈ D.O, x ∈ A.z) : Same H0 H' ∧ ∀ x ∈ A'.V, H0 x = none := by
  refine ⟨fun a o e => st.f.keep a o (fun q => ?_) (s0 a o e), fun x hx => ?_⟩
  · have : a ∈ A.V := (List.mem_append.mp q).elim (SA.oV a) fun r => List.mem_append_right _ (hz a r)
    rw [hV a this] at e; cases e
  · rcases List.mem_append.mp hx with q | q
    · rcases st.up.sub x q with r | r
      · exact hV x (SA.oV x r)
      · exact s0.free r
    · exact hV x (List.mem_append_right _ (by rw [← st.up.z.1]; exact q))
theorem Stp.len (st : Stp P w K H H' A A' S S' B' D D' M' z) : S'.accs.length ≤ S.accs.length + 1 ∧ S'.used.length ≤ S.used.length + 1 ∧ S'.n = S.n ∧ S'.fgt = S.fgt ∧ (S'.chg.length : Int) = S.chg.length + z ∧ 0 ≤ z ∧ S'.outs.length ≤ S.outs.length + 1 := by
  rcases st.zs with ⟨rfl, rfl⟩ | ⟨rfl, a, rfl⟩
  · exact ⟨Nat.le_succ _, Nat.le_succ _, rfl, rfl, by omega, by omega, Nat.le_succ _⟩
  · have := doA_len S a
    exact ⟨this.1, this.2.1, this.2.2.1, this.2.2.2.1, by omega, by omega, this.2.2.2.2.2⟩
end
end Fa
namespace Fa
open PySem PySem.Spec PyProof.Rows L2 Bd Es Dj Ef Re
section
variable {P : Program} {w : World} {K : PySem.W.Frag} {H H0 H' : Hp} {A A' : SA} {S S' M M' : StM} {B B' : BkT} {D D' : MA} {z : Int}
theorem StAt.noZ (h : StAt P w K H A S B) : StAt P w K H { A with z := [] } S B := by
  have g : ∀ x ∈ ({ A with z := [] } : SA).V, x ∈ A.V ∨ H x = none := fun x hx => .inl (by
    rcases List.mem_append.mp hx with q | q
    · exact List.mem_append_left _ q
    · cases q)
  exact { nd := h.nd, t := h.t, bk := h.bk, bm := h.bm, lb := h.lb, lo := h.lo, ond := h.ond, ad := h.ad, and_ := h.and_, sk := h.sk, ud := h.ud, und := h.und
          od := by
            obtain ⟨kv, h1, h2⟩ := h.od
            exact ⟨kv, h1, Paired.mapP h2 fun _ _ ⟨e, q⟩ => ⟨e, q.fr (Fr.refl (O := A.V)) g⟩⟩
          cl := by
            obtain ⟨xs, h1, h2⟩ := h.cl
            exact ⟨xs, h1, Paired.mapP h2 fun _ _ q => q.fr (Fr.refl (O := A.V)) g⟩
          zl := fun x hx => by cases hx }
/-- a state on its first day beside the law's own one -/
theorem Lw.start {G : List (Int × Int)} {res : Int} (L : StAt P w K H A (stZ G res) B) (hO : ∀ x ∈ A.O, H0 x = none) (s : Same H H') (hM : MdS P w K H' D (stZ G res)) (hD0 : ∀ x ∈ D.O, H x = none) (hDn : D.O.Nodup) (s0 : Same H0 H) :
    ∃ A2 : SA, A.t = A2.t ∧ Lw P w K H' A2 (stZ G res) B D (stZ G res) ∧ ∀ x ∈ A2.V, H0 x = none :=
  ⟨{ A with z := [] ++ D.O }, rfl, ⟨L.noZ.addZ hD0 s (fun x hx => hM.live x hx), hM, .refl _, fun x hx => List.mem_append_right _ hx, hDn, stZ_ok⟩, fun x hx => (List.mem_append.mp hx).elim (hO x) fun q => s0.free (hD0 x ((List.mem_append.mp q).elim (fun q => by cases q) id))⟩
/-- room for a step -/
theorem Lw.room {m : Nat} (h : Lw P w K H A S B D M) (hm : S.n + 2 ≤ m) : ∃ T : StM, Lw P w K H A T B D M ∧ T.n = m ∧ T.fgt = S.fgt ∧ T.chg = S.chg ∧ T.accs = S.accs ∧ T.used = S.used ∧ T.outs = S.outs ∧ (List.length B + T.chg.length + 2 ≤ T.n ∧ List.length T.outs + T.chg.length + 2 ≤ T.n) :=
  ⟨{ S with n := m }, h.upto (by omega), rfl, rfl, rfl, rfl, rfl, rfl, by have := h.st.lb; show List.length B + S.chg.length + 2 ≤ m; omega, by have := h.st.lo; show List.length S.outs + S.chg.length + 2 ≤ m; omega⟩
end
end Fa
namespace Fa
open PySem PySem.Spec PyProof.Rows L2 Bd Es Dj Ef Re
section
variable {P : Program} {w : World} {K : PySem.W.Frag} {H : Hp} {D : MA} {R : V → Prop}
theorem mdG {k : Key} {v : V} (h : H D.m = some (.dK (mdKv D))) (e : valV (mdKv D) k = some v) (q : R v) : ∃ a v, V.ref D.m = .ref a ∧ DGet H a (kV k) (some v) ∧ R v :=
  ⟨D.m, v, rfl, by have := DGet.k (k := k) h; rwa [e] at this, q⟩
theorem mdGO (h : H D.m = some (.dK (mdKv D))) (q : R (.ref D.o)) : ∃ a v, V.ref D.m = .ref a ∧ DGet H a (.str (Rd.S [111, 117, 116, 112, 117, 116, 115])) (some v) ∧ R v := mdG (k := kO) h (mdV D).1 q
end
theorem kO_ne (D : MA) : True := trivial
end Fa
namespace Fa
open PySem PySem.Spec PyProof.Rows L2 Bd Es Dj Ef Re
section
variable {P : Program} {w : World} {K : PySem.W.Frag} {H H' : Hp} {A : SA} {S M : StM} {B : BkT} {D : MA}
theorem p2_sh (n : Nat) (q : Int × Int) : SeqAt.shaped (encP2 q) = true := (encP2_sh1 q 1).shaped (by decide)
theorem p2s_sh (R : List (Int × Int)) : SeqAt.shaped (.list (R.map encP2)) = true := (Sh.list (n := 1) fun d hd => by
  obtain ⟨r, _, rfl⟩ := List.mem_map.mp hd
  exact encP2_sh1 r 0).shaped (by decide)
theorem p2s_nd (R : List (Int × Int)) : nd (.list (R.map encP2)) = true := by simp only [nd]; exact ndMap fun _ => rfl
theorem ints_sh (R : List Int) : SeqAt.shaped (.list (R.map PyData.int)) = true := (Sh.list (n := 1) fun d hd => by
  obtain ⟨r, _, rfl⟩ := List.mem_map.mp hd
  exact .int _ _).shaped (by decide)
theorem ints_nd (R : List Int) : nd (.list (R.map PyData.int)) = true := by simp only [nd]; exact ndMap fun _ => rfl
/-- an account in the state and in the law's own dict -/
theorem lw_acc {y : Int} {v : V} (h : Lw P w K H A S B D M) (hv : (∃ q, lookA S.accs y = some q ∧ P2At K H v q) ∨ (lookA S.accs y = none ∧ v = .non)) :
    ∃ av d, H D.ac = some (.dK av) ∧ Dp K H v d ∧ Dp K H ((valV av (.inl y)).getD .non) d ∧ nd d = true ∧ SeqAt.shaped d = true := by
  obtain ⟨av, hA, hP⟩ := h.md.accs
  have e := lookA_perm h.eq.accs h.md.and_ y
  rcases hv with ⟨q, h1, z, rfl, hz⟩ | ⟨h1, rfl⟩
  · rcases accs_look (k := y) hP with ⟨t, u, g1, g2, z2, rfl, hz2⟩ | ⟨g1, _⟩
    · rw [g1, h1] at e
      obtain rfl : t = q := Option.some.inj e
      exact ⟨av, encP2 t, hA, .tup hz (.cons (.int _) (.cons (.int _) .nil)), by rw [g2]; exact .tup hz2 (.cons (.int _) (.cons (.int _) .nil)), rfl, p2_sh 0 t⟩
    · rw [g1, h1] at e; cases e
  · rcases accs_look (k := y) hP with ⟨t, u, g1, g2, _⟩ | ⟨_, g2⟩
    · rw [g1, h1] at e; cases e
    · exact ⟨av, .none, hA, .non, by rw [g2]; exact .non, rfl, rfl⟩
theorem dr_same {a : Addr} {kvs : List (List Key × V)} (h : DR P w K H a kvs) (s : Same H H') : DR P w K H' a kvs := by
  obtain ⟨hz, xs, h1, rel⟩ := h
  exact ⟨hz, xs, h1.imp (fun q => s _ _ q) (fun ⟨g, q⟩ => ⟨g, s _ _ q⟩), rel.keeps fun q ys hq => Rd.same_tup s hq⟩
end
end Fa

set_option Elab.async false
set_option linter.all false
set_option maxRecDepth 100000
set_option maxHeartbeats 4000000
namespace NK44
open PySem PySem.Spec PyProof.Rows L2
def top (i : Nat) : Stmt := PySem.Challenge.pw_keptcoin_k44_one_change_at_a_time.main.body.getD i (.Pass ⟨0, 0, 0, 0⟩)
abbrev FnP (K : PySem.W.Frag) (x : Str) (st : Stmt) (f : Addr) (fd : FuncData) : Prop := FunD K x x (defArgs st) (defBody st) (defScope st) [] [] f fd
/-- a def that keeps its promise, where the module finds it -/
structure Cal (P : Program) (w : World) (K : PySem.W.Frag) (mg : Str → Option Value) (base : Heap) (x : Str) (k : Nat) (ps : List Str) (sp : Sp) : Prop where
  ex : ∃ f fd, mg x = some (.ref f) ∧ PySem.W.keepIn K (.ref f) = true ∧ Binds K fd ps [] ∧ FnOk P w K mg base CX0 k f fd ps sp
structure CalM (P : Program) (w : World) (K : PySem.W.Frag) (mg : Str → Option Value) (base : Heap) (fa : Addr) (k : Nat) (ps : List Str) (dvs : List V) (sp : Sp) : Prop where
  ex : ∃ fd, Binds K fd ps [] ∧ FnOk P w K mg base CX0 k fa fd ps sp ∧ ∃ ds, Vals dvs ds ∧ Binds K fd ps ds
structure CalMX (P : Program) (w : World) (K : PySem.W.Frag) (mg : Str → Option Value) (base : Heap) (fa : Addr) (k : Nat) (ps : List Str) (dvs : List V) (sp : Sp) : Prop where
  ex : ∃ fd, Binds K fd ps [] ∧ FnOk P w K mg base (L2.CX P w) k fa fd ps sp ∧ ∃ ds, Vals dvs ds ∧ Binds K fd ps ds
abbrev s_Bundle___init : Stmt := inClass (top 3) 0
abbrev N_Bundle___init : List Str := ["self", "rows", "sums", "asset", "quantity"]
theorem sc_Bundle___init : FnScope N_Bundle___init ["self", "rows"] (defScope s_Bundle___init) := ⟨rfl, rfl, rfl, by decide +kernel, rfl, by decide +kernel, by decide +kernel⟩
abbrev s_Bundle_of_coin : Stmt := inClass (top 3) 2
abbrev N_Bundle_of_coin : List Str := ["quantity"]
theorem sc_Bundle_of_coin : FnScope N_Bundle_of_coin ["quantity"] (defScope s_Bundle_of_coin) := ⟨rfl, rfl, rfl, by decide +kernel, rfl, by decide +kernel, by decide +kernel⟩
abbrev s_Bundle___iter : Stmt := inClass (top 3) 12
abbrev N_Bundle___iter : List Str := ["self"]
theorem sc_Bundle___iter : FnScope N_Bundle___iter ["self"] (defScope s_Bundle___iter) := ⟨rfl, rfl, rfl, by decide +kernel, rfl, by decide +kernel, by decide +kernel⟩
abbrev s_KeptError___init : Stmt := inClass (top 5) 0
abbrev N_KeptError___init : List Str := ["self", "what"]
theorem sc_KeptError___init : FnScope N_KeptError___init ["self", "what"] (defScope s_KeptError___init) := ⟨rfl, rfl, rfl, by decide +kernel, rfl, by decide +kernel, by decide +kernel⟩
abbrev s_Books___init : Stmt := inClass (top 11) 0
abbrev N_Books___init : List Str := ["self"]
theorem sc_Books___init : FnScope N_Books___init ["self"] (defScope s_Books___init) := ⟨rfl, rfl, rfl, by decide +kernel, rfl, by decide +kernel, by decide +kernel⟩
abbrev s_Books_added : Stmt := inClass (top 11) 1
abbrev N_Books_added : List Str := ["self", "ref", "output"]
theorem sc_Books_added : FnScope N_Books_added ["self", "ref", "output"] (defScope s_Books_added) := ⟨rfl, rfl, rfl, by decide +kernel, rfl, by decide +kernel, by decide +kernel⟩
abbrev s_Books_removed : Stmt := inClass (top 11) 2
abbrev N_Books_removed : List Str := ["self", "ref", "output"]
theorem sc_Books_removed : FnScope N_Books_removed ["self", "ref", "output"] (defScope s_Books_removed) := ⟨rfl, rfl, rfl, by decide +kernel, rfl, by decide +kernel, by decide +kernel⟩
abbrev s_Output___init : Stmt := inClass (top 13) 0
abbrev N_Output___init : List Str := ["self", "address", "bundle", "datum"]
theorem sc_Output___init : FnScope N_Output___init ["self", "address", "bundle", "datum"] (defScope s_Output___init) := ⟨rfl, rfl, rfl, by decide +kernel, rfl, by decide +kernel, by decide +kernel⟩
abbrev s_Output_picture : Stmt := inClass (top 13) 1
abbrev N_Output_picture : List Str := ["self"]
theorem sc_Output_picture : FnScope N_Output_picture ["self"] (defScope s_Output_picture) := ⟨rfl, rfl, rfl, by decide +kernel, rfl, by decide +kernel, by decide +kernel⟩
abbrev s_State___init : Stmt := inClass (top 15) 0
abbrev N_State___init : List Str := ["self", "grants", "reserve", "index", "key", "coin"]
theorem sc_State___init : FnScope N_State___init ["self", "grants", "reserve"] (defScope s_State___init) := ⟨rfl, rfl, rfl, by decide +kernel, rfl, by decide +kernel, by decide +kernel⟩
abbrev s_State__change : Stmt := inClass (top 15) 1
abbrev N_State__change : List Str := ["self", "kind", "item", "before", "after", "put"]
theorem sc_State__change : FnScope N_State__change ["self", "kind", "item", "before", "after"] (defScope s_State__change) := ⟨rfl, rfl, rfl, by decide +kernel, rfl, by decide +kernel, by decide +kernel⟩
abbrev s_State_add_output : Stmt := inClass (top 15) 2
abbrev N_State_add_output : List Str := ["self", "ref", "output"]
theorem sc_State_add_output : FnScope N_State_add_output ["self", "ref", "output"] (defScope s_State_add_output) := ⟨rfl, rfl, rfl, by decide +kernel, rfl, by decide +kernel, by decide +kernel⟩
abbrev s_State_remove_output : Stmt := inClass (top 15) 3
abbrev N_State_remove_output : List Str := ["self", "ref", "output"]
theorem sc_State_remove_output : FnScope N_State_remove_output ["self", "ref"] (defScope s_State_remove_output) := ⟨rfl, rfl, rfl, by decide +kernel, rfl, by decide +kernel, by decide +kernel⟩
abbrev s_State_set_account : Stmt := inClass (top 15) 4
abbrev N_State_set_account : List Str := ["self", "key", "pair"]
theorem sc_State_set_account : FnScope N_State_set_account ["self", "key", "pair"] (defScope s_State_set_account) := ⟨rfl, rfl, rfl, by decide +kernel, rfl, by decide +kernel, by decide +kernel⟩
abbrev s_State_set_pot : Stmt := inClass (top 15) 5
abbrev N_State_set_pot : List Str := ["self", "pot", "amount", "pots"]
theorem sc_State_set_pot : FnScope N_State_set_pot ["self", "pot", "amount"] (defScope s_State_set_pot) := ⟨rfl, rfl, rfl, by decide +kernel, rfl, by decide +kernel, by decide +kernel⟩
abbrev s_State_set_clock : Stmt := inClass (top 15) 6
abbrev N_State_set_clock : List Str := ["self", "slot", "epoch"]
theorem sc_State_set_clock : FnScope N_State_set_clock ["self", "slot", "epoch"] (defScope s_State_set_clock) := ⟨rfl, rfl, rfl, by decide +kernel, rfl, by decide +kernel, by decide +kernel⟩
abbrev s_State_set_stakes : Stmt := inClass (top 15) 7
abbrev N_State_set_stakes : List Str := ["self", "rows"]
theorem sc_State_set_stakes : FnScope N_State_set_stakes ["self", "rows"] (defScope s_State_set_stakes) := ⟨rfl, rfl, rfl, by decide +kernel, rfl, by decide +kernel, by decide +kernel⟩
abbrev s_State_use : Stmt := inClass (top 15) 8
abbrev N_State_use : List Str := ["self", "number"]
theorem sc_State_use : FnScope N_State_use ["self", "number"] (defScope s_State_use) := ⟨rfl, rfl, rfl, by decide +kernel, rfl, by decide +kernel, by decide +kernel⟩
abbrev s_State_output : Stmt := inClass (top 15) 9
abbrev N_State_output : List Str := ["self", "ref"]
theorem sc_State_output : FnScope N_State_output ["self", "ref"] (defScope s_State_output) := ⟨rfl, rfl, rfl, by decide +kernel, rfl, by decide +kernel, by decide +kernel⟩
abbrev s_State_account : Stmt := inClass (top 15) 10
abbrev N_State_account : List Str := ["self", "key"]
theorem sc_State_account : FnScope N_State_account ["self", "key"] (defScope s_State_account) := ⟨rfl, rfl, rfl, by decide +kernel, rfl, by decide +kernel, by decide +kernel⟩
abbrev s_State_is_used : Stmt := inClass (top 15) 11
abbrev N_State_is_used : List Str := ["self", "number"]
theorem sc_State_is_used : FnScope N_State_is_used ["self", "number"] (defScope s_State_is_used) := ⟨rfl, rfl, rfl, by decide +kernel, rfl, by decide +kernel, by decide +kernel⟩
abbrev s_State_unspent : Stmt := inClass (top 15) 12
abbrev N_State_unspent : List Str := ["self"]
theorem sc_State_unspent : FnScope N_State_unspent ["self"] (defScope s_State_unspent) := ⟨rfl, rfl, rfl, by decide +kernel, rfl, by decide +kernel, by decide +kernel⟩
abbrev s_State_keys_joined : Stmt := inClass (top 15) 13
abbrev N_State_keys_joined : List Str := ["self"]
theorem sc_State_keys_joined : FnScope N_State_keys_joined ["self"] (defScope s_State_keys_joined) := ⟨rfl, rfl, rfl, by decide +kernel, rfl, by decide +kernel, by decide +kernel⟩
abbrev s_State_stakes : Stmt := inClass (top 15) 14
abbrev N_State_stakes : List Str := ["self"]
theorem sc_State_stakes : FnScope N_State_stakes ["self"] (defScope s_State_stakes) := ⟨rfl, rfl, rfl, by decide +kernel, rfl, by decide +kernel, by decide +kernel⟩
abbrev s_State_mark : Stmt := inClass (top 15) 16
abbrev N_State_mark : List Str := ["self"]
theorem sc_State_mark : FnScope N_State_mark ["self"] (defScope s_State_mark) := ⟨rfl, rfl, rfl, by decide +kernel, rfl, by decide +kernel, by decide +kernel⟩
abbrev s_State_picture : Stmt := inClass (top 15) 20
abbrev N_State_picture : List Str := ["self", "outputs", "accounts", "ref", "key"]
theorem sc_State_picture : FnScope N_State_picture ["self"] (defScope s_State_picture) := ⟨rfl, rfl, rfl, by decide +kernel, rfl, by decide +kernel, by decide +kernel⟩
abbrev s_put_output : Stmt := top 16
abbrev N_put_output : List Str := ["state", "ref", "output"]
theorem sc_put_output : FnScope N_put_output ["state", "ref", "output"] (defScope s_put_output) := ⟨rfl, rfl, rfl, by decide +kernel, rfl, by decide +kernel, by decide +kernel⟩
abbrev s_put_account : Stmt := top 17
abbrev N_put_account : List Str := ["state", "key", "pair"]
theorem sc_put_account : FnScope N_put_account ["state", "key", "pair"] (defScope s_put_account) := ⟨rfl, rfl, rfl, by decide +kernel, rfl, by decide +kernel, by decide +kernel⟩
abbrev s_put_pot : Stmt := top 18
abbrev N_put_pot : List Str := ["state", "pot", "amount"]
theorem sc_put_pot : FnScope N_put_pot ["state", "pot", "amount"] (defScope s_put_pot) := ⟨rfl, rfl, rfl, by decide +kernel, rfl, by decide +kernel, by decide +kernel⟩
abbrev s_put_clock : Stmt := top 19
abbrev N_put_clock : List Str := ["state", "item", "clock"]
theorem sc_put_clock : FnScope N_put_clock ["state", "item", "clock"] (defScope s_put_clock) := ⟨rfl, rfl, rfl, by decide +kernel, rfl, by decide +kernel, by decide +kernel⟩
abbrev s_put_stakes : Stmt := top 20
abbrev N_put_stakes : List Str := ["state", "item", "rows"]
theorem sc_put_stakes : FnScope N_put_stakes ["state", "item", "rows"] (defScope s_put_stakes) := ⟨rfl, rfl, rfl, by decide +kernel, rfl, by decide +kernel, by decide +kernel⟩
abbrev s_put_used : Stmt := top 21
abbrev N_put_used : List Str := ["state", "number", "is_used"]
theorem sc_put_used : FnScope N_put_used ["state", "number", "is_used"] (defScope s_put_used) := ⟨rfl, rfl, rfl, by decide +kernel, rfl, by decide +kernel, by decide +kernel⟩
abbrev s_law_cell : Stmt := top 24
abbrev N_law_cell : List Str := ["script", "k"]
theorem sc_law_cell : FnScope N_law_cell ["script", "k"] (defScope s_law_cell) := ⟨rfl, rfl, rfl, by decide +kernel, rfl, by decide +kernel, by decide +kernel⟩
abbrev s_law_numbers : Stmt := top 25
abbrev N_law_numbers : List Str := ["cell", "many", "rest", "size", "numbers", "k", "mixed"]
theorem sc_law_numbers : FnScope N_law_numbers ["cell", "many"] (defScope s_law_numbers) := ⟨rfl, rfl, rfl, by decide +kernel, rfl, by decide +kernel, by decide +kernel⟩
abbrev s_law_output : Stmt := top 26
abbrev N_law_output : List Str := ["numbers", "at", "rows", "address", "datum", "k"]
theorem sc_law_output : FnScope N_law_output ["numbers", "at"] (defScope s_law_output) := ⟨rfl, rfl, rfl, by decide +kernel, rfl, by decide +kernel, by decide +kernel⟩
abbrev s_law_grants : Stmt := top 27
abbrev N_law_grants : List Str := ["numbers", "grants", "k"]
theorem sc_law_grants : FnScope N_law_grants ["numbers"] (defScope s_law_grants) := ⟨rfl, rfl, rfl, by decide +kernel, rfl, by decide +kernel, by decide +kernel⟩
abbrev s_law_first : Stmt := top 28
abbrev N_law_first : List Str := ["grants", "reserve", "outputs", "k"]
theorem sc_law_first : FnScope N_law_first ["grants", "reserve"] (defScope s_law_first) := ⟨rfl, rfl, rfl, by decide +kernel, rfl, by decide +kernel, by decide +kernel⟩
abbrev s_law_picture : Stmt := top 29
abbrev N_law_picture : List Str := ["model", "outputs", "accounts", "pots", "used", "ref", "key"]
theorem sc_law_picture : FnScope N_law_picture ["model"] (defScope s_law_picture) := ⟨rfl, rfl, rfl, by decide +kernel, rfl, by decide +kernel, by decide +kernel⟩
abbrev s_law_outputs_step : Stmt := top 30
abbrev N_law_outputs_step : List Str := ["state", "model", "numbers", "ref", "there", "e", "output", "triple"]
theorem sc_law_outputs_step : FnScope N_law_outputs_step ["state", "model", "numbers"] (defScope s_law_outputs_step) := ⟨rfl, rfl, rfl, by decide +kernel, rfl, by decide +kernel, by decide +kernel⟩
abbrev s_law_pot_step : Stmt := top 31
abbrev N_law_pot_step : List Str := ["state", "model", "numbers", "pot", "e"]
theorem sc_law_pot_step : FnScope N_law_pot_step ["state", "model", "numbers"] (defScope s_law_pot_step) := ⟨rfl, rfl, rfl, by decide +kernel, rfl, by decide +kernel, by decide +kernel⟩
abbrev s_law_use_step : Stmt := top 32
abbrev N_law_use_step : List Str := ["state", "model", "numbers", "number", "e"]
theorem sc_law_use_step : FnScope N_law_use_step ["state", "model", "numbers"] (defScope s_law_use_step) := ⟨rfl, rfl, rfl, by decide +kernel, rfl, by decide +kernel, by decide +kernel⟩
abbrev s_law_step : Stmt := top 33
abbrev N_law_step : List Str := ["state", "model", "numbers", "kind", "key", "pair", "keys", "rows", "passed", "k"]
theorem sc_law_step : FnScope N_law_step ["state", "model", "numbers"] (defScope s_law_step) := ⟨rfl, rfl, rfl, by decide +kernel, rfl, by decide +kernel, by decide +kernel⟩
abbrev s_law : Stmt := top 34
abbrev N_law : List Str := ["script", "numbers", "grants", "state", "model", "mark", "k", "ref", "key", "number", "pots", "grown"]
theorem sc_law : FnScope N_law ["script"] (defScope s_law) := ⟨rfl, rfl, rfl, by decide +kernel, rfl, by decide +kernel, by decide +kernel⟩

open Bd Es Dj
def coinA : Ast := (Rd.S [], 0)
theorem _root_.Bd.Nrm.filter {N : List (Ast × Int)} {p : Ast × Int → Bool} (h : Nrm N) : Nrm (N.filter p) := ⟨List.Pairwise.filter _ h.srt, (List.filter_sublist.map _).nodup h.nd, fun e he => h.nz e (List.mem_filter.mp he).1⟩
abbrev aC (K : PySem.W.Frag) : Addr := He.ga K "COIN"
structure CoinF (K : PySem.W.Frag) (mg : Str → Option Value) : Prop where
  m : mg "COIN" = some (.ref (aC K))
  at_ : ∀ H, SqT K H (aC K) [.str coinA.1, .int coinA.2]

open Ef Re Fa
/-- the default of a datum -/
structure DflF (K : PySem.W.Frag) : Prop where
  o : ∀ H, SqT K H (He.dflAt ("Output", some "__init__") 0 K) []

def OkS (A : List Ast) : Prop := ∀ x ∈ A, OkA x ∧ x.1.length ≤ 10
theorem OkS.app {A : List Ast} {x : Ast} (h : OkS A) (k : OkA x ∧ x.1.length ≤ 10) : OkS (A ++ [x]) := fun y hy => (List.mem_append.mp hy).elim (h y) fun z => by rw [List.mem_singleton.mp z]; exact k
theorem OkS.append {A B : List Ast} (h : OkS A) (k : OkS B) : OkS (A ++ B) := fun y hy => (List.mem_append.mp hy).elim (h y) (k y)
theorem tot_fm (p : Ast) : ∀ R : List (Ast × Int), (R.filterMap fun e => if e.1 = p then some e.2 else none).sum = tot R p
  | [] => rfl
  | e :: R => by
    have ih := tot_fm p R
    have e1 : tot (e :: R) p = (if e.1 = p then e.2 else 0) + tot R p := rfl
    by_cases h : e.1 = p <;> simp [List.filterMap_cons, h, ih, e1]

/-- the table of the defs that put -/
structure PutsF (K : PySem.W.Frag) (w : World) (mg : Str → Option Value) : Prop where
  m : mg "_PUTS" = some (.ref (He.ga K "_PUTS"))
  fs : ∀ a, mg (putName a) = some (.ref (He.ga K (putName a)))
  kd : ∀ a, KDct K w (He.ga K "_PUTS") (kindA a) (.ref (He.ga K (putName a)))
def putsB (K : PySem.W.Frag) : Bool := Bd.keyB K (He.ga K "_PUTS") "output" (He.ga K "_put_output") && (Bd.keyB K (He.ga K "_PUTS") "account" (He.ga K "_put_account") && (Bd.keyB K (He.ga K "_PUTS") "pot" (He.ga K "_put_pot") && (Bd.keyB K (He.ga K "_PUTS") "clock" (He.ga K "_put_clock") && (Bd.keyB K (He.ga K "_PUTS") "stakes" (He.ga K "_put_stakes") && (Bd.keyB K (He.ga K "_PUTS") "used" (He.ga K "_put_used"))))))
theorem puts_ok {K : PySem.W.Frag} {w : World} {mg : Str → Option Value} (m : mg "_PUTS" = some (.ref (He.ga K "_PUTS"))) (h1 : mg "_put_output" = some (.ref (He.ga K "_put_output"))) (h2 : mg "_put_account" = some (.ref (He.ga K "_put_account"))) (h3 : mg "_put_pot" = some (.ref (He.ga K "_put_pot"))) (h4 : mg "_put_clock" = some (.ref (He.ga K "_put_clock"))) (h5 : mg "_put_stakes" = some (.ref (He.ga K "_put_stakes"))) (h6 : mg "_put_used" = some (.ref (He.ga K "_put_used"))) (T : ∃ es n, KDict K w (He.ga K "_PUTS") es n) (b : putsB K = true) : PutsF K w mg := by
  obtain ⟨es, n, T⟩ := T
  unfold putsB at b
  simp only [Bool.and_eq_true] at b
  obtain ⟨b1, b2, b3, b4, b5, b6⟩ := b
  refine ⟨m, fun a => ?_, fun a => ?_⟩
  · cases a <;> assumption
  · cases a
    · exact Bd.keyB_ok T b1
    · exact Bd.keyB_ok T b2
    · exact Bd.keyB_ok T b3
    · exact Bd.keyB_ok T b4
    · exact Bd.keyB_ok T b5
    · exact Bd.keyB_ok T b6

def EN_ : List Str := ["KeptError", "StateError", "Present", "Absent", "NoPot"]
theorem glo6 {K : PySem.W.Frag} {mg : Str → Option Value} (h : mg "KeptError" = some (.ref (He.ga K "KeptError")) ∧ mg "StateError" = some (.ref (He.ga K "StateError")) ∧ mg "Present" = some (.ref (He.ga K "Present")) ∧ mg "Absent" = some (.ref (He.ga K "Absent")) ∧ mg "NoPot" = some (.ref (He.ga K "NoPot")) ∧ True) : ∀ n ∈ EN_, mg n = some (.ref (He.ga K n)) := by
  obtain ⟨h0, h1, h2, h3, h4, _⟩ := h
  intro n hn
  simp only [EN_, List.mem_cons, List.not_mem_nil, or_false] at hn
  rcases hn with rfl | rfl | rfl | rfl | rfl <;> assumption

structure CF_Bundle (K : PySem.W.Frag) (mg : Str → Option Value) : Prop where
  cls : Cls K (He.ga K "Bundle")
  m : mg "Bundle" = some (.ref (He.ga K "Bundle"))
  mkr : Mk K (He.ga K "Bundle") (He.fAd K ("Bundle", some "__init__"))
  mt___iter__ : Meth K (He.ga K "Bundle") "__iter__" (He.fAd K ("Bundle", some "__iter__"))
  n__quantities : NoAttr K (He.ga K "Bundle") "_quantities"
  n_rows : NoAttr K (He.ga K "Bundle") "rows"
  st_of_coin : Bd.StatC K (He.ga K "Bundle") "of_coin" (Bd.sAd K "Bundle" "of_coin")
structure CF_Books (K : PySem.W.Frag) (mg : Str → Option Value) : Prop where
  cls : Cls K (He.ga K "Books")
  m : mg "Books" = some (.ref (He.ga K "Books"))
  mkr : Mk K (He.ga K "Books") (He.fAd K ("Books", some "__init__"))
  mt_added : Meth K (He.ga K "Books") "added" (He.fAd K ("Books", some "added"))
  mt_removed : Meth K (He.ga K "Books") "removed" (He.fAd K ("Books", some "removed"))
  n__bundles : NoAttr K (He.ga K "Books") "_bundles"
structure CF_Output (K : PySem.W.Frag) (mg : Str → Option Value) : Prop where
  cls : Cls K (He.ga K "Output")
  m : mg "Output" = some (.ref (He.ga K "Output"))
  mkr : Mk K (He.ga K "Output") (He.fAd K ("Output", some "__init__"))
  mt_picture : Meth K (He.ga K "Output") "picture" (He.fAd K ("Output", some "picture"))
  n_address : NoAttr K (He.ga K "Output") "address"
  n_bundle : NoAttr K (He.ga K "Output") "bundle"
  n_datum : NoAttr K (He.ga K "Output") "datum"
structure CF_State (K : PySem.W.Frag) (mg : Str → Option Value) : Prop where
  cls : Cls K (He.ga K "State")
  m : mg "State" = some (.ref (He.ga K "State"))
  mkr : Mk K (He.ga K "State") (He.fAd K ("State", some "__init__"))
  mt__change : Meth K (He.ga K "State") "_change" (He.fAd K ("State", some "_change"))
  mt_account : Meth K (He.ga K "State") "account" (He.fAd K ("State", some "account"))
  mt_add_output : Meth K (He.ga K "State") "add_output" (He.fAd K ("State", some "add_output"))
  mt_is_used : Meth K (He.ga K "State") "is_used" (He.fAd K ("State", some "is_used"))
  mt_keys_joined : Meth K (He.ga K "State") "keys_joined" (He.fAd K ("State", some "keys_joined"))
  mt_mark : Meth K (He.ga K "State") "mark" (He.fAd K ("State", some "mark"))
  mt_output : Meth K (He.ga K "State") "output" (He.fAd K ("State", some "output"))
  mt_picture : Meth K (He.ga K "State") "picture" (He.fAd K ("State", some "picture"))
  mt_remove_output : Meth K (He.ga K "State") "remove_output" (He.fAd K ("State", some "remove_output"))
  mt_set_account : Meth K (He.ga K "State") "set_account" (He.fAd K ("State", some "set_account"))
  mt_set_clock : Meth K (He.ga K "State") "set_clock" (He.fAd K ("State", some "set_clock"))
  mt_set_pot : Meth K (He.ga K "State") "set_pot" (He.fAd K ("State", some "set_pot"))
  mt_set_stakes : Meth K (He.ga K "State") "set_stakes" (He.fAd K ("State", some "set_stakes"))
  mt_stakes : Meth K (He.ga K "State") "stakes" (He.fAd K ("State", some "stakes"))
  mt_unspent : Meth K (He.ga K "State") "unspent" (He.fAd K ("State", some "unspent"))
  mt_use : Meth K (He.ga K "State") "use" (He.fAd K ("State", some "use"))
  n__accounts : NoAttr K (He.ga K "State") "_accounts"
  n__changes : NoAttr K (He.ga K "State") "_changes"
  n__forgotten : NoAttr K (He.ga K "State") "_forgotten"
  n__outputs : NoAttr K (He.ga K "State") "_outputs"
  n__stakes : NoAttr K (He.ga K "State") "_stakes"
  n__used : NoAttr K (He.ga K "State") "_used"
  n_books : NoAttr K (He.ga K "State") "books"
  n_epoch : NoAttr K (He.ga K "State") "epoch"
  n_fees : NoAttr K (He.ga K "State") "fees"
  n_reserve : NoAttr K (He.ga K "State") "reserve"
  n_slot : NoAttr K (He.ga K "State") "slot"
  n_treasury : NoAttr K (He.ga K "State") "treasury"
def sp_Bundle___init (P : Program) (w : World) (K : PySem.W.Frag) : Sp := fun vs H Q _ => ∃ (b dx a : Addr) (xs : List V) (R : List (Ast × Int)), vs = [.ref b, .ref a] ∧ (H b = some (.ins (He.ga K "Bundle") dx [])) ∧ ((SqL K H a xs ∨ SqT K H a xs) ∨ OwnAt K H a xs) ∧ (DpAll K H xs (R.map encR)) ∧ (R.length ≤ 1000) ∧ (∀ H' N, Beside b H H' → Nrm N → (∀ p, tot N p = tot R p) → BdS P w K H' b N → (∀ d, BdD K H' b d → H d = none) → Q .non H')
def sp_Bundle_of_coin (P : Program) (w : World) (K : PySem.W.Frag) : Sp := fun vs H Q _ => ∃ (q : Int), vs = [.int q] ∧ (∀ H' c N, Same H H' → H c = none → Nrm N → (∀ p, tot N p = tot [(coinA, q)] p) → BdS P w K H' c N → Q (.ref c) H')
def sp_Bundle___iter (P : Program) (w : World) (K : PySem.W.Frag) : Sp := fun vs H Q _ => ∃ (b dx d r : Addr) (xs : List V), vs = [.ref b] ∧ (H b = some (.ins (He.ga K "Bundle") dx [("_quantities", .ref d), ("rows", .ref r)])) ∧ (H r = some (.tup xs)) ∧ (∀ it, H it = none → (∀ z o, H z = some o → z < it) → Q (.ref it) (upd H it (TtO r it)))
def sp_KeptError___init (P : Program) (w : World) (K : PySem.W.Frag) : Sp := fun vs H Q _ => ∃ (a C : Addr) (x : V), vs = [.ref a, x] ∧ (XC K C (He.fAd K ("KeptError", some "__init__"))) ∧ (H a = some (exo a C none)) ∧ (∀ dx, H dx = none → dx ≠ a → Q .non (upd (upd H dx (exd dx [("what", x)])) a (exo a C (some dx))))
def sp_Books___init (P : Program) (w : World) (K : PySem.W.Frag) : Sp := fun vs H Q _ => ∃ (b dx : Addr), vs = [.ref b] ∧ (H b = some (.ins (He.ga K "Books") dx [])) ∧ (∀ H' d, Beside b H H' → H d = none → BkAt P w K H' b d [] [] → Q .non H')
def sp_Books_added (P : Program) (w : World) (K : PySem.W.Frag) : Sp := fun vs H Q _ => ∃ (b d r o odx z c dd : Addr) (ds : List Addr) (B : BkT) (kk : List Key) (p : Rf) (N : List (Ast × Int)), vs = [.ref b, .ref r, .ref o] ∧ (BkAt P w K H b d ds B) ∧ (SqT K H r [.int p.1, .int p.2]) ∧ (H o = some (.ins (He.ga K "Output") odx [(("address" : Str), .ref z), (("bundle" : Str), .ref c), (("datum" : Str), .ref dd)])) ∧ (SqT K H z (kk.map kV)) ∧ (BdR K H c N) ∧ (∀ e ∈ B, p ∉ e.2.map (·.1)) ∧ (B.length ≤ 1000 ∧ ∀ e ∈ B, e.2.length ≤ 1000) ∧ (∀ H' ds', (∀ a u, a ∉ d :: ds → H a = some u → H' a = some u) → (∀ x ∈ ds', x ∈ ds ∨ H x = none) → BkAt P w K H' b d ds' (addB B kk p N) → Q .non H')
def sp_Books_removed (P : Program) (w : World) (K : PySem.W.Frag) : Sp := fun vs H Q _ => ∃ (b d r o odx z c dd : Addr) (ds : List Addr) (B : BkT) (kk : List Key) (p : Rf), vs = [.ref b, .ref r, .ref o] ∧ (BkAt P w K H b d ds B) ∧ (SqT K H r [.int p.1, .int p.2]) ∧ (H o = some (.ins (He.ga K "Output") odx [(("address" : Str), .ref z), (("bundle" : Str), .ref c), (("datum" : Str), .ref dd)])) ∧ (SqT K H z (kk.map kV)) ∧ (p ∈ (lookB B kk).map (·.1)) ∧ (∀ H', (∀ a u, a ∉ d :: ds → H a = some u → H' a = some u) → BkAt P w K H' b d ds (remB B kk p) → Q .non H')
def sp_Output___init (P : Program) (w : World) (K : PySem.W.Frag) : Sp := fun vs H Q _ => ∃ (b dx z a dz : Addr) (kk : List Key) (xs ws : List V) (R : List (Ast × Int)), vs = [.ref b, .ref z, .ref a, .ref dz] ∧ (H b = some (.ins (He.ga K "Output") dx [])) ∧ (SqT K H z (kk.map kV)) ∧ ((SqL K H a xs ∨ SqT K H a xs) ∨ OwnAt K (dl H b) a xs) ∧ (DpAll K H xs (R.map encR)) ∧ (R.length ≤ 1000) ∧ (SqL K H dz ws ∨ SqT K H dz ws) ∧ (∀ H' c dd N, Beside b H H' → H c = none → H' b = some (.ins (He.ga K "Output") dx [(("address" : Str), .ref z), (("bundle" : Str), .ref c), (("datum" : Str), .ref dd)]) → Nrm N → (∀ p, tot N p = tot R p) → BdS P w K H' c N → SqT K H' dd ws → (∀ d, BdD K H' c d → H d = none) → Q .non H')
def sp_Output_picture (P : Program) (w : World) (K : PySem.W.Frag) : Sp := fun vs H Q _ => ∃ (o : Addr) (O : List Addr) (t : Tr), vs = [.ref o] ∧ (OuAt P w K O H (.ref o) t) ∧ (∀ p H', Same H H' → H p = none → Dp K H' (.ref p) (encTr t) → Q (.ref p) H')
def sp_State___init (P : Program) (w : World) (K : PySem.W.Frag) : Sp := fun vs H Q _ => ∃ (t dx a : Addr) (res : Int) (xs : List V) (G : List (Int × Int)), vs = [.ref t, .ref a, .int res] ∧ (H t = some (.ins (He.ga K "State") dx [])) ∧ (SqL K H a xs) ∧ (DpAll K H xs (G.map encP2)) ∧ (∀ g ∈ G, 0 < g.2) ∧ (G.length ≤ 100) ∧ (∀ H' A B, A.t = t → Beside t H H' → (∀ x ∈ A.O, x = t ∨ H x = none) → StAt P w K H' A (stZ G res) B → Q .non H')
def sp_State__change (P : Program) (w : World) (K : PySem.W.Frag) : Sp := fun vs H Q _ => ∃ (A : SA) (S : StM) (B : BkT) (ac : Fa.Act) (it be af : V), vs = [.ref A.t, .str (kindA ac), it, be, af] ∧ (StAt P w K H A S B) ∧ (ActAt P w K A.V H it af ac) ∧ (ActAt P w K A.V H it be (undo (befA S ac))) ∧ (OkA B (logA S (befA S ac)) ac) ∧ (B.length + S.chg.length + 1 ≤ S.n ∧ S.outs.length + S.chg.length + 1 ≤ S.n ∧ S.n ≤ 300 ∧ S.accs.length ≤ 1000 ∧ S.used.length ≤ 1000) ∧ (∀ H' A' B', Fr K A.O H H' → UpA H A A' → StAt P w K H' A' (doA S ac) B' → Q .non H')
def sp_State_add_output (P : Program) (w : World) (K : PySem.W.Frag) : Sp := fun vs H Q E => ∃ (A : SA) (S : StM) (B : BkT) (r : Addr) (p : Rf) (v : V) (t : Tr), vs = [.ref A.t, .ref r, v] ∧ (StAt P w K H A S B) ∧ (SqT K H r [.int p.1, .int p.2]) ∧ (OuAt P w K A.V H v t) ∧ (t.rw.length ≤ 3) ∧ (B.length + S.chg.length + 2 ≤ S.n ∧ S.outs.length + S.chg.length + 2 ≤ S.n ∧ S.n ≤ 300 ∧ S.accs.length ≤ 1000 ∧ S.used.length ≤ 1000) ∧ (p ∈ S.outs.map (·.1) → ErrW K "Present" (.ref r) H E) ∧ (p ∉ S.outs.map (·.1) → ∀ H' A' B', Fr K A.O H H' → UpA H A A' → StAt P w K H' A' (doA S (.out p (some t))) B' → Q .non H')
def sp_State_remove_output (P : Program) (w : World) (K : PySem.W.Frag) : Sp := fun vs H Q E => ∃ (A : SA) (S : StM) (B : BkT) (r : Addr) (p : Rf), vs = [.ref A.t, .ref r] ∧ (StAt P w K H A S B) ∧ (SqT K H r [.int p.1, .int p.2]) ∧ (B.length + S.chg.length + 2 ≤ S.n ∧ S.outs.length + S.chg.length + 2 ≤ S.n ∧ S.n ≤ 300 ∧ S.accs.length ≤ 1000 ∧ S.used.length ≤ 1000) ∧ (p ∉ S.outs.map (·.1) → ErrW K "Absent" (.ref r) H E) ∧ (∀ t v, lookM S.outs p = some t → OuAt P w K A.V H v t → ∀ H' A' B', Fr K A.O H H' → UpA H A A' → StAt P w K H' A' (doA S (.out p none)) B' → Q v H')
def sp_State_set_account (P : Program) (w : World) (K : PySem.W.Frag) : Sp := fun vs H Q _ => ∃ (A : SA) (S : StM) (B : BkT) (y : Int) (v : V) (o : Option (Int × Int)), vs = [.ref A.t, .int y, v] ∧ (StAt P w K H A S B) ∧ (ActAt P w K A.V H (.int y) v (.acc y o)) ∧ (B.length + S.chg.length + 2 ≤ S.n ∧ S.outs.length + S.chg.length + 2 ≤ S.n ∧ S.n ≤ 300 ∧ S.accs.length ≤ 1000 ∧ S.used.length ≤ 1000) ∧ (∀ H' A' B', Fr K A.O H H' → UpA H A A' → StAt P w K H' A' (doA S (.acc y o)) B' → Q .non H')
def sp_State_set_pot (P : Program) (w : World) (K : PySem.W.Frag) : Sp := fun vs H Q E => ∃ (A : SA) (S : StM) (B : BkT) (n : Nat) (x : Str) (amt : Int), vs = [.ref A.t, .str x, .int amt] ∧ (StAt P w K H A S B) ∧ ((n < 3 ∧ x = potName n) ∨ (n = 3 ∧ x = "purse")) ∧ (B.length + S.chg.length + 2 ≤ S.n ∧ S.outs.length + S.chg.length + 2 ≤ S.n ∧ S.n ≤ 300 ∧ S.accs.length ≤ 1000 ∧ S.used.length ≤ 1000) ∧ (n = 3 → ErrW K "NoPot" (.str x) H E) ∧ (n < 3 → ∀ H' A' B', Fr K A.O H H' → UpA H A A' → StAt P w K H' A' (doA S (.pot n amt)) B' → Q .non H')
def sp_State_set_clock (P : Program) (w : World) (K : PySem.W.Frag) : Sp := fun vs H Q _ => ∃ (A : SA) (S : StM) (B : BkT) (s e : Int), vs = [.ref A.t, .int s, .int e] ∧ (StAt P w K H A S B) ∧ (B.length + S.chg.length + 2 ≤ S.n ∧ S.outs.length + S.chg.length + 2 ≤ S.n ∧ S.n ≤ 300 ∧ S.accs.length ≤ 1000 ∧ S.used.length ≤ 1000) ∧ (∀ H' A' B', Fr K A.O H H' → UpA H A A' → StAt P w K H' A' (doA S (.clk s e)) B' → Q .non H')
def sp_State_set_stakes (P : Program) (w : World) (K : PySem.W.Frag) : Sp := fun vs H Q _ => ∃ (A : SA) (S : StM) (B : BkT) (q : Addr) (xs : List V) (rows : List (Int × Int)), vs = [.ref A.t, .ref q] ∧ (StAt P w K H A S B) ∧ (SqL K H q xs) ∧ (DpAll K H xs (rows.map encP2)) ∧ (rows.length ≤ 300) ∧ (B.length + S.chg.length + 2 ≤ S.n ∧ S.outs.length + S.chg.length + 2 ≤ S.n ∧ S.n ≤ 300 ∧ S.accs.length ≤ 1000 ∧ S.used.length ≤ 1000) ∧ (∀ R, R.Perm rows → SrtO.Srtd ltII R → ∀ H' A' B', Fr K A.O H H' → UpA H A A' → StAt P w K H' A' (doA S (.stk R)) B' → Q .non H')
def sp_State_use (P : Program) (w : World) (K : PySem.W.Frag) : Sp := fun vs H Q E => ∃ (A : SA) (S : StM) (B : BkT) (n : Int), vs = [.ref A.t, .int n] ∧ (StAt P w K H A S B) ∧ (B.length + S.chg.length + 2 ≤ S.n ∧ S.outs.length + S.chg.length + 2 ≤ S.n ∧ S.n ≤ 300 ∧ S.accs.length ≤ 1000 ∧ S.used.length ≤ 1000) ∧ (n ∈ S.used → ErrW K "Present" (.int n) H E) ∧ (n ∉ S.used → ∀ H' A' B', Fr K A.O H H' → UpA H A A' → StAt P w K H' A' (doA S (.use n true)) B' → Q .non H')
def sp_State_output (P : Program) (w : World) (K : PySem.W.Frag) : Sp := fun vs H Q _ => ∃ (A : SA) (S : StM) (B : BkT) (r : Addr) (p : Rf), vs = [.ref A.t, .ref r] ∧ (StAt P w K H A S B) ∧ (SqT K H r [.int p.1, .int p.2]) ∧ (∀ v, ((∃ t, lookM S.outs p = some t ∧ OuAt P w K A.V H v t) ∨ (lookM S.outs p = none ∧ v = .non)) → Q v H)
def sp_State_account (P : Program) (w : World) (K : PySem.W.Frag) : Sp := fun vs H Q _ => ∃ (A : SA) (S : StM) (B : BkT) (y : Int), vs = [.ref A.t, .int y] ∧ (StAt P w K H A S B) ∧ (∀ v, ((∃ q, lookA S.accs y = some q ∧ P2At K H v q) ∨ (lookA S.accs y = none ∧ v = .non)) → Q v H)
def sp_State_is_used (P : Program) (w : World) (K : PySem.W.Frag) : Sp := fun vs H Q _ => ∃ (A : SA) (S : StM) (B : BkT) (y : Int), vs = [.ref A.t, .int y] ∧ (StAt P w K H A S B) ∧ (Q (.bl (decide (y ∈ S.used))) H)
def sp_State_unspent (P : Program) (w : World) (K : PySem.W.Frag) : Sp := fun vs H Q _ => ∃ (A : SA) (S : StM) (B : BkT), vs = [.ref A.t] ∧ (StAt P w K H A S B) ∧ (∀ q ys R H', Same H H' → H q = none → H' q = some (.lst ys) → DpAll K H' ys (R.map encP2) → SrtO.Srtd ltII R → R.Perm (S.outs.map (·.1)) → Q (.ref q) H')
def sp_State_keys_joined (P : Program) (w : World) (K : PySem.W.Frag) : Sp := fun vs H Q _ => ∃ (A : SA) (S : StM) (B : BkT), vs = [.ref A.t] ∧ (StAt P w K H A S B) ∧ (S.accs.length < 64) ∧ (∀ q (ks : List Int) H', Same H H' → H q = none → H' q = some (.lst (ks.map V.int)) → ks.Pairwise (· ≤ ·) → ks.Perm (S.accs.map (·.1)) → Q (.ref q) H')
def sp_State_stakes (P : Program) (w : World) (K : PySem.W.Frag) : Sp := fun vs H Q _ => ∃ (A : SA) (S : StM) (B : BkT), vs = [.ref A.t] ∧ (StAt P w K H A S B) ∧ (∀ q xs H', Same H H' → H q = none → H' q = some (.lst xs) → DpAll K H' xs (S.stk.map encP2) → Q (.ref q) H')
def sp_State_mark (P : Program) (w : World) (K : PySem.W.Frag) : Sp := fun vs H Q _ => ∃ (A : SA) (S : StM) (B : BkT), vs = [.ref A.t] ∧ (StAt P w K H A S B) ∧ (S.n ≤ 300) ∧ (Q (.int (S.fgt + (S.chg.length : Int))) H)
def sp_State_picture (P : Program) (w : World) (K : PySem.W.Frag) : Sp := fun vs H Q _ => ∃ (A : SA) (S : StM) (B : BkT), vs = [.ref A.t] ∧ (StAt P w K H A S B) ∧ (S.n ≤ 300 ∧ S.accs.length < 64 ∧ S.used.length < 64) ∧ (∀ p d H', Same H H' → H p = none → PicS S d → Dp K H' (.ref p) d → Q (.ref p) H')
def sp_put_output (P : Program) (w : World) (K : PySem.W.Frag) : Sp := fun vs H Q _ => ∃ (A : SA) (S : StM) (B : BkT) (r : Addr) (p : Rf) (v : V) (o : Option Tr), vs = [.ref A.t, .ref r, v] ∧ (StAt P w K H A S B) ∧ (SqT K H r [.int p.1, .int p.2]) ∧ ((v = .non ∧ o = none ∧ p ∈ S.outs.map (·.1)) ∨ ∃ t, o = some t ∧ OuAt P w K A.V H v t ∧ p ∉ S.outs.map (·.1) ∧ t.rw.length ≤ 3) ∧ (B.length + S.chg.length + 1 ≤ S.n ∧ S.outs.length + S.chg.length + 1 ≤ S.n ∧ S.n ≤ 300) ∧ (∀ H' ds' B', Fr K A.O H H' → (∀ x ∈ ds', x ∈ A.ds ∨ H x = none) → StAt P w K H' { A with ds := ds' } (putOut S p o) B' → Q .non H')
def sp_put_account (P : Program) (w : World) (K : PySem.W.Frag) : Sp := fun vs H Q _ => ∃ (A : SA) (S : StM) (B : BkT) (y : Int) (v : V) (o : Option (Int × Int)), vs = [.ref A.t, .int y, v] ∧ (StAt P w K H A S B) ∧ (ActAt P w K A.V H (.int y) v (.acc y o)) ∧ (S.accs.length ≤ 1000) ∧ (∀ H' A' B', Fr K A.O H H' → UpA H A A' → StAt P w K H' A' (putA S (.acc y o)) B' → Q .non H')
def sp_put_pot (P : Program) (w : World) (K : PySem.W.Frag) : Sp := fun vs H Q _ => ∃ (A : SA) (S : StM) (B : BkT) (n : Nat) (x : Int), vs = [.ref A.t, .str (potName n), .int x] ∧ (StAt P w K H A S B) ∧ (n < 3) ∧ (∀ H' A' B', Fr K A.O H H' → UpA H A A' → StAt P w K H' A' (putA S (.pot n x)) B' → Q .non H')
def sp_put_clock (P : Program) (w : World) (K : PySem.W.Frag) : Sp := fun vs H Q _ => ∃ (A : SA) (S : StM) (B : BkT) (v : V) (s e : Int), vs = [.ref A.t, .non, v] ∧ (StAt P w K H A S B) ∧ (P2At K H v (s, e)) ∧ (∀ H' A' B', Fr K A.O H H' → UpA H A A' → StAt P w K H' A' (putA S (.clk s e)) B' → Q .non H')
def sp_put_stakes (P : Program) (w : World) (K : PySem.W.Frag) : Sp := fun vs H Q _ => ∃ (A : SA) (S : StM) (B : BkT) (q : Addr) (rows : List (Int × Int)), vs = [.ref A.t, .non, .ref q] ∧ (StAt P w K H A S B) ∧ (∃ xs, SqT K H q xs ∧ DpAll K H xs (rows.map encP2)) ∧ (∀ H' A' B', Fr K A.O H H' → UpA H A A' → StAt P w K H' A' (putA S (.stk rows)) B' → Q .non H')
def sp_put_used (P : Program) (w : World) (K : PySem.W.Frag) : Sp := fun vs H Q _ => ∃ (A : SA) (S : StM) (B : BkT) (n : Int) (b : Bool), vs = [.ref A.t, .int n, .bl b] ∧ (StAt P w K H A S B) ∧ (OkA B S (.use n b)) ∧ (S.used.length ≤ 1000) ∧ (∀ H' A' B', Fr K A.O H H' → UpA H A A' → StAt P w K H' A' (putA S (.use n b)) B' → Q .non H')
def sp_law_cell (P : Program) (w : World) (K : PySem.W.Frag) : Sp := fun vs H Q _ => ∃ (a : Addr) (ns : List Int) (i : Int), vs = [.ref a, .int i] ∧ (SqL K H a (ns.map V.int)) ∧ (0 ≤ i) ∧ (∀ z, Q (.int z) H)
def sp_law_numbers (P : Program) (w : World) (K : PySem.W.Frag) : Sp := fun vs H Q _ => ∃ (c m : Int), vs = [.int c, .int m] ∧ (0 ≤ m ∧ m ≤ 1000) ∧ (∀ p (nums : List Int) H', Same H H' → H p = none → H' p = some (.lst (nums.map V.int)) → nums.length = m.toNat → B3 nums → Q (.ref p) H')
def sp_law_output (P : Program) (w : World) (K : PySem.W.Frag) : Sp := fun vs H Q _ => ∃ (b : Addr) (ns : List Int) (i : Int), vs = [.ref b, .int i] ∧ (H b = some (.lst (ns.map V.int))) ∧ (B3 ns) ∧ (8 ≤ ns.length) ∧ (i = 3) ∧ (∀ z t H', Same H H' → Dp K H' (.ref z) (encTr t) → OkTr t → Nrm t.rw → Q (.ref z) H')
def sp_law_grants (P : Program) (w : World) (K : PySem.W.Frag) : Sp := fun vs H Q _ => ∃ (b : Addr) (ns : List Int), vs = [.ref b] ∧ (H b = some (.lst (ns.map V.int))) ∧ (B3 ns) ∧ (8 ≤ ns.length) ∧ (∀ p xs (G : List (Int × Int)) H', Same H H' → H p = none → H' p = some (.lst xs) → DpAll K H' xs (G.map encP2) → (∀ g ∈ G, (0 : Int) < g.2) → G.length ≤ 20 → Q (.ref p) H')
def sp_law_first (P : Program) (w : World) (K : PySem.W.Frag) : Sp := fun vs H Q _ => ∃ (b : Addr) (xs : List V) (G : List (Int × Int)) (res : Int), vs = [.ref b, .int res] ∧ (SqL K H b xs) ∧ (DpAll K H xs (G.map encP2)) ∧ (G.length ≤ 20) ∧ (∀ D H', Same H H' → (∀ x ∈ D.O, H x = none) → D.O.Nodup → MdS P w K H' D (stZ G res) → Q (.ref D.m) H')
def sp_law_picture (P : Program) (w : World) (K : PySem.W.Frag) : Sp := fun vs H Q _ => ∃ (D : MA) (S : StM), vs = [.ref D.m] ∧ (MdS P w K H D S) ∧ (S.outs.length ≤ 300 ∧ S.accs.length ≤ 300 ∧ S.used.length ≤ 300) ∧ (∀ p d H', Same H H' → PicS S d → Dp K H' (.ref p) d → Q (.ref p) H')
def sp_law_outputs_step (P : Program) (w : World) (K : PySem.W.Frag) : Sp := fun vs H Q _ => ∃ (A : SA) (S M : StM) (B : BkT) (D : MA) (b : Addr) (ns : List Int), vs = [.ref A.t, .ref D.m, .ref b] ∧ (Lw P w K H A S B D M) ∧ (H b = some (.lst (ns.map V.int)) ∧ B3 ns ∧ 8 ≤ ns.length ∧ b ∉ A.V) ∧ (B.length + S.chg.length + 2 ≤ S.n ∧ S.outs.length + S.chg.length + 2 ≤ S.n ∧ S.n ≤ 300 ∧ S.accs.length ≤ 1000 ∧ S.used.length ≤ 1000) ∧ (∀ z H' A' B' S' D' M', Stp P w K H H' A A' S S' B' D D' M' z → Q (.int z) H')
def sp_law_pot_step (P : Program) (w : World) (K : PySem.W.Frag) : Sp := fun vs H Q _ => ∃ (A : SA) (S M : StM) (B : BkT) (D : MA) (b : Addr) (ns : List Int), vs = [.ref A.t, .ref D.m, .ref b] ∧ (Lw P w K H A S B D M) ∧ (H b = some (.lst (ns.map V.int)) ∧ B3 ns ∧ 8 ≤ ns.length ∧ b ∉ A.V) ∧ (B.length + S.chg.length + 2 ≤ S.n ∧ S.outs.length + S.chg.length + 2 ≤ S.n ∧ S.n ≤ 300 ∧ S.accs.length ≤ 1000 ∧ S.used.length ≤ 1000) ∧ (∀ z H' A' B' S' D' M', Stp P w K H H' A A' S S' B' D D' M' z → Q (.int z) H')
def sp_law_use_step (P : Program) (w : World) (K : PySem.W.Frag) : Sp := fun vs H Q _ => ∃ (A : SA) (S M : StM) (B : BkT) (D : MA) (b : Addr) (ns : List Int), vs = [.ref A.t, .ref D.m, .ref b] ∧ (Lw P w K H A S B D M) ∧ (H b = some (.lst (ns.map V.int)) ∧ B3 ns ∧ 8 ≤ ns.length ∧ b ∉ A.V) ∧ (B.length + S.chg.length + 2 ≤ S.n ∧ S.outs.length + S.chg.length + 2 ≤ S.n ∧ S.n ≤ 300 ∧ S.accs.length ≤ 1000 ∧ S.used.length ≤ 1000) ∧ (∀ z H' A' B' S' D' M', Stp P w K H H' A A' S S' B' D D' M' z → Q (.int z) H')
def sp_law_step (P : Program) (w : World) (K : PySem.W.Frag) : Sp := fun vs H Q _ => ∃ (A : SA) (S M : StM) (B : BkT) (D : MA) (b : Addr) (ns : List Int), vs = [.ref A.t, .ref D.m, .ref b] ∧ (Lw P w K H A S B D M) ∧ (H b = some (.lst (ns.map V.int)) ∧ B3 ns ∧ 8 ≤ ns.length ∧ b ∉ A.V) ∧ (B.length + S.chg.length + 2 ≤ S.n ∧ S.outs.length + S.chg.length + 2 ≤ S.n ∧ S.n ≤ 300 ∧ S.accs.length ≤ 1000 ∧ S.used.length ≤ 1000) ∧ (∀ z H' A' B' S' D' M', Stp P w K H H' A A' S S' B' D D' M' z → Q (.int z) H')
def sp_law (P : Program) (w : World) (K : PySem.W.Frag) : Sp := fun vs H Q _ => ∃ (a : Addr) (ns : List Int), vs = [.ref a] ∧ (SqL K H a (ns.map V.int)) ∧ (ns.length ≤ 63) ∧ (∀ H', Q (.bl true) H')
local macro_rules | `(tactic| walk_at "cnd") => `(tactic| first
  | ((with_reducible show CMul _ _); first | (exact Or.inl (And.intro (by omega) (by omega))) | (exact Or.inr (And.intro (by omega) (by omega))))
  | ((with_reducible show CDiv _ _); exact And.intro (by omega) (by omega))
  | ((with_reducible show CPow _ _); exact And.intro (by omega) (And.intro (by omega) (by omega)))
  | ((with_reducible show Rd.CDivX _ _); exact Rd.cdivX' (by omega) (by omega))
  | ((with_reducible show (_ : Int) < _); omega)
  | ((with_reducible show (_ : Int) ≠ _); omega))
local macro_rules | `(tactic| walk_at "rd1") => `(tactic| first
  | (with_reducible refine Rd.seq ?_)
  | (with_reducible refine Rd.asg ?_)
  | (with_reducible refine Rd.opIsN ?_)
  | (with_reducible refine Rd.opNotN ?_)
  | (with_reducible refine Rd.opAddS ?_)
  | (with_reducible refine Rd.opInS ?_)
  | (with_reducible refine Rd.op ?_)
  | (with_reducible refine Rd.cst ?_)
  | ((with_reducible show tVar _ _ _ _); refine Rd.var rfl ?_)
  | (with_reducible refine Rd.cons ?_)
  | (with_reducible refine Rd.nil ?_)
  | (with_reducible refine Rd.opI0 ?_)
  | ((with_reducible show rI CPow _ (V.int 10) (V.int _) _ _); refine Rd.pw (z := 1000000000000000) ⟨by decide, by decide, by decide⟩ (by decide) ?_)
  | ((with_reducible show rI CPow _ (V.int 10) (V.int _) _ _); refine Rd.pw (z := 1000000000000000000) ⟨by decide, by decide, by decide⟩ (by decide) ?_)
  | ((with_reducible show rI CPow _ (V.int 10) (V.int _) _ _); refine Rd.pw (z := 1000000000) ⟨by decide, by decide, by decide⟩ (by decide) ?_)
  | ((with_reducible show rI CPow _ (V.int 10) (V.int _) _ _); refine Rd.pw (z := 1000000) ⟨by decide, by decide, by decide⟩ (by decide) ?_)
  | ((with_reducible show rI CPow _ (V.int 10) (V.int _) _ _); refine Rd.pw (z := 10000000) ⟨by decide, by decide, by decide⟩ (by decide) ?_)
  | ((with_reducible show rI CPow _ (V.int 10) (V.int _) _ _); refine Rd.pw (z := 100000000) ⟨by decide, by decide, by decide⟩ (by decide) ?_)
  | ((with_reducible show rI CPow _ (V.int 10) (V.int _) _ _); refine Rd.pw (z := 10000000000) ⟨by decide, by decide, by decide⟩ (by decide) ?_)
  | ((with_reducible show rI CPow _ (V.int 10) (V.int _) _ _); refine Rd.pw (z := 100000000000) ⟨by decide, by decide, by decide⟩ (by decide) ?_)
  | ((with_reducible show rI CPow _ (V.int 10) (V.int _) _ _); refine Rd.pw (z := 1000000000000) ⟨by decide, by decide, by decide⟩ (by decide) ?_)
  | ((with_reducible show rI CPow _ (V.int 10) (V.int _) _ _); refine Rd.pw (z := 10000000000000) ⟨by decide, by decide, by decide⟩ (by decide) ?_)
  | ((with_reducible show rI CPow _ (V.int 10) (V.int _) _ _); refine Rd.pw (z := 10000000000000000000000000000000000000000) ⟨by decide, by decide, by decide⟩ (by decide) ?_)
  | ((with_reducible refine Rd.opI ?_ ?_); (first | walk_at "cnd" | skip))
  | (with_reducible refine Rd.ret ?_)
  | (with_reducible refine Rd.ifS ?_)
  | (with_reducible refine Rd.tst ?_)
  | (with_reducible refine Rd.tB_ ?_)
  | (with_reducible refine Rd.bl ?_)
  | (with_reducible refine Rd.eqI ?_)
  | (with_reducible refine Rd.eqS' ?_)
  | (with_reducible refine Rd.eqS ?_)
  | (with_reducible refine Rd.eqB ?_)
  | (with_reducible refine Rd.neI ?_)
  | (with_reducible refine Rd.neS' ?_)
  | (with_reducible refine Rd.neS ?_)
  | (with_reducible refine Rd.neB ?_)
  | (with_reducible refine Rd.callN ?_)
  | (with_reducible refine Rd.cbLen ?_)
  | (with_reducible refine Rd.cbLenS ?_)
  | (with_reducible refine Rd.cbInt ?_)
  | (with_reducible refine Rd.cbIntS ?_)
  | (with_reducible refine Rd.cbAbs ?_)
  | (with_reducible refine Rd.cbStrI ?_)
  | (with_reducible refine Rd.cbLst ?_)
  | (with_reducible refine Rd.cbTup ?_)
  | (with_reducible refine Rd.cbMax2 ?_)
  | (with_reducible refine Rd.cbMin2 ?_)
  | (with_reducible refine Rd.cb ?_)
  | (with_reducible refine Rd.isN' ?_)
  | (with_reducible refine Rd.notN' ?_)
  | (with_reducible refine Rd.intB ?_)
  | (with_reducible refine Rd.max2 (fun _ _ _ _ => ?_))
  | (with_reducible refine Rd.min2 (fun _ _ _ _ => ?_))
  | (with_reducible refine Rd.int1 ?_)
  | (with_reducible refine Rd.abs1 (fun _ _ _ => ?_))
  | (with_reducible refine Rd.un ?_)
  | (with_reducible refine Rd.opU ?_)
  | (with_reducible refine Rd.tup ?_)
  | (with_reducible refine Rd.lst ?_)
  | (with_reducible refine Rd.len (Nat.le_of_ble_eq_true rfl) (fun _ _ => ?_))
  | (with_reducible refine Rd.next ?_)
  | (with_reducible refine Rd.chain ?_)
  | (with_reducible refine Rd.andV ?_)
  | (with_reducible refine Rd.orV ?_)
  | (with_reducible refine Rd.notV ?_)
  | (with_reducible refine Rd.and_ ?_)
  | (with_reducible refine Rd.or_ ?_)
  | (with_reducible refine Rd.not_ ?_)
  | (with_reducible refine Rd.ifE ?_)
  | (with_reducible refine Rd.iteT ?_)
  | (with_reducible refine Rd.iteF ?_)
  | (with_reducible refine Rd.iteD (fun _ => ?_) (fun _ => ?_))
  | (with_reducible refine Rd.iteN (fun _ => ?_) (fun _ => ?_))
  | (with_reducible refine Rd.drop ?_)
  | (with_reducible refine Rd.app ?_)
  | ((with_reducible refine Rd.tyL (xs := ?xs) ?h ?_); (case h => walk_at "hq"))
  | ((with_reducible refine Rd.appd (xs := ?xs) ?h ?z ?_); (case h => walk_at "hq"); (case z => walk_at "sz"))
  | ((with_reducible refine Rd.setL (xs := ?xs) (j := ?j) ?h ?e ?_); (case h => walk_at "hq"); (case e => rfl))
  | ((with_reducible refine Rd.lenL (ys := ?ys) ?h rfl ?_); (case h => walk_at "hp"))
  | ((with_reducible refine Rd.lenT (ys := ?ys) ?h rfl ?_); (case h => walk_at "hp"))
  | ((with_reducible refine Rd.ixL (xs := ?xs) (v := ?v) ?h ?a ?_); (case h => walk_at "hp"); (case a => walk_at "ix"))
  | ((with_reducible refine Rd.ixT (xs := ?xs) (v := ?v) ?h ?a ?_); (case h => walk_at "hp"); (case a => walk_at "ix"))
  | ((with_reducible refine Rd.isiI (r := ?r) ?e ?_); (case e => first | exact Rd.kb_int_int | exact Rd.kb_int_bool | exact Rd.kb_int_str | exact Rd.kb_int_tuple | exact Rd.kb_int_list | exact Rd.kb_int_dict))
  | ((with_reducible refine Rd.isiB (r := ?r) ?e ?_); (case e => first | exact Rd.kb_bool_int | exact Rd.kb_bool_bool | exact Rd.kb_bool_str | exact Rd.kb_bool_tuple | exact Rd.kb_bool_list | exact Rd.kb_bool_dict))
  | ((with_reducible refine Rd.isiS (r := ?r) ?e ?_); (case e => first | exact Rd.kb_str_int | exact Rd.kb_str_bool | exact Rd.kb_str_str | exact Rd.kb_str_tuple | exact Rd.kb_str_list | exact Rd.kb_str_dict))
  | ((with_reducible refine Rd.isiN (r := ?r) ?e ?_); (case e => first | exact Rd.kb_NoneType_int | exact Rd.kb_NoneType_bool | exact Rd.kb_NoneType_str | exact Rd.kb_NoneType_tuple | exact Rd.kb_NoneType_list | exact Rd.kb_NoneType_dict))
  | ((with_reducible refine Rd.isiT (xs := ?xs) (r := ?r) ?h ?e ?_); (case h => walk_at "hp"); (case e => first | exact Rd.kb_tuple_int | exact Rd.kb_tuple_bool | exact Rd.kb_tuple_str | exact Rd.kb_tuple_tuple | exact Rd.kb_tuple_list | exact Rd.kb_tuple_dict))
  | ((with_reducible refine Rd.isiL (xs := ?xs) (r := ?r) ?h ?e ?_); (case h => walk_at "hp"); (case e => first | exact Rd.kb_list_int | exact Rd.kb_list_bool | exact Rd.kb_list_str | exact Rd.kb_list_tuple | exact Rd.kb_list_list | exact Rd.kb_list_dict))
  | (with_reducible refine Rd.iteNT ?_)
  | (with_reducible refine Rd.iteNF ?_)
  | (with_reducible refine Rd.iteB (fun _ => ?_) (fun _ => ?_))
  | (with_reducible refine Rd.asgS ?_)
  | (with_reducible refine Rd.for_ ?_)
  | (with_reducible refine Rd.iR1 ?_)
  | (with_reducible refine Rd.iR2 ?_)
  | (with_reducible refine Rd.iL ?_)
  | (with_reducible refine Rd.iT ?_)
  | (with_reducible refine Rd.lc_ ?_)
  | (with_reducible refine Rd.brk ?_)
  | (with_reducible refine Rd.cont ?_)
  | (with_reducible refine Rd.retN ?_)
  | (with_reducible refine Rd.sl ?_)
  | ((with_reducible show tAug _ _ _ _ _ _); refine Rd.aug rfl ?_)
  | (with_reducible refine Rd.augI ?_)
  | (with_reducible refine Rd.inS ?_)
  | (with_reducible refine Rd.bm0 ?_)
  | (with_reducible refine Rd.revL ?_)
  | ((with_reducible refine Rd.slL' (xs := ?xs) ?h (fun _ _ => ?_)); (case h => walk_at "hp"))
  | ((with_reducible refine Rd.revL' (xs := ?xs) ?h (fun _ _ => ?_)); (case h => walk_at "hp"))
  | ((with_reducible refine Rd.catL (xs := ?xs) (ys := ?ys) ?a ?b ?z (fun _ _ => ?_)); (case a => walk_at "hq"); (case b => walk_at "hq"); (case z => walk_at "sz"))
  | (with_reducible refine Rd.nopart ?_)
  | (with_reducible refine Rd.part ?_)
  | (with_reducible refine Rd.part' ?_)
  | (with_reducible refine Rd.whlN ?_)
  | ((with_reducible refine Rd.addS' ?h ?_); (case h => walk_at "tz"))
  | ((with_reducible refine Rd.lenS' ?h ?_); (case h => walk_at "tz"))
  | ((with_reducible refine Rd.mulS1 ?h ?_); (case h => omega))
  | ((with_reducible refine Rd.ixS (c := ?c) ?h ?a ?_); (case h => walk_at "tz"); (case a => walk_at "ixs"))
  | walk_at "use")
local macro_rules | `(tactic| walk_at "sz") => `(tactic| first
  | (simp only [List.length_map, List.length_append, List.length_cons, List.length_nil]; omega)
  | omega | decide)
local macro_rules | `(tactic| walk_at "tz") => `(tactic| first
  | omega
  | (simp only [List.length_append, List.length_cons, List.length_nil, List.length_replicate]; omega)
  | decide)
local macro_rules | `(tactic| walk_at "ixs") => `(tactic| first
  | assumption
  | ((with_reducible show atI (_ :: _) _ = _); (first | rfl | exact Rd.atI_of (by decide) rfl)))
local macro_rules | `(tactic| walk_at "ix") => `(tactic| first
  | (with_reducible refine Rd.atI_ints ?_ ?_ <;> omega)
  | ((with_reducible show atI (_ :: _) _ = _); (first | rfl | exact Rd.atI_of (by decide) rfl))
  | ((with_reducible show atI (List.set (_ :: _) _ _) _ = _); rfl))
local macro_rules | `(tactic| walk_at "rd") => `(tactic| repeat' (walk_at "rd1"))
local macro_rules | `(tactic| walk_at "sm") => `(tactic| first
  | (with_reducible exact Same.refl _)
  | assumption
  | ((with_reducible refine Same.trans ?_ (Rd.same_new ‹_›)); walk_at "sm")
  | ((with_reducible refine Same.trans ?_ ‹Same _ _›); walk_at "sm"))

local macro_rules | `(tactic| walk_at "rj") => `(tactic| repeat' ((fail_if_success (with_reducible show tSeq (tIfS _ _ _) _ _ _ _)); walk_at "rd1"))


local macro_rules | `(tactic| walk_at "pre") => `(tactic| first | assumption | (walk_at "hp") | ((with_reducible refine Dj.dpS (H := ?H0) ?h ?s); (case h => assumption); (case s => walk_at "sm")) | ((with_reducible refine Dj.dpS1 (H := ?H0) ?h ?s); (case h => assumption); (case s => walk_at "sm")) | omega | (constructor <;> omega) | decide | (simp only [List.length_map]; omega) | (simp only [List.length_cons, List.length_nil]; omega) | (exact Rd.slT) | (exact Rd.slL) | fail)
local macro_rules | `(tactic| walk_at "cnd") => `(tactic| first | (simp only [List.length_map]; omega) | (constructor <;> omega) | fail)
local macro_rules | `(tactic| walk_at "rd1") => `(tactic| first
  | ((with_reducible refine Dj.ixB (ns := ?ns) ?h ?b ?lo ?hi (fun _ _ _ => ?_)); (case h => walk_at "hp"); (case b => assumption); (case lo => omega); (case hi => first | omega | (simp only [List.length_map] at *; omega)))
  | ((with_reducible refine Dj.ixBm (ns := ?ns) ?h ?b ?lo (fun _ _ _ => ?_)); (case h => walk_at "hp"); (case b => assumption); (case lo => omega))
  | ((with_reducible refine Dj.lenI (ns := ?ns) ?h rfl ?_); (case h => walk_at "hp"))
  | (with_reducible refine Dj.gN ?_)
  | (with_reducible refine Re.meth ?_)
  | (with_reducible refine Re.prop ?_)
  | (with_reducible refine Re.stat ?_)
  | (with_reducible refine Rb.make ?_)
  | (with_reducible refine Re.statC ?_ rfl)
  | ((with_reducible refine Re.methB (P := ?P) (w := ?w) (N := ?N) ?h ?n ?_); (case h => walk_at "pre"); (case n => decide))
  | ((with_reducible refine Re.propB (P := ?P) (w := ?w) (N := ?N) ?h ?_); (case h => walk_at "pre"))
  | ((with_reducible refine Re.own2B (P := ?P) (w := ?w) (N := ?N) (M := ?M) ?h ?h' ?_); (case h => walk_at "pre"); (case h' => walk_at "pre"))
  | ((with_reducible refine Re.own1B (P := ?P) (w := ?w) (N := ?N) ?h ?_); (case h => walk_at "pre"))
  | ((with_reducible refine Re.rowsB (P := ?P) (w := ?w) (N := ?N) ?h ?c ?n (fun _ _ _ _ => ?_)); (case h => walk_at "pre"); (case c => assumption); (case n => assumption))
  | ((with_reducible refine Re.inOwnB (P := ?P) (w := ?w) (N := ?N) ?h ?_); (case h => walk_at "pre"))
  | ((with_reducible refine Re.boolOwnB (P := ?P) (w := ?w) (N := ?N) ?h ?_); (case h => walk_at "pre"))
  | ((with_reducible refine Re.neAst (x := ?x) (y := ?y) (i := ?i) (j := ?j) ?h1 ?h2 ?o1 ?o2 ?_); (case h1 => walk_at "hp"); (case h2 => walk_at "hp"); (case o1 => walk_at "oka"); (case o2 => walk_at "oka"))
  | ((with_reducible refine Re.eqAst (x := ?x) (y := ?y) (i := ?i) (j := ?j) ?h1 ?h2 ?o1 ?o2 ?_); (case h1 => walk_at "hp"); (case h2 => walk_at "hp"); (case o1 => walk_at "oka"); (case o2 => walk_at "oka"))
  | ((with_reducible show wipe _ _ = wipe _ _ ∧ _); refine ⟨rfl, ?_⟩)
  | ((with_reducible refine Re.fldK (C := ?C) (dx := ?dx) (fs := ?fs) (v := ?v) ?h ?c ?n ?l ?_); (case h => walk_at "hq"); (case c => assumption); (case n => assumption); (case l => rfl))
  | ((with_reducible refine Re.methI (dx := ?dx) (fs := ?fs) ?h ?l ?_); (case h => walk_at "hq"); (case l => rfl))
  | ((with_reducible refine Re.propI (dx := ?dx) (fs := ?fs) ?h ?_); (case h => walk_at "hq"))
  | (with_reducible refine Rb.fld ?_)
  | ((with_reducible refine Dj.fldK (C := ?C) (dx := ?dx) (fs := ?fs) (v := ?v) ?h ?c ?n ?l ?_); (case h => walk_at "hq"); (case c => assumption); (case n => assumption); (case l => rfl))
  | ((with_reducible refine Rd.lstL (ys := ?ys) ?h (fun _ _ => ?_)); (case h => walk_at "hp"))
  | ((with_reducible refine Rd.lstT (ys := ?ys) ?h (fun _ _ => ?_)); (case h => walk_at "hp"))
  | ((with_reducible refine Rd.tupL (ys := ?ys) ?h (fun _ _ => ?_)); (case h => walk_at "hp"))
  | ((with_reducible refine Rd.tupT (ys := ?ys) ?h ?_); (case h => walk_at "hp"))
  | ((with_reducible show tAsg _ (gTup _ _ _) _ _ _); (with_reducible refine Rb.asgG ?_))
  | ((with_reducible refine Dj.pair_of (x := ?x) (y := ?y) ?h ?_); (case h => walk_at "hp"))
  | ((with_reducible refine Dj.iteDt ?h ?_); (case h => walk_at "ar"))
  | ((with_reducible refine Dj.iteDf ?h ?_); (case h => walk_at "ar"))
  | ((with_reducible refine Dj.iteNt ?h ?_); (case h => walk_at "ar"))
  | ((with_reducible refine Dj.iteNf ?h ?_); (case h => walk_at "ar"))
  | fail)
local macro_rules | `(tactic| walk_at "ar") => `(tactic| first | omega | (simp only [List.length_cons, List.length_nil, List.length_map]; omega) | fail)
local macro_rules | `(tactic| walk_at "dead") => `(tactic| first | contradiction | (exfalso; omega) | (exfalso; simp only [List.length_cons, List.length_nil, List.length_map] at *; omega) | fail)
local macro_rules | `(tactic| walk_at "ix") => `(tactic| first | assumption | fail)
local macro_rules | `(tactic| walk_at "hq") => `(tactic| first
  | assumption
  | (with_reducible exact upd_same)
  | ((first
      | (with_reducible refine Rd.nh (by assumption) ?_)
      | (with_reducible refine Rd.uh (by assumption) ?_)
      | ((with_reducible refine Dj.sat (H0 := ?H0) ?s ?_); (case s => assumption))); walk_at "hq")
  | fail)
local macro_rules | `(tactic| walk_at "hp1") => `(tactic| first
  | (with_reducible refine Rd.nl (by assumption) ?_)
  | (with_reducible refine Rd.nt (by assumption) ?_)
  | (with_reducible refine Rd.ul (by assumption) ?_)
  | (with_reducible refine Rd.ut (by assumption) ?_)
  | ((with_reducible refine Dj.satL (H0 := ?H0) ?s ?_); (case s => assumption))
  | ((with_reducible refine Dj.satT (H0 := ?H0) ?s ?_); (case s => assumption))
  | fail)
local macro_rules | `(tactic| walk_at "hpr") => `(tactic| first
  | assumption
  | (with_reducible exact Rd.slL)
  | (with_reducible exact Rd.slT)
  | (walk_at "hp1"; walk_at "hpr")
  | fail)
local macro_rules | `(tactic| walk_at "hp") => `(tactic| first
  | walk_at "hpr"
  | ((first | (with_reducible refine SqL.of ?_) | (with_reducible refine SqT.of ?_)); walk_at "hq")
  | walk_at "hq"
  | fail)

local macro_rules | `(tactic| walk_at "pre") => `(tactic| first | ((with_reducible refine Es.BdS.keep (H := ?H0) ?h ?s); (case h => assumption); (case s => walk_at "sm")) | fail)
local macro_rules | `(tactic| walk_at "oka") => `(tactic| first | assumption | exact (show Bd.OkA coinA by unfold Bd.OkA coinA; decide +kernel) | fail)
local macro_rules | `(tactic| walk_at "hpr") => `(tactic| first | (with_reducible exact (‹∀ H : Hp, SqT _ H _ _› _)) | fail)


theorem mkB {P : Program} {w : World} {K : PySem.W.Frag} {H1 : Hp} {Pv : Addr → Hp → Prop} {E : XK} {a : Addr} {xs : List V} {R : List (Ast × Int)} (h : (SqL K H1 a xs ∨ SqT K H1 a xs) ∨ OwnAt K H1 a xs) (hR : DpAll K H1 xs (R.map encR)) (hl : R.length ≤ 1000)
    (k : ∀ H' c N, Same H1 H' → H1 c = none → Nrm N → (∀ p, tot N p = tot R p) → BdS P w K H' c N → Pv c H') :
    ∀ x dx, H1 x = none → H1 dx = none → dx ≠ x → sp_Bundle___init P w K (.ref x :: ([.ref a] ++ [])) (upd (upd H1 dx (.own x)) x (.ins (He.ga K "Bundle") dx [])) (fun v H2 => v = .non ∧ Pv x H2) E := fun x dx hx hd ne => by
  have s1 : Same H1 (upd (upd H1 dx (.own x)) x (.ins (He.ga K "Bundle") dx [])) := fun b o e => by
    rw [upd_ne (ne_of_none e hx), upd_ne (ne_of_none e hd)]; exact e
  refine ⟨x, dx, a, xs, R, rfl, upd_same, h.elim (fun z => .inl (z.elim (fun z => .inl (s1.seq z)) (fun z => .inr (Rd.same_tup s1 z)))) (fun z => .inr (z.keep s1)), dpAll_same s1 hR, hl, fun H' N kp nm tt bd _ => ⟨rfl, k H' x N (fun b o e => kp b o (ne_of_none e hx) (s1 b o e)) hx nm tt bd⟩⟩

theorem forAny {P : Program} {w : World} {K : PySem.W.Frag} {σ : L2.St} {H H0 : Hp} {nn : Nat} {E : XK} {a : Addr} {xs : List V} {g : TG} {tb : TS} {n b c : L2.St → Hp → Prop} {r : VK} (Pv : Nat → L2.St → Hp → Prop) (hv : σ[1]? = some (some (.ref a))) (h : (SqL K H0 a xs ∨ SqT K H0 a xs) ∨ OwnAt K H0 a xs) (e0 : Same H0 H) (hn : ∃ z o, H z = some o ∧ nn ≤ z) (h0 : Pv 0 σ H)
    (hl : ∀ i σ H', i ≤ xs.length → Pv i σ H' → Same H0 H') (hs : ∀ (i : Nat) (x : V) (σ' : L2.St) (H' : Hp), xs[i]? = some x → Pv i σ' H' → g x σ' H' fun σ2 H2 => tb ⟨Pv (i + 1), r, n, Pv (i + 1)⟩ σ2 H2)
    (hd : ∀ σ' H', Pv xs.length σ' H' → n σ' H') : tFor (Bd.iAny K nn (He.ga K "Bundle") (sp_Bundle___iter P w K) E (tVar 1)) g tb ⟨n, r, b, c⟩ σ H := by
  rcases h with h | ⟨dx, d, t, h1, h2⟩
  · exact .inl (Rb.forLt Pv hv h e0 h0 hl hs hd)
  · obtain ⟨z, o, hz, hzn⟩ := hn
    refine .inr ⟨.ref a, hv, a, dx, _, rfl, e0 _ _ h1, ⟨a, dx, d, t, xs, rfl, e0 _ _ h1, e0 _ _ h2, fun it hit hlt => ?_⟩⟩
    refine ⟨it, t, xs, rfl, Nat.le_trans hzn (Nat.le_of_lt (hlt z o hz)), upd_same, SqT.of (Rd.same_new hit _ _ (e0 _ _ h2)), ?_⟩
    rw [ItX.dropH_upd hit]
    exact for_tup Pv h0 (fun i σ' H' hi p => SqT.of (hl i σ' H' hi p _ _ h2)) hs hd

theorem mkBn {P : Program} {w : World} {K : PySem.W.Frag} {H1 : Hp} {Pv : Addr → Hp → Prop} {E : XK} {a : Addr} {xs : List V} {R : List (Ast × Int)} (h : (SqL K H1 a xs ∨ SqT K H1 a xs) ∨ OwnAt K H1 a xs) (hR : DpAll K H1 xs (R.map encR)) (hl : R.length ≤ 1000)
    (k : ∀ H' c N, Same H1 H' → H1 c = none → Nrm N → (∀ p, tot N p = tot R p) → BdS P w K H' c N → (∀ d, BdD K H' c d → H1 d = none) → Pv c H') :
    ∀ x dx, H1 x = none → H1 dx = none → dx ≠ x → sp_Bundle___init P w K (.ref x :: ([.ref a] ++ [])) (upd (upd H1 dx (.own x)) x (.ins (He.ga K "Bundle") dx [])) (fun v H2 => v = .non ∧ Pv x H2) E := fun x dx hx hd ne => by
  have s1 : Same H1 (upd (upd H1 dx (.own x)) x (.ins (He.ga K "Bundle") dx [])) := fun b o e => by
    rw [upd_ne (ne_of_none e hx), upd_ne (ne_of_none e hd)]; exact e
  refine ⟨x, dx, a, xs, R, rfl, upd_same, h.elim (fun z => .inl (z.elim (fun z => .inl (s1.seq z)) (fun z => .inr (Rd.same_tup s1 z)))) (fun z => .inr (z.keep s1)), dpAll_same s1 hR, hl, fun H' N kp nm tt bd hd => ⟨rfl, k H' x N (fun b o e => kp b o (ne_of_none e hx) (s1 b o e)) hx nm tt bd fun d q => s1.free (hd d q)⟩⟩

local macro_rules | `(tactic| walk_at "rd1") => `(tactic| first
  | (with_reducible refine Re.setdX ?_)
  | (with_reducible refine Re.popX ?_)
  | (with_reducible refine Re.get1X ?_)
  | (with_reducible refine Re.get2R ?_)
  | (with_reducible refine Re.delX ?_)
  | (with_reducible refine Re.listValsX ?_)
  | (with_reducible refine Re.keysX ?_)
  | fail)

theorem mkO {P : Program} {w : World} {K : PySem.W.Frag} {H1 : Hp} {Pv : Addr → Hp → Prop} {E : XK} {z a dz : Addr} {kk : List Key} {xs ws : List V} {R : List (Ast × Int)} (hz : SqT K H1 z (kk.map kV)) (hx : (SqL K H1 a xs ∨ SqT K H1 a xs) ∨ OwnAt K H1 a xs) (hR : DpAll K H1 xs (R.map encR)) (hl : R.length ≤ 1000)
    (hd : SqL K H1 dz ws ∨ SqT K H1 dz ws) (k : ∀ H' b dx c dd N, Same H1 H' → H1 b = none → H1 c = none → H' b = some (.ins (He.ga K "Output") dx [(("address" : Str), .ref z), (("bundle" : Str), .ref c), (("datum" : Str), .ref dd)]) → Nrm N → (∀ p, tot N p = tot R p) → BdS P w K H' c N → SqT K H' dd ws → Pv b H') :
    ∀ x dx, H1 x = none → H1 dx = none → dx ≠ x → sp_Output___init P w K (.ref x :: ([.ref z, .ref a, .ref dz] ++ [])) (upd (upd H1 dx (.own x)) x (.ins (He.ga K "Output") dx [])) (fun v H2 => v = .non ∧ Pv x H2) E := fun x dx h1 h2 h3 => by
  have s1 : Same H1 (upd (upd H1 dx (.own x)) x (.ins (He.ga K "Output") dx [])) := fun b o e => by
    rw [upd_ne (ne_of_none e h1), upd_ne (ne_of_none e h2)]; exact e
  have s2 : Same H1 (dl (upd (upd H1 dx (.own x)) x (.ins (He.ga K "Output") dx [])) x) := fun b o e => (dl_ne (ne_of_none e h1)).trans (s1 b o e)
  exact ⟨x, dx, z, a, dz, kk, xs, ws, R, rfl, upd_same, Rd.same_tup s1 hz, hx.imp (fun z => z.imp s1.seq (Rd.same_tup s1)) (fun z => z.keep s2), dpAll_same s1 hR, hl, hd.imp s1.seq (Rd.same_tup s1), fun H' c dd N kp hc ho nm tt bd hw hd => ⟨rfl, k H' x dx c dd N (fun b o e => kp b o (ne_of_none e h1) (s1 b o e)) h1 (s1.free hc) ho nm tt bd hw⟩⟩

theorem mkOn {P : Program} {w : World} {K : PySem.W.Frag} {H1 : Hp} {Pv : Addr → Hp → Prop} {E : XK} {z a dz : Addr} {kk : List Key} {xs ws : List V} {R : List (Ast × Int)} (hz : SqT K H1 z (kk.map kV)) (hx : (SqL K H1 a xs ∨ SqT K H1 a xs) ∨ OwnAt K H1 a xs) (hR : DpAll K H1 xs (R.map encR)) (hl : R.length ≤ 1000)
    (hd : SqL K H1 dz ws ∨ SqT K H1 dz ws) (k : ∀ H' b dx c dd N, Same H1 H' → H1 b = none → H1 c = none → H' b = some (.ins (He.ga K "Output") dx [(("address" : Str), .ref z), (("bundle" : Str), .ref c), (("datum" : Str), .ref dd)]) → Nrm N → (∀ p, tot N p = tot R p) → BdS P w K H' c N → SqT K H' dd ws → (∀ d, BdD K H' c d → H1 d = none) → Pv b H') :
    ∀ x dx, H1 x = none → H1 dx = none → dx ≠ x → sp_Output___init P w K (.ref x :: ([.ref z, .ref a, .ref dz] ++ [])) (upd (upd H1 dx (.own x)) x (.ins (He.ga K "Output") dx [])) (fun v H2 => v = .non ∧ Pv x H2) E := fun x dx h1 h2 h3 => by
  have s1 : Same H1 (upd (upd H1 dx (.own x)) x (.ins (He.ga K "Output") dx [])) := fun b o e => by
    rw [upd_ne (ne_of_none e h1), upd_ne (ne_of_none e h2)]; exact e
  have s2 : Same H1 (dl (upd (upd H1 dx (.own x)) x (.ins (He.ga K "Output") dx [])) x) := fun b o e => (dl_ne (ne_of_none e h1)).trans (s1 b o e)
  exact ⟨x, dx, z, a, dz, kk, xs, ws, R, rfl, upd_same, Rd.same_tup s1 hz, hx.imp (fun z => z.imp s1.seq (Rd.same_tup s1)) (fun z => z.keep s2), dpAll_same s1 hR, hl, hd.imp s1.seq (Rd.same_tup s1), fun H' c dd N kp hc ho nm tt bd hw hd => ⟨rfl, k H' x dx c dd N (fun b o e => kp b o (ne_of_none e h1) (s1 b o e)) h1 (s1.free hc) ho nm tt bd hw fun d q => s1.free (hd d q)⟩⟩

theorem mkBk {P : Program} {w : World} {K : PySem.W.Frag} {H1 : Hp} {Pv : Addr → Hp → Prop} {E : XK} (k : ∀ H' b d, Same H1 H' → H1 b = none → H1 d = none → BkAt P w K H' b d [] [] → Pv b H') :
    ∀ x dx, H1 x = none → H1 dx = none → dx ≠ x → sp_Books___init P w K (.ref x :: ([] ++ [])) (upd (upd H1 dx (.own x)) x (.ins (He.ga K "Books") dx [])) (fun v H2 => v = .non ∧ Pv x H2) E := fun x dx h1 h2 h3 => by
  have s1 : Same H1 (upd (upd H1 dx (.own x)) x (.ins (He.ga K "Books") dx [])) := fun b o e => by
    rw [upd_ne (ne_of_none e h1), upd_ne (ne_of_none e h2)]; exact e
  exact ⟨x, dx, rfl, upd_same, fun H' d kp hd hB => ⟨rfl, k H' x d (fun b o e => kp b o (ne_of_none e h1) (s1 b o e)) h1 (s1.free hd) hB⟩⟩

local macro_rules | `(tactic| walk_at "rd1") => `(tactic| first
  | (with_reducible refine Re.dget1S ?_)
  | (with_reducible refine Re.dinS ?_)
  | (with_reducible refine Re.dpop2S ?_)
  | (with_reducible refine Re.dputS ?_)
  | (with_reducible refine Re.ddelS ?_)
  | (with_reducible refine Re.gfld ?_)
  | (with_reducible refine Re.iVal ?_)
  | (with_reducible refine Re.star ?_)
  | (with_reducible refine Ef.iEn ?_)
  | (with_reducible refine Ef.dgetS ?_)
  | fail)

theorem mkSt {P : Program} {w : World} {K : PySem.W.Frag} {H1 : Hp} {Pv : Addr → Hp → Prop} {E : XK} {a : Addr} {res : Int} {xs : List V} {G : List (Int × Int)} (hx : SqL K H1 a xs) (hX : DpAll K H1 xs (G.map encP2)) (hG : ∀ g ∈ G, 0 < g.2) (hl : G.length ≤ 100) (k : ∀ H' A B, Same H1 H' → (∀ x ∈ A.O, H1 x = none) → StAt P w K H' A (stZ G res) B → Pv A.t H') :
    ∀ x dx, H1 x = none → H1 dx = none → dx ≠ x → sp_State___init P w K (.ref x :: ([.ref a, .int res] ++ [])) (upd (upd H1 dx (.own x)) x (.ins (He.ga K "State") dx [])) (fun v H2 => v = .non ∧ Pv x H2) E := fun x dx h1 h2 h3 => by
  have s1 : Same H1 (upd (upd H1 dx (.own x)) x (.ins (He.ga K "State") dx [])) := fun b o e => by
    rw [upd_ne (ne_of_none e h1), upd_ne (ne_of_none e h2)]; exact e
  refine ⟨x, dx, a, res, xs, G, rfl, upd_same, s1.seq hx, dpAll_same s1 hX, hG, hl, fun H' A B hA kp hO L => ⟨rfl, ?_⟩⟩
  have := k H' A B (fun b o e => kp b o (ne_of_none e h1) (s1 b o e)) (fun y hy => (hO y hy).elim (fun z => by rw [z]; exact h1) fun z => s1.free z) L
  rwa [hA] at this

def putSp (P : Program) (w : World) (K : PySem.W.Frag) : Fa.Act → Sp
  | .out _ _ => sp_put_output P w K
  | .acc _ _ => sp_put_account P w K
  | .pot _ _ => sp_put_pot P w K
  | .clk _ _ => sp_put_clock P w K
  | .stk _ => sp_put_stakes P w K
  | .use _ _ => sp_put_used P w K
def PutS (P : Program) (w : World) (K : PySem.W.Frag) (a : Fa.Act) (f : Addr) : Option Sp := if f = He.ga K (putName a) then some (putSp P w K a) else none
def lvP (k1 k2 k3 k4 k5 k6 : Nat) : Fa.Act → Nat
  | .out _ _ => k1
  | .acc _ _ => k2
  | .pot _ _ => k3
  | .clk _ _ => k4
  | .stk _ => k5
  | .use _ _ => k6
theorem held_one {P : Program} {w : World} {K : PySem.W.Frag} {mg : Str → Option Value} {base : Heap} {x : Str} {k : Nat} {ps : List Str} {sp : Sp} {a : Addr} (C : Cal P w K mg base x k ps sp) (m : mg x = some (.ref a)) : Held P w K mg base k a sp := by
  obtain ⟨f, fd, mf, kp, b, F⟩ := C.ex
  cases mf.symm.trans m
  exact ⟨fd, ps, F, kp, b⟩
theorem held_puts {P : Program} {w : World} {K : PySem.W.Frag} {mg : Str → Option Value} {base : Heap} {k1 k2 k3 k4 k5 k6 : Nat} {q1 q2 q3 q4 q5 q6 : List Str} (W : PutsF K w mg) (C1 : Cal P w K mg base "_put_output" k1 q1 (sp_put_output P w K)) (C2 : Cal P w K mg base "_put_account" k2 q2 (sp_put_account P w K)) (C3 : Cal P w K mg base "_put_pot" k3 q3 (sp_put_pot P w K)) (C4 : Cal P w K mg base "_put_clock" k4 q4 (sp_put_clock P w K)) (C5 : Cal P w K mg base "_put_stakes" k5 q5 (sp_put_stakes P w K)) (C6 : Cal P w K mg base "_put_used" k6 q6 (sp_put_used P w K)) (a : Fa.Act) :
    ∀ f sp, PutS P w K a f = some sp → Held P w K mg base (lvP k1 k2 k3 k4 k5 k6 a) f sp := by
  intro f sp h
  unfold PutS at h
  split at h
  · rename_i e
    subst e
    cases h
    cases a with
    | out p o => exact held_one C1 (W.fs (.out p o))
    | acc k o => exact held_one C2 (W.fs (.acc k o))
    | pot n x => exact held_one C3 (W.fs (.pot n x))
    | clk s e => exact held_one C4 (W.fs (.clk s e))
    | stk rows => exact held_one C5 (W.fs (.stk rows))
    | use n b => exact held_one C6 (W.fs (.use n b))
  · cases h

theorem raiseE {P : Program} {w : World} {K : PySem.W.Frag} {mg : Str → Option Value} {σ : L2.St} {H : Hp} {E : XK} {n : Str} {x : V} {i : Nat} (We : StErr EN_ K mg) (hn : n ∈ EN_) (hx : σ[i]? = some (some x)) (k : ErrW K n x H E) : tMkO (He.ga K n) (sp_KeptError___init P w K) [] (tCons (tVar i) tNil) σ H (fun cls d H' => E cls d H') := by
  refine Rd.var hx ?_
  refine ⟨by simp, fun a ha => ⟨a, He.ga K n, x, rfl, We.x n hn, upd_same, fun dx hd hne => ?_⟩⟩
  have hd0 : H dx = none := (upd_ne hne).symm.trans hd
  refine ⟨rfl, dx, [("what", x)], upd_same, (upd_ne (Ne.symm hne).symm).trans upd_same, hd0, ?_⟩
  rw [del_back ha hne]
  exact k dx _ (Rd.same_new hd0) hd0 upd_same

local macro_rules | `(tactic| walk_at "rd1") => `(tactic| first
  | (with_reducible refine Ef.dgetS ?_)
  | ((with_reducible refine MdS.gO (by assumption) ?_))
  | ((with_reducible refine MdS.gA (by assumption) ?_))
  | ((with_reducible refine MdS.gS (by assumption) ?_))
  | ((with_reducible refine MdS.gP (by assumption) ?_))
  | ((with_reducible refine MdS.gC (by assumption) ?_))
  | ((with_reducible refine MdS.gU (by assumption) ?_))
  | fail)

local macro_rules | `(tactic| walk_at "issp") => `(tactic| first | (with_reducible show sp_Bundle___init _ _ _ _ _ _ _) | (with_reducible show sp_Bundle_of_coin _ _ _ _ _ _ _) | (with_reducible show sp_Bundle___iter _ _ _ _ _ _ _) | (with_reducible show sp_KeptError___init _ _ _ _ _ _ _) | (with_reducible show sp_Books___init _ _ _ _ _ _ _) | (with_reducible show sp_Books_added _ _ _ _ _ _ _) | (with_reducible show sp_Books_removed _ _ _ _ _ _ _) | (with_reducible show sp_Output___init _ _ _ _ _ _ _) | (with_reducible show sp_Output_picture _ _ _ _ _ _ _) | (with_reducible show sp_State___init _ _ _ _ _ _ _) | (with_reducible show sp_State__change _ _ _ _ _ _ _) | (with_reducible show sp_State_add_output _ _ _ _ _ _ _) | (with_reducible show sp_State_remove_output _ _ _ _ _ _ _) | (with_reducible show sp_State_set_account _ _ _ _ _ _ _) | (with_reducible show sp_State_set_pot _ _ _ _ _ _ _) | (with_reducible show sp_State_set_clock _ _ _ _ _ _ _) | (with_reducible show sp_State_set_stakes _ _ _ _ _ _ _) | (with_reducible show sp_State_use _ _ _ _ _ _ _) | (with_reducible show sp_State_output _ _ _ _ _ _ _) | (with_reducible show sp_State_account _ _ _ _ _ _ _) | (with_reducible show sp_State_is_used _ _ _ _ _ _ _) | (with_reducible show sp_State_unspent _ _ _ _ _ _ _) | (with_reducible show sp_State_keys_joined _ _ _ _ _ _ _) | (with_reducible show sp_State_stakes _ _ _ _ _ _ _) | (with_reducible show sp_State_mark _ _ _ _ _ _ _) | (with_reducible show sp_State_picture _ _ _ _ _ _ _) | (with_reducible show sp_put_output _ _ _ _ _ _ _) | (with_reducible show sp_put_account _ _ _ _ _ _ _) | (with_reducible show sp_put_pot _ _ _ _ _ _ _) | (with_reducible show sp_put_clock _ _ _ _ _ _ _) | (with_reducible show sp_put_stakes _ _ _ _ _ _ _) | (with_reducible show sp_put_used _ _ _ _ _ _ _) | (with_reducible show sp_law_cell _ _ _ _ _ _ _) | (with_reducible show sp_law_numbers _ _ _ _ _ _ _) | (with_reducible show sp_law_output _ _ _ _ _ _ _) | (with_reducible show sp_law_grants _ _ _ _ _ _ _) | (with_reducible show sp_law_first _ _ _ _ _ _ _) | (with_reducible show sp_law_picture _ _ _ _ _ _ _) | (with_reducible show sp_law_outputs_step _ _ _ _ _ _ _) | (with_reducible show sp_law_pot_step _ _ _ _ _ _ _) | (with_reducible show sp_law_use_step _ _ _ _ _ _ _) | (with_reducible show sp_law_step _ _ _ _ _ _ _) | fail)
local macro_rules | `(tactic| walk_at "rn") => `(tactic| repeat' ((fail_if_success (walk_at "issp")); walk_at "rd1"))
local macro_rules | `(tactic| walk_at "rnj") => `(tactic| repeat' ((fail_if_success (walk_at "issp")); (fail_if_success (with_reducible show tSeq (tIfS _ _ _) _ _ _ _)); walk_at "rd1"))
local macro_rules | `(tactic| walk_at "use") => `(tactic| first
  | ((with_reducible show sp_Bundle___init _ _ _ _ _ _ _); refine ⟨_, ?dx, _, ?xs, ?R, rfl, ?h0, ?h1, ?h2, ?h3, (fun _ _ _ _ _ _ _ => ?_)⟩; (case h0 => walk_at "pre"); (case h1 => walk_at "pre"); (case h2 => walk_at "pre"); (case h3 => walk_at "pre"))
  | ((with_reducible show sp_Bundle_of_coin _ _ _ _ _ _ _); refine ⟨_, rfl, (fun _ _ _ _ _ _ _ _ => ?_)⟩; skip)
  | ((with_reducible show sp_Bundle___iter _ _ _ _ _ _ _); refine ⟨_, ?dx, ?d, ?r, ?xs, rfl, ?h0, ?h1, (fun _ _ _ => ?_)⟩; (case h0 => walk_at "pre"); (case h1 => walk_at "pre"))
  | ((with_reducible show sp_KeptError___init _ _ _ _ _ _ _); refine ⟨_, ?C, _, rfl, ?h0, ?h1, (fun _ _ _ => ?_)⟩; (case h0 => walk_at "pre"); (case h1 => walk_at "pre"))
  | ((with_reducible show sp_Books___init _ _ _ _ _ _ _); refine ⟨_, ?dx, rfl, ?h0, (fun _ _ _ _ _ => ?_)⟩; (case h0 => walk_at "pre"))
  | ((with_reducible show sp_Books_added _ _ _ _ _ _ _); refine ⟨_, ?d, _, _, ?odx, ?z, ?c, ?dd, ?ds, ?B, ?kk, ?p, ?N, rfl, ?h0, ?h1, ?h2, ?h3, ?h4, ?h5, ?h6, (fun _ _ _ _ _ => ?_)⟩; (case h0 => walk_at "pre"); (case h1 => walk_at "pre"); (case h2 => walk_at "pre"); (case h3 => walk_at "pre"); (case h4 => walk_at "pre"); (case h5 => walk_at "pre"); (case h6 => walk_at "pre"))
  | ((with_reducible show sp_Books_removed _ _ _ _ _ _ _); refine ⟨_, ?d, _, _, ?odx, ?z, ?c, ?dd, ?ds, ?B, ?kk, ?p, rfl, ?h0, ?h1, ?h2, ?h3, ?h4, (fun _ _ _ => ?_)⟩; (case h0 => walk_at "pre"); (case h1 => walk_at "pre"); (case h2 => walk_at "pre"); (case h3 => walk_at "pre"); (case h4 => walk_at "pre"))
  | ((with_reducible show sp_Output___init _ _ _ _ _ _ _); refine ⟨_, ?dx, _, _, _, ?kk, ?xs, ?ws, ?R, rfl, ?h0, ?h1, ?h2, ?h3, ?h4, ?h5, (fun _ _ _ _ _ _ _ _ _ _ _ _ => ?_)⟩; (case h0 => walk_at "pre"); (case h1 => walk_at "pre"); (case h2 => walk_at "pre"); (case h3 => walk_at "pre"); (case h4 => walk_at "pre"); (case h5 => walk_at "pre"))
  | ((with_reducible show sp_Output_picture _ _ _ _ _ _ _); refine ⟨_, ?O, ?t, rfl, ?h0, (fun _ _ _ _ _ => ?_)⟩; (case h0 => walk_at "pre"))
  | ((with_reducible show sp_State___init _ _ _ _ _ _ _); refine ⟨_, ?dx, _, _, ?xs, ?G, rfl, ?h0, ?h1, ?h2, ?h3, ?h4, (fun _ _ _ _ _ _ _ => ?_)⟩; (case h0 => walk_at "pre"); (case h1 => walk_at "pre"); (case h2 => walk_at "pre"); (case h3 => walk_at "pre"); (case h4 => walk_at "pre"))
  | ((with_reducible show sp_State__change _ _ _ _ _ _ _); refine ⟨_, ?S, ?B, _, _, _, _, rfl, ?h0, ?h1, ?h2, ?h3, ?h4, (fun _ _ _ _ _ _ => ?_)⟩; (case h0 => walk_at "pre"); (case h1 => walk_at "pre"); (case h2 => walk_at "pre"); (case h3 => walk_at "pre"); (case h4 => walk_at "pre"))
  | ((with_reducible show sp_State_add_output _ _ _ _ _ _ _); refine ⟨_, ?S, ?B, _, ?p, _, ?t, rfl, ?h0, ?h1, ?h2, ?h3, ?h4, ?h5, ?_⟩; (case h0 => walk_at "pre"); (case h1 => walk_at "pre"); (case h2 => walk_at "pre"); (case h3 => walk_at "pre"); (case h4 => walk_at "pre"); (case h5 => walk_at "pre"))
  | ((with_reducible show sp_State_remove_output _ _ _ _ _ _ _); refine ⟨_, ?S, ?B, _, ?p, rfl, ?h0, ?h1, ?h2, ?h3, (fun _ _ _ _ _ _ _ => ?_)⟩; (case h0 => walk_at "pre"); (case h1 => walk_at "pre"); (case h2 => walk_at "pre"); (case h3 => walk_at "pre"))
  | ((with_reducible show sp_State_set_account _ _ _ _ _ _ _); refine ⟨_, ?S, ?B, _, _, ?o, rfl, ?h0, ?h1, ?h2, (fun _ _ _ _ _ _ => ?_)⟩; (case h0 => walk_at "pre"); (case h1 => walk_at "pre"); (case h2 => walk_at "pre"))
  | ((with_reducible show sp_State_set_pot _ _ _ _ _ _ _); refine ⟨_, ?S, ?B, ?n, _, _, rfl, ?h0, ?h1, ?h2, ?h3, ?_⟩; (case h0 => walk_at "pre"); (case h1 => walk_at "pre"); (case h2 => walk_at "pre"); (case h3 => walk_at "pre"))
  | ((with_reducible show sp_State_set_clock _ _ _ _ _ _ _); refine ⟨_, ?S, ?B, _, _, rfl, ?h0, ?h1, (fun _ _ _ _ _ _ => ?_)⟩; (case h0 => walk_at "pre"); (case h1 => walk_at "pre"))
  | ((with_reducible show sp_State_set_stakes _ _ _ _ _ _ _); refine ⟨_, ?S, ?B, _, ?xs, ?rows, rfl, ?h0, ?h1, ?h2, ?h3, ?h4, (fun _ _ _ _ _ _ => ?_)⟩; (case h0 => walk_at "pre"); (case h1 => walk_at "pre"); (case h2 => walk_at "pre"); (case h3 => walk_at "pre"); (case h4 => walk_at "pre"))
  | ((with_reducible show sp_State_use _ _ _ _ _ _ _); refine ⟨_, ?S, ?B, _, rfl, ?h0, ?h1, ?h2, ?_⟩; (case h0 => walk_at "pre"); (case h1 => walk_at "pre"); (case h2 => walk_at "pre"))
  | ((with_reducible show sp_State_output _ _ _ _ _ _ _); refine ⟨_, ?S, ?B, _, ?p, rfl, ?h0, ?h1, (fun _ _ => ?_)⟩; (case h0 => walk_at "pre"); (case h1 => walk_at "pre"))
  | ((with_reducible show sp_State_account _ _ _ _ _ _ _); refine ⟨_, ?S, ?B, _, rfl, ?h0, (fun _ _ => ?_)⟩; (case h0 => walk_at "pre"))
  | ((with_reducible show sp_State_is_used _ _ _ _ _ _ _); refine ⟨_, ?S, ?B, _, rfl, ?h0, ?_⟩; (case h0 => walk_at "pre"))
  | ((with_reducible show sp_State_unspent _ _ _ _ _ _ _); refine ⟨_, ?S, ?B, rfl, ?h0, (fun _ _ _ _ _ _ _ _ _ _ => ?_)⟩; (case h0 => walk_at "pre"))
  | ((with_reducible show sp_State_keys_joined _ _ _ _ _ _ _); refine ⟨_, ?S, ?B, rfl, ?h0, ?h1, (fun _ _ _ _ _ _ _ _ => ?_)⟩; (case h0 => walk_at "pre"); (case h1 => walk_at "pre"))
  | ((with_reducible show sp_State_stakes _ _ _ _ _ _ _); refine ⟨_, ?S, ?B, rfl, ?h0, (fun _ _ _ _ _ _ _ => ?_)⟩; (case h0 => walk_at "pre"))
  | ((with_reducible show sp_State_mark _ _ _ _ _ _ _); refine ⟨_, ?S, ?B, rfl, ?h0, ?h1, ?_⟩; (case h0 => walk_at "pre"); (case h1 => walk_at "pre"))
  | ((with_reducible show sp_State_picture _ _ _ _ _ _ _); refine ⟨_, ?S, ?B, rfl, ?h0, ?h1, (fun _ _ _ _ _ _ _ => ?_)⟩; (case h0 => walk_at "pre"); (case h1 => walk_at "pre"))
  | ((with_reducible show sp_put_output _ _ _ _ _ _ _); refine ⟨_, ?S, ?B, _, ?p, _, ?o, rfl, ?h0, ?h1, ?h2, ?h3, (fun _ _ _ _ _ _ => ?_)⟩; (case h0 => walk_at "pre"); (case h1 => walk_at "pre"); (case h2 => walk_at "pre"); (case h3 => walk_at "pre"))
  | ((with_reducible show sp_put_account _ _ _ _ _ _ _); refine ⟨_, ?S, ?B, _, _, ?o, rfl, ?h0, ?h1, ?h2, (fun _ _ _ _ _ _ => ?_)⟩; (case h0 => walk_at "pre"); (case h1 => walk_at "pre"); (case h2 => walk_at "pre"))
  | ((with_reducible show sp_put_pot _ _ _ _ _ _ _); refine ⟨_, ?S, ?B, _, _, rfl, ?h0, ?h1, (fun _ _ _ _ _ _ => ?_)⟩; (case h0 => walk_at "pre"); (case h1 => walk_at "pre"))
  | ((with_reducible show sp_put_clock _ _ _ _ _ _ _); refine ⟨_, ?S, ?B, _, ?s, ?e, rfl, ?h0, ?h1, (fun _ _ _ _ _ _ => ?_)⟩; (case h0 => walk_at "pre"); (case h1 => walk_at "pre"))
  | ((with_reducible show sp_put_stakes _ _ _ _ _ _ _); refine ⟨_, ?S, ?B, _, ?rows, rfl, ?h0, ?h1, (fun _ _ _ _ _ _ => ?_)⟩; (case h0 => walk_at "pre"); (case h1 => walk_at "pre"))
  | ((with_reducible show sp_put_used _ _ _ _ _ _ _); refine ⟨_, ?S, ?B, _, _, rfl, ?h0, ?h1, ?h2, (fun _ _ _ _ _ _ => ?_)⟩; (case h0 => walk_at "pre"); (case h1 => walk_at "pre"); (case h2 => walk_at "pre"))
  | ((with_reducible show sp_law_cell _ _ _ _ _ _ _); refine ⟨_, ?ns, _, rfl, ?h0, ?h1, (fun _ => ?_)⟩; (case h0 => walk_at "pre"); (case h1 => walk_at "pre"))
  | ((with_reducible show sp_law_numbers _ _ _ _ _ _ _); refine ⟨_, _, rfl, ?h0, (fun _ _ _ _ _ _ _ _ => ?_)⟩; (case h0 => walk_at "pre"))
  | ((with_reducible show sp_law_output _ _ _ _ _ _ _); refine ⟨_, ?ns, _, rfl, ?h0, ?h1, ?h2, ?h3, (fun _ _ _ _ _ _ _ => ?_)⟩; (case h0 => walk_at "pre"); (case h1 => walk_at "pre"); (case h2 => walk_at "pre"); (case h3 => walk_at "pre"))
  | ((with_reducible show sp_law_grants _ _ _ _ _ _ _); refine ⟨_, ?ns, rfl, ?h0, ?h1, ?h2, (fun _ _ _ _ _ _ _ _ _ _ => ?_)⟩; (case h0 => walk_at "pre"); (case h1 => walk_at "pre"); (case h2 => walk_at "pre"))
  | ((with_reducible show sp_law_first _ _ _ _ _ _ _); refine ⟨_, ?xs, ?G, _, rfl, ?h0, ?h1, ?h2, (fun _ _ _ _ _ _ => ?_)⟩; (case h0 => walk_at "pre"); (case h1 => walk_at "pre"); (case h2 => walk_at "pre"))
  | ((with_reducible show sp_law_picture _ _ _ _ _ _ _); refine ⟨_, ?S, rfl, ?h0, ?h1, (fun _ _ _ _ _ _ => ?_)⟩; (case h0 => walk_at "pre"); (case h1 => walk_at "pre"))
  | ((with_reducible show sp_law_outputs_step _ _ _ _ _ _ _); refine ⟨_, ?S, ?M, ?B, _, _, ?ns, rfl, ?h0, ?h1, ?h2, (fun _ _ _ _ _ _ _ _ => ?_)⟩; (case h0 => walk_at "pre"); (case h1 => walk_at "pre"); (case h2 => walk_at "pre"))
  | ((with_reducible show sp_law_pot_step _ _ _ _ _ _ _); refine ⟨_, ?S, ?M, ?B, _, _, ?ns, rfl, ?h0, ?h1, ?h2, (fun _ _ _ _ _ _ _ _ => ?_)⟩; (case h0 => walk_at "pre"); (case h1 => walk_at "pre"); (case h2 => walk_at "pre"))
  | ((with_reducible show sp_law_use_step _ _ _ _ _ _ _); refine ⟨_, ?S, ?M, ?B, _, _, ?ns, rfl, ?h0, ?h1, ?h2, (fun _ _ _ _ _ _ _ _ => ?_)⟩; (case h0 => walk_at "pre"); (case h1 => walk_at "pre"); (case h2 => walk_at "pre"))
  | ((with_reducible show sp_law_step _ _ _ _ _ _ _); refine ⟨_, ?S, ?M, ?B, _, _, ?ns, rfl, ?h0, ?h1, ?h2, (fun _ _ _ _ _ _ _ _ => ?_)⟩; (case h0 => walk_at "pre"); (case h1 => walk_at "pre"); (case h2 => walk_at "pre"))
  | fail)
theorem lit_0 : Str.ofString "key" = Rd.S [107, 101, 121] := by decide +kernel
theorem lit_1 : Str.ofString "output" = Rd.S [111, 117, 116, 112, 117, 116] := by decide +kernel
theorem lit_2 : Str.ofString "account" = Rd.S [97, 99, 99, 111, 117, 110, 116] := by decide +kernel
theorem lit_3 : Str.ofString "fees" = Rd.S [102, 101, 101, 115] := by decide +kernel
theorem lit_4 : Str.ofString "reserve" = Rd.S [114, 101, 115, 101, 114, 118, 101] := by decide +kernel
theorem lit_5 : Str.ofString "treasury" = Rd.S [116, 114, 101, 97, 115, 117, 114, 121] := by decide +kernel
theorem lit_6 : Str.ofString "pot" = Rd.S [112, 111, 116] := by decide +kernel
theorem lit_7 : Str.ofString "clock" = Rd.S [99, 108, 111, 99, 107] := by decide +kernel
theorem lit_8 : Str.ofString "stakes" = Rd.S [115, 116, 97, 107, 101, 115] := by decide +kernel
theorem lit_9 : Str.ofString "used" = Rd.S [117, 115, 101, 100] := by decide +kernel
theorem lit_10 : Str.ofString "script" = Rd.S [115, 99, 114, 105, 112, 116] := by decide +kernel
theorem lit_11 : Str.ofString "" = Rd.S [] := by decide +kernel
theorem lit_12 : Str.ofString "p" = Rd.S [112] := by decide +kernel
theorem lit_13 : Str.ofString "q r" = Rd.S [113, 32, 114] := by decide +kernel
theorem lit_14 : Str.ofString "true" = Rd.S [116, 114, 117, 101] := by decide +kernel
theorem lit_15 : Str.ofString "false" = Rd.S [102, 97, 108, 115, 101] := by decide +kernel
theorem lit_16 : Str.ofString "1 < " = Rd.S [49, 32, 60, 32] := by decide +kernel
theorem lit_17 : Str.ofString "outputs" = Rd.S [111, 117, 116, 112, 117, 116, 115] := by decide +kernel
theorem lit_18 : Str.ofString "accounts" = Rd.S [97, 99, 99, 111, 117, 110, 116, 115] := by decide +kernel
theorem lit_19 : Str.ofString "pots" = Rd.S [112, 111, 116, 115] := by decide +kernel
theorem lit_20 : Str.ofString "purse" = Rd.S [112, 117, 114, 115, 101] := by decide +kernel
section
variable {P : Program} {w : World} {K : PySem.W.Frag} {mg : Str → Option Value} {base : Heap}
theorem fn_Bundle___iter {fd : FuncData} (F : FunD K "__iter__" "Bundle.__iter__" (defArgs s_Bundle___iter) (defBody s_Bundle___iter) (defScope s_Bundle___iter) [] [] (He.fAd K ("Bundle", some "__iter__")) fd)  (z_iter : mg "iter" = none) (W_Bundle : CF_Bundle K mg) : FnOk P w K mg base CX0 1 (He.fAd K ("Bundle", some "__iter__")) fd ["self"] (sp_Bundle___iter P w K) := by
  have cf_Bundle := W_Bundle
  have cfc_Bundle := cf_Bundle.cls
  have cfn_Bundle_rows := cf_Bundle.n_rows
  refine F.ok sc_Bundle___iter (fun vs H Q E h => ?_) (fun cdv A outer s H vs Q E hr h => ?_)
  · obtain ⟨b, dx, d, r, xs, rfl, _⟩ := h; rfl
  · obtain ⟨b, dx, d, r, xs, rfl, hb, hr2, k⟩ := h
    refine ⟨_, PSs.nox (pss_one (ps_ret (pe_callB Bd.cr_iterT (by rfl) z_iter boot_iter (pa_cons (pe_fld (pv 0) rfl) pa_nil)))), ?_⟩
    try simp only [Rd.cxK, Re.cxP, Re.cxW]
    walk_at "rn"
    exact ⟨r, xs, rfl, SqT.of hr2, fun it h1 h2 => k it h1 h2⟩
theorem ok_Bundle___iter {fd : FuncData} (F : FunD K "__iter__" "Bundle.__iter__" (defArgs s_Bundle___iter) (defBody s_Bundle___iter) (defScope s_Bundle___iter) [] [] (He.fAd K ("Bundle", some "__iter__")) fd)  (z_iter : mg "iter" = none) (W_Bundle : CF_Bundle K mg) : CalM P w K mg base (He.fAd K ("Bundle", some "__iter__")) 1 ["self"] [] (sp_Bundle___iter P w K) :=
  ⟨fd, F.bindsN fun _ _ _ _ _ _ us hl => match us, hl with | [_], _ => rfl, fn_Bundle___iter F z_iter W_Bundle, [], .nil, F.bindsN fun _ _ _ _ _ _ us hl => match us, hl with | [_], _ => rfl⟩

theorem bnd_KeptError___init {fd : FuncData} (F : FunD K "__init__" "KeptError.__init__" (defArgs s_KeptError___init) (defBody s_KeptError___init) (defScope s_KeptError___init) [V.non] [] (He.fAd K ("KeptError", some "__init__")) fd) : Binds K fd ["self", "what"] [] := by
  obtain ⟨ds, r, b⟩ := F.binds1 (ps := ["self", "what"]) 2 1 (by simp) rfl (fun T kV doc pm an cdv ct us its hu hi => match us, hu, its, hi with | [_, _], _, [_], _ => ⟨_, rfl, rfl⟩)
  cases r
  exact b
theorem bnd0_KeptError___init {fd : FuncData} (F : FunD K "__init__" "KeptError.__init__" (defArgs s_KeptError___init) (defBody s_KeptError___init) (defScope s_KeptError___init) [V.non] [] (He.fAd K ("KeptError", some "__init__")) fd) : ∃ ds, Vals [V.non] ds ∧ Binds K fd ["self", "what"] ds := by
  obtain ⟨ds, r, b⟩ := F.binds1 (ps := ["self", "what"]) 1 0 (by simp) rfl (fun T kV doc pm an cdv ct us its hu hi => match us, hu, its, hi with | [_], _, [_], _ => ⟨_, rfl, rfl⟩)
  exact ⟨ds, r, b⟩
theorem fn_KeptError___init {fd : FuncData} (F : FunD K "__init__" "KeptError.__init__" (defArgs s_KeptError___init) (defBody s_KeptError___init) (defScope s_KeptError___init) [V.non] [] (He.fAd K ("KeptError", some "__init__")) fd)   : FnOk P w K mg base CX0 1 (He.fAd K ("KeptError", some "__init__")) fd ["self", "what"] (sp_KeptError___init P w K) := by
  refine F.ok sc_KeptError___init (fun vs H Q E h => ?_) (fun cdv A outer s H vs Q E hr h => ?_)
  · obtain ⟨a, C, x, rfl, _⟩ := h; rfl
  · obtain ⟨a, C, x, rfl, hC, ha, k⟩ := h
    refine ⟨_, PSs.nox (pss_one (ps_ost (pv 0) (pv 1))), ?_⟩
    try simp only [Rd.cxK, Re.cxP, Re.cxW]
    refine Rd.var rfl (Rd.var rfl ⟨a, C, rfl, hC.o, hC.nw, .inl ⟨ha, fun dx h1 h2 => ?_⟩⟩)
    exact k dx h1 h2
theorem ok_KeptError___init {fd : FuncData} (F : FunD K "__init__" "KeptError.__init__" (defArgs s_KeptError___init) (defBody s_KeptError___init) (defScope s_KeptError___init) [V.non] [] (He.fAd K ("KeptError", some "__init__")) fd)   : CalM P w K mg base (He.fAd K ("KeptError", some "__init__")) 1 ["self", "what"] [V.non] (sp_KeptError___init P w K) :=
  ⟨fd, (bnd_KeptError___init F), fn_KeptError___init F , (bnd0_KeptError___init F)⟩

theorem fn_Books___init {fd : FuncData} (F : FunD K "__init__" "Books.__init__" (defArgs s_Books___init) (defBody s_Books___init) (defScope s_Books___init) [] [] (He.fAd K ("Books", some "__init__")) fd)   (W_Books : CF_Books K mg) : FnOk P w K mg base CX0 1 (He.fAd K ("Books", some "__init__")) fd ["self"] (sp_Books___init P w K) := by
  have cf_Books := W_Books
  have cfc_Books := cf_Books.cls
  have cfn_Books__bundles := cf_Books.n__bundles
  refine F.ok sc_Books___init (fun vs H Q E h => ?_) (fun cdv A outer s H vs Q E hr h => ?_)
  · obtain ⟨b, dx, rfl, _⟩ := h; rfl
  · obtain ⟨b, dx, rfl, hb, k⟩ := h
    refine ⟨_, PSs.nox (pss_one (ps_fld (pv 0) Es.pe_dnewX rfl)), ?_⟩
    try simp only [Rd.cxK, Re.cxP, Re.cxW]
    refine Rb.sfld ?_
    walk_at "rn"
    refine Re.dnewX fun d hd dd => ?_
    have hb1 := Rd.same_new (o := dX P w d []) hd _ _ hb
    refine Rd.var rfl ⟨b, _, dx, [], rfl, hb1, cfc_Books, cfn_Books__bundles, by show 0 < 1000; decide, ?_⟩
    rw [show putF (Str.ofString "_bundles") (V.ref d) [] = [(("_bundles" : Str), .ref d)] from rfl]
    have nb : d ≠ b := fun e => by subst e; rw [hd] at hb; cases hb
    refine k _ d (fun a o h e => (upd_ne h).trans (Rd.same_new hd a o e)) hd ⟨dx, [], upd_same, ?_, rfl, by simp, Paired.nil⟩
    exact Es.DS.keepT (upd_ne nb) (fun q ys hq => sqT_upd (o := .ins (He.ga K "Books") dx []) hb1 (fun ys e => by cases e) (fun z u e => by cases e) hq) dd
theorem ok_Books___init {fd : FuncData} (F : FunD K "__init__" "Books.__init__" (defArgs s_Books___init) (defBody s_Books___init) (defScope s_Books___init) [] [] (He.fAd K ("Books", some "__init__")) fd)   (W_Books : CF_Books K mg) : CalM P w K mg base (He.fAd K ("Books", some "__init__")) 1 ["self"] [] (sp_Books___init P w K) :=
  ⟨fd, F.bindsN fun _ _ _ _ _ _ us hl => match us, hl with | [_], _ => rfl, fn_Books___init F W_Books, [], .nil, F.bindsN fun _ _ _ _ _ _ us hl => match us, hl with | [_], _ => rfl⟩

theorem fn_Books_added {fd : FuncData} (F : FunD K "added" "Books.added" (defArgs s_Books_added) (defBody s_Books_added) (defScope s_Books_added) [] [] (He.fAd K ("Books", some "added")) fd)   (W_Books : CF_Books K mg) (W_Output : CF_Output K mg) : FnOk P w K mg base CX0 1 (He.fAd K ("Books", some "added")) fd ["self", "ref", "output"] (sp_Books_added P w K) := by
  have cf_Books := W_Books
  have cfc_Books := cf_Books.cls
  have cfn_Books__bundles := cf_Books.n__bundles
  have cf_Output := W_Output
  have cfc_Output := cf_Output.cls
  have cfn_Output_address := cf_Output.n_address
  have cfn_Output_bundle := cf_Output.n_bundle
  refine F.ok sc_Books_added (fun vs H Q E h => ?_) (fun cdv A outer s H vs Q E hr h => ?_)
  · obtain ⟨b, d, r, o, odx, z, c, dd, ds, B, kk, p, N, rfl, _⟩ := h; rfl
  · obtain ⟨b, d, r, o, odx, z, c, dd, ds, B, kk, p, N, rfl, hb, hrf, ho, hz, hc, hn, hl, k⟩ := h
    refine ⟨_, PSs.nox (pss_one (Es.ps_dputX (hu_of hr) (Es.pe_dsetdX (hu_of hr) (pe_fld (pv 0) rfl) (pe_fld (pv 2) rfl) Es.pe_dnewX ⟨rfl, rfl, rfl, rfl⟩) (pv 1) (pe_fld (pv 2) rfl) rfl)), ?_⟩
    try simp only [Rd.cxK, Re.cxP, Re.cxW]
    obtain ⟨dx, kvs, hbo, hD, hvs, hnd, hP⟩ := hb
    refine Re.dputX ?_
    walk_at "rn"
    refine ⟨d, rfl, ⟨kvs, hD⟩, ?_⟩
    walk_at "rn"
    refine Re.dnewX fun d0 hd0 dd0 => ?_
    have s0 := Rd.same_new (o := dX P w d0 []) hd0
    have hkl : kvs.length ≤ 1000 := by rw [Paired.length hP]; exact hl.1
    have hDs := Es.DS.keep s0 hD
    have hc0 := hc.keep s0
    have hr0 := Rd.same_tup s0 hrf
    have nd0 : d ≠ d0 := fun e => by subst e; obtain ⟨_, ks, e, _⟩ := hD; rw [hd0] at e; cases e
    refine ⟨kvs, kk, z, rfl, hDs, Nat.lt_of_le_of_lt hkl (by decide), Rd.same_tup s0 hz, fun v hv => ?_, fun hno ys hD2 => ?_⟩
    · obtain ⟨di, rfl, hin, ⟨e0, he0, hL0⟩, hm⟩ := find_in hP hv
      obtain ⟨ks, hks, hL⟩ := hin.keep s0
      have hab : valV ks (eR p) = none := in_abs hL (by rw [← hL0]; exact hn e0 he0)
      have hlk : ks.length ≤ 1000 := by rw [Paired.length hL, ← hL0]; exact hl.2 e0 he0
      have hmd : di ∈ ds := by
        rw [hvs] at hm
        obtain ⟨x, hx, ex⟩ := List.mem_map.mp hm
        cases ex
        exact hx
      have hnd2 := List.nodup_cons.mp hnd
      have ndi : d ≠ di := fun e => hnd2.1 (e ▸ hmd)
      walk_at "rn"
      refine ⟨di, ks, eR p, r, rfl, rfl, hks, Nat.lt_of_le_of_lt hlk (by decide), hr0, fun ys hD3 => ?_⟩
      rw [putK_abs hab] at hD3
      obtain ⟨xs0, hdi⟩ : ∃ xs0, upd H d0 (dX P w d0 []) di = some (dX P w di xs0) := ⟨hks.2.choose, hks.2.choose_spec.1⟩
      have off : ∀ {c2 : Addr} {N2 : List (Ast × Int)}, BdR K (upd H d0 (dX P w d0 [])) c2 N2 → BdR K (upd (upd H d0 (dX P w d0 [])) di (dX P w di ys)) c2 N2 := fun q => q.off hdi (fun _ z => by cases z) (fun _ z => by cases z) (fun _ _ z => by cases z) (fun _ _ _ z => by cases z)
      have nbi : b ≠ di := fun e => ins_dX (s0 _ _ hbo) (e ▸ hdi)
      refine k _ ds (fun a u ha hu => (upd_ne fun e => ha (by rw [e]; exact List.mem_cons_of_mem _ hmd)).trans (s0 a u hu)) (fun x hx => .inl hx) ⟨dx, kvs, (upd_ne nbi).trans (s0 _ _ hbo), Re.DS.other hDs hdi ndi, hvs, hnd, ?_⟩
      exact add_in (rest_keep hP fun dj L _ q => q.keep s0) hv (by rw [hvs]; exact nd_refs hnd2.2) ⟨_, hD3, Paired.snoc (Paired.mapP hL fun _ _ ⟨e1, c2, e2, q⟩ => ⟨e1, c2, e2, off q⟩) ⟨rfl, c, rfl, off hc0⟩⟩ fun dj L _ hne q => q.other hdi hne
    · rw [putK_abs hno] at hD2
      obtain ⟨xs0, hdd⟩ : ∃ xs0, upd H d0 (dX P w d0 []) d = some (dX P w d xs0) := ⟨hDs.2.choose, hDs.2.choose_spec.1⟩
      have dd2 := Re.DS.other (o := dX P w d ys) dd0 hdd (Ne.symm nd0)
      have hnd2 := List.nodup_cons.mp hnd
      walk_at "rn"
      refine ⟨d0, [], eR p, r, rfl, rfl, dd2, by decide, sqT_upd (o := dX P w d xs0) hdd (fun _ z => by cases z) (fun _ _ z => by cases z) hr0, fun ys2 hD3 => ?_⟩
      rw [putK_abs rfl] at hD3
      obtain ⟨xs2, hd2⟩ : ∃ xs2, upd (upd H d0 (dX P w d0 [])) d (dX P w d ys) d0 = some (dX P w d0 xs2) := ⟨dd2.2.choose, dd2.2.choose_spec.1⟩
      have hc3 := (hc0.off (o' := dX P w d ys) hdd (fun _ z => by cases z) (fun _ z => by cases z) (fun _ _ z => by cases z) (fun _ _ _ z => by cases z)).off (o' := dX P w d0 ys2) hd2 (fun _ z => by cases z) (fun _ z => by cases z) (fun _ _ z => by cases z) (fun _ _ _ z => by cases z)
      have nbd : b ≠ d := fun e => ins_dX (s0 _ _ hbo) (e ▸ hdd)
      have nb0 : b ≠ d0 := ne_of_none hbo hd0
      have in0 : d0 ∉ ds := fun hm => by
        obtain ⟨L, hL⟩ := ds_at hP (by rw [hvs]; exact List.mem_map_of_mem hm)
        obtain ⟨xs, hx⟩ := hL.some
        rw [hd0] at hx
        cases hx
      refine k _ (ds ++ [d0]) (fun a u ha hu => ?_) (fun x hx => ?_) ⟨dx, _, ?_, Re.DS.other hD2 hd2 nd0, by rw [List.map_append, List.map_append, hvs]; rfl, ?_, ?_⟩
      · rw [List.mem_cons, not_or] at ha
        exact (upd_ne (ne_of_none hu hd0)).trans ((upd_ne ha.1).trans (s0 a u hu))
      · rcases List.mem_append.mp hx with h | h
        · exact .inl h
        · rw [List.mem_singleton.mp h]; exact .inr hd0
      · exact (upd_ne nb0).trans ((upd_ne nbd).trans (s0 _ _ hbo))
      · refine List.nodup_cons.mpr ⟨fun hm => ?_, List.nodup_append.mpr ⟨hnd2.2, by simp, fun x hx y hy => ?_⟩⟩
        · rcases List.mem_append.mp hm with h | h
          · exact hnd2.1 h
          · exact nd0 (List.mem_singleton.mp h)
        · rw [List.mem_singleton.mp hy]
          intro e
          exact in0 (e ▸ hx)
      · rw [addB_abs hP hno]
        refine Paired.snoc (rest_keep hP fun dj L hm q => ?_) ⟨rfl, d0, rfl, ⟨_, hD3, Paired.cons ⟨rfl, c, rfl, hc3⟩ Paired.nil⟩⟩
        have hmd : dj ∈ ds := by
          rw [hvs] at hm
          obtain ⟨x, hx, ex⟩ := List.mem_map.mp hm
          cases ex
          exact hx
        exact ((q.keep s0).other hdd fun e => hnd2.1 (e ▸ hmd)).other hd2 fun e => in0 (e ▸ hmd)
theorem ok_Books_added {fd : FuncData} (F : FunD K "added" "Books.added" (defArgs s_Books_added) (defBody s_Books_added) (defScope s_Books_added) [] [] (He.fAd K ("Books", some "added")) fd)   (W_Books : CF_Books K mg) (W_Output : CF_Output K mg) : CalM P w K mg base (He.fAd K ("Books", some "added")) 1 ["self", "ref", "output"] [] (sp_Books_added P w K) :=
  ⟨fd, F.bindsN fun _ _ _ _ _ _ us hl => match us, hl with | [_, _, _], _ => rfl, fn_Books_added F W_Books W_Output, [], .nil, F.bindsN fun _ _ _ _ _ _ us hl => match us, hl with | [_, _, _], _ => rfl⟩

theorem fn_Books_removed {fd : FuncData} (F : FunD K "removed" "Books.removed" (defArgs s_Books_removed) (defBody s_Books_removed) (defScope s_Books_removed) [] [] (He.fAd K ("Books", some "removed")) fd)   (W_Books : CF_Books K mg) (W_Output : CF_Output K mg) : FnOk P w K mg base CX0 1 (He.fAd K ("Books", some "removed")) fd ["self", "ref", "output"] (sp_Books_removed P w K) := by
  have cf_Books := W_Books
  have cfc_Books := cf_Books.cls
  have cfn_Books__bundles := cf_Books.n__bundles
  have cf_Output := W_Output
  have cfc_Output := cf_Output.cls
  have cfn_Output_address := cf_Output.n_address
  refine F.ok sc_Books_removed (fun vs H Q E h => ?_) (fun cdv A outer s H vs Q E hr h => ?_)
  · obtain ⟨b, d, r, o, odx, z, c, dd, ds, B, kk, p, rfl, _⟩ := h; rfl
  · obtain ⟨b, d, r, o, odx, z, c, dd, ds, B, kk, p, rfl, hb, hrf, ho, hz, hn, k⟩ := h
    refine ⟨_, PSs.nox (pss_one (Es.ps_ddelX (hu_of hr) (Es.pe_dgetXk (P := P) (w := w) (K := K) (e := rfl) (e1 := rfl) (e2 := rfl) (hu_of hr) (pe_fld (pv 0) rfl) (pe_fld (pv 2) rfl) (fun _ _ => rfl)) (pv 1))), ?_⟩
    try simp only [Rd.cxK, Re.cxP, Re.cxW]
    obtain ⟨dx, kvs, hbo, hD, hvs, hnd, hP⟩ := hb
    obtain ⟨v, hv⟩ : ∃ v, valV kvs kk = some v := by
      cases h : valV kvs kk with
      | none => rw [look_none hP h] at hn; simp at hn
      | some v => exact ⟨v, rfl⟩
    obtain ⟨di, rfl, hin, ⟨e0, he0, hL0⟩, hm⟩ := find_in hP hv
    obtain ⟨ks, hks, hL⟩ := hin
    have hmd : di ∈ ds := by
      rw [hvs] at hm
      obtain ⟨x, hx, ex⟩ := List.mem_map.mp hm
      cases ex
      exact hx
    have hnd2 := List.nodup_cons.mp hnd
    have ndi : d ≠ di := fun e => hnd2.1 (e ▸ hmd)
    walk_at "rn"
    refine Re.dgetX ?_
    walk_at "rn"
    refine ⟨d, .ref di, rfl, ⟨kvs, kk, z, hD, rfl, hz, hv.symm⟩, ?_⟩
    walk_at "rn"
    refine ⟨di, ks, eR p, r, rfl, rfl, hks, hrf, in_pres hL hn, fun ys hD3 => ?_⟩
    obtain ⟨xs0, hdi⟩ : ∃ xs0, H di = some (dX P w di xs0) := ⟨hks.2.choose, hks.2.choose_spec.1⟩
    have nbi : b ≠ di := fun e => ins_dX hbo (e ▸ hdi)
    refine k _ (fun a u ha hu => (upd_ne fun e => ha (by rw [e]; exact List.mem_cons_of_mem _ hmd)).trans hu) ⟨dx, kvs, (upd_ne nbi).trans hbo, Re.DS.other hD hdi ndi, hvs, hnd, ?_⟩
    exact rem_in hP hv (by rw [hvs]; exact nd_refs hnd2.2) ⟨_, hD3, Paired.mapP (drop_in hL) fun _ _ ⟨e1, c2, e2, q⟩ => ⟨e1, c2, e2, q.off hdi (fun _ z => by cases z) (fun _ z => by cases z) (fun _ _ z => by cases z) (fun _ _ _ z => by cases z)⟩⟩ fun dj L _ hne q => q.other hdi hne
theorem ok_Books_removed {fd : FuncData} (F : FunD K "removed" "Books.removed" (defArgs s_Books_removed) (defBody s_Books_removed) (defScope s_Books_removed) [] [] (He.fAd K ("Books", some "removed")) fd)   (W_Books : CF_Books K mg) (W_Output : CF_Output K mg) : CalM P w K mg base (He.fAd K ("Books", some "removed")) 1 ["self", "ref", "output"] [] (sp_Books_removed P w K) :=
  ⟨fd, F.bindsN fun _ _ _ _ _ _ us hl => match us, hl with | [_, _, _], _ => rfl, fn_Books_removed F W_Books W_Output, [], .nil, F.bindsN fun _ _ _ _ _ _ us hl => match us, hl with | [_, _, _], _ => rfl⟩

theorem fn_Output_picture {fd : FuncData} (F : FunD K "picture" "Output.picture" (defArgs s_Output_picture) (defBody s_Output_picture) (defScope s_Output_picture) [] [] (He.fAd K ("Output", some "picture")) fd)   (W_Output : CF_Output K mg) (W_Bundle : CF_Bundle K mg) : FnOk P w K mg base CX0 1 (He.fAd K ("Output", some "picture")) fd ["self"] (sp_Output_picture P w K) := by
  have cf_Output := W_Output
  have cfc_Output := cf_Output.cls
  have cfn_Output_address := cf_Output.n_address
  have cfn_Output_bundle := cf_Output.n_bundle
  have cfn_Output_datum := cf_Output.n_datum
  have cf_Bundle := W_Bundle
  have cfc_Bundle := cf_Bundle.cls
  have cfn_Bundle_rows := cf_Bundle.n_rows
  refine F.ok sc_Output_picture (fun vs H Q E h => ?_) (fun cdv A outer s H vs Q E hr h => ?_)
  · obtain ⟨o, O, t, rfl, _⟩ := h; rfl
  · obtain ⟨o, O, t, rfl, ho, k⟩ := h
    refine ⟨_, PSs.nox (pss_one (ps_ret (pe_tup (pa_cons (pe_fld (pv 0) rfl) (pa_cons (pe_fld (pe_fld (pv 0) rfl) rfl) (pa_cons (pe_fld (pv 0) rfl) pa_nil)))))), ?_⟩
    try simp only [Rd.cxK, Re.cxP, Re.cxW]
    obtain ⟨o1, odx, z, c, dd, e1, no, h1, h2, ⟨⟨bdx, r, d, xs, g1, g2, g3, g4, g5⟩, _⟩, h6⟩ := ho
    cases e1
    walk_at "rn"
    rename_i p hp
    have s := Rd.same_new (o := .tup [.ref z, .ref r, .ref dd]) hp
    exact k p _ s hp (.tup (SqT.of upd_same) (.cons (.tup (Rd.same_tup s h2) dp_keys) (.cons (.tup (SqT.of (s _ _ g2)) (dpAll_same s g3)) (.cons (.tup (Rd.same_tup s h6) dp_ints) .nil))))
theorem ok_Output_picture {fd : FuncData} (F : FunD K "picture" "Output.picture" (defArgs s_Output_picture) (defBody s_Output_picture) (defScope s_Output_picture) [] [] (He.fAd K ("Output", some "picture")) fd)   (W_Output : CF_Output K mg) (W_Bundle : CF_Bundle K mg) : CalM P w K mg base (He.fAd K ("Output", some "picture")) 1 ["self"] [] (sp_Output_picture P w K) :=
  ⟨fd, F.bindsN fun _ _ _ _ _ _ us hl => match us, hl with | [_], _ => rfl, fn_Output_picture F W_Output W_Bundle, [], .nil, F.bindsN fun _ _ _ _ _ _ us hl => match us, hl with | [_], _ => rfl⟩

theorem fn_State_output {fd : FuncData} (F : FunD K "output" "State.output" (defArgs s_State_output) (defBody s_State_output) (defScope s_State_output) [] [] (He.fAd K ("State", some "output")) fd)   (W_State : CF_State K mg) : FnOk P w K mg base CX0 1 (He.fAd K ("State", some "output")) fd ["self", "ref"] (sp_State_output P w K) := by
  have cf_State := W_State
  have cfc_State := cf_State.cls
  have cfn_State__outputs := cf_State.n__outputs
  refine F.ok sc_State_output (fun vs H Q E h => ?_) (fun cdv A outer s H vs Q E hr h => ?_)
  · obtain ⟨A, S, B, r, p, rfl, _⟩ := h; rfl
  · obtain ⟨A, S, B, r, p, rfl, hS, hr2, k⟩ := h
    refine ⟨_, PSs.nox (pss_one (ps_ret (Es.pe_dget1X (hu_of hr) (pe_fld (pv 0) rfl) (pv 1) ⟨rfl, rfl, rfl, rfl⟩))), ?_⟩
    try simp only [Rd.cxK, Re.cxP, Re.cxW]
    obtain ⟨kv, hD, hP⟩ := hS.od
    have ht := hS.t
    walk_at "rn"
    refine ⟨A.od, rfl, ⟨kv, hD⟩, ?_⟩
    walk_at "rn"
    refine ⟨valV kv (eR p), ⟨kv, eR p, r, hD, rfl, hr2, rfl⟩, ?_⟩
    rcases outs_look hP with ⟨t, v, h1, h2, h3⟩ | ⟨h1, h2⟩
    · rw [h2]; exact k v (.inl ⟨t, h1, h3⟩)
    · rw [h2]; exact k _ (.inr ⟨h1, rfl⟩)
theorem ok_State_output {fd : FuncData} (F : FunD K "output" "State.output" (defArgs s_State_output) (defBody s_State_output) (defScope s_State_output) [] [] (He.fAd K ("State", some "output")) fd)   (W_State : CF_State K mg) : CalM P w K mg base (He.fAd K ("State", some "output")) 1 ["self", "ref"] [] (sp_State_output P w K) :=
  ⟨fd, F.bindsN fun _ _ _ _ _ _ us hl => match us, hl with | [_, _], _ => rfl, fn_State_output F W_State, [], .nil, F.bindsN fun _ _ _ _ _ _ us hl => match us, hl with | [_, _], _ => rfl⟩

theorem fn_State_account {fd : FuncData} (F : FunD K "account" "State.account" (defArgs s_State_account) (defBody s_State_account) (defScope s_State_account) [] [] (He.fAd K ("State", some "account")) fd)   (W_State : CF_State K mg) : FnOk P w K mg base CX0 1 (He.fAd K ("State", some "account")) fd ["self", "key"] (sp_State_account P w K) := by
  have cf_State := W_State
  have cfc_State := cf_State.cls
  have cfn_State__accounts := cf_State.n__accounts
  refine F.ok sc_State_account (fun vs H Q E h => ?_) (fun cdv A outer s H vs Q E hr h => ?_)
  · obtain ⟨A, S, B, y, rfl, _⟩ := h; rfl
  · obtain ⟨A, S, B, y, rfl, hS, k⟩ := h
    refine ⟨_, PSs.nox (pss_one (ps_ret (L2.pe_dget1 (hu_of hr) (pe_fld (pv 0) rfl) (pv 1) ⟨rfl, rfl, rfl, rfl⟩))), ?_⟩
    try simp only [Rd.cxK, Re.cxP, Re.cxW]
    obtain ⟨kv, hA, hP⟩ := hS.ad
    have ht := hS.t
    walk_at "rn"
    refine ⟨A.ad, rfl, isDK hA, ?_⟩
    walk_at "rn"
    refine ⟨valV kv (.inl y), DGet.k (k := .inl y) hA, ?_⟩
    rcases accs_look hP with ⟨t, v, h1, h2, h3⟩ | ⟨h1, h2⟩
    · rw [h2]; exact k v (.inl ⟨t, h1, h3⟩)
    · rw [h2]; exact k _ (.inr ⟨h1, rfl⟩)
theorem ok_State_account {fd : FuncData} (F : FunD K "account" "State.account" (defArgs s_State_account) (defBody s_State_account) (defScope s_State_account) [] [] (He.fAd K ("State", some "account")) fd)   (W_State : CF_State K mg) : CalM P w K mg base (He.fAd K ("State", some "account")) 1 ["self", "key"] [] (sp_State_account P w K) :=
  ⟨fd, F.bindsN fun _ _ _ _ _ _ us hl => match us, hl with | [_, _], _ => rfl, fn_State_account F W_State, [], .nil, F.bindsN fun _ _ _ _ _ _ us hl => match us, hl with | [_, _], _ => rfl⟩

theorem fn_State_is_used {fd : FuncData} (F : FunD K "is_used" "State.is_used" (defArgs s_State_is_used) (defBody s_State_is_used) (defScope s_State_is_used) [] [] (He.fAd K ("State", some "is_used")) fd)   (W_State : CF_State K mg) : FnOk P w K mg base CX0 1 (He.fAd K ("State", some "is_used")) fd ["self", "number"] (sp_State_is_used P w K) := by
  have cf_State := W_State
  have cfc_State := cf_State.cls
  have cfn_State__used := cf_State.n__used
  refine F.ok sc_State_is_used (fun vs H Q E h => ?_) (fun cdv A outer s H vs Q E hr h => ?_)
  · obtain ⟨A, S, B, y, rfl, _⟩ := h; rfl
  · obtain ⟨A, S, B, y, rfl, hS, k⟩ := h
    refine ⟨_, PSs.nox (pss_one (ps_ret (pe_cmp (pc_din (hu_of hr) (pv 1) (pe_fld (pv 0) rfl)) (by rfl)))), ?_⟩
    try simp only [Rd.cxK, Re.cxP, Re.cxW]
    have ht := hS.t
    walk_at "rn"
    refine ⟨A.ud, _, rfl, DGet.k (k := .inl y) hS.ud, ?_⟩
    rw [used_val]
    walk_at "rn"
    exact k
theorem ok_State_is_used {fd : FuncData} (F : FunD K "is_used" "State.is_used" (defArgs s_State_is_used) (defBody s_State_is_used) (defScope s_State_is_used) [] [] (He.fAd K ("State", some "is_used")) fd)   (W_State : CF_State K mg) : CalM P w K mg base (He.fAd K ("State", some "is_used")) 1 ["self", "number"] [] (sp_State_is_used P w K) :=
  ⟨fd, F.bindsN fun _ _ _ _ _ _ us hl => match us, hl with | [_, _], _ => rfl, fn_State_is_used F W_State, [], .nil, F.bindsN fun _ _ _ _ _ _ us hl => match us, hl with | [_, _], _ => rfl⟩

theorem fn_State_unspent {fd : FuncData} (F : FunD K "unspent" "State.unspent" (defArgs s_State_unspent) (defBody s_State_unspent) (defScope s_State_unspent) [] [] (He.fAd K ("State", some "unspent")) fd)  (z_sorted : mg "sorted" = none) (W_State : CF_State K mg) : FnOk P w K mg base CX0 1 (He.fAd K ("State", some "unspent")) fd ["self"] (sp_State_unspent P w K) := by
  have cf_State := W_State
  have cfc_State := cf_State.cls
  have cfn_State__outputs := cf_State.n__outputs
  refine F.ok sc_State_unspent (fun vs H Q E h => ?_) (fun cdv A outer s H vs Q E hr h => ?_)
  · obtain ⟨A, S, B, rfl, _⟩ := h; rfl
  · obtain ⟨A, S, B, rfl, hS, k⟩ := h
    refine ⟨_, PSs.nox (pss_one (ps_ret (pe_callB (Es.cr_sortedXI rfl) (by rfl) z_sorted boot_sorted (pa_cons (pe_fld (pv 0) rfl) pa_nil)))), ?_⟩
    try simp only [Rd.cxK, Re.cxP, Re.cxW]
    obtain ⟨kv, hD, hP⟩ := hS.od
    obtain ⟨m, rfl, hm⟩ := outs_keys hP
    have ht := hS.t
    walk_at "rn"
    refine ⟨A.od, m, rfl, hD, fun ps q hAs hsr hperm hq => ?_⟩
    have s := Rd.same_new (o := .lst (ps.map fun z => V.ref z.1)) hq
    exact k q _ (ps.map (·.2)) _ s hq upd_same (dpAll_same s (refsC_dp hAs)) hsr (by rw [← hm]; exact hperm)
theorem ok_State_unspent {fd : FuncData} (F : FunD K "unspent" "State.unspent" (defArgs s_State_unspent) (defBody s_State_unspent) (defScope s_State_unspent) [] [] (He.fAd K ("State", some "unspent")) fd)  (z_sorted : mg "sorted" = none) (W_State : CF_State K mg) : CalM P w K mg base (He.fAd K ("State", some "unspent")) 1 ["self"] [] (sp_State_unspent P w K) :=
  ⟨fd, F.bindsN fun _ _ _ _ _ _ us hl => match us, hl with | [_], _ => rfl, fn_State_unspent F z_sorted W_State, [], .nil, F.bindsN fun _ _ _ _ _ _ us hl => match us, hl with | [_], _ => rfl⟩

theorem fn_State_keys_joined {fd : FuncData} (F : FunD K "keys_joined" "State.keys_joined" (defArgs s_State_keys_joined) (defBody s_State_keys_joined) (defScope s_State_keys_joined) [] [] (He.fAd K ("State", some "keys_joined")) fd)  (z_sorted : mg "sorted" = none) (W_State : CF_State K mg) : FnOk P w K mg base CX0 1 (He.fAd K ("State", some "keys_joined")) fd ["self"] (sp_State_keys_joined P w K) := by
  have cf_State := W_State
  have cfc_State := cf_State.cls
  have cfn_State__accounts := cf_State.n__accounts
  refine F.ok sc_State_keys_joined (fun vs H Q E h => ?_) (fun cdv A outer s H vs Q E hr h => ?_)
  · obtain ⟨A, S, B, rfl, _⟩ := h; rfl
  · obtain ⟨A, S, B, rfl, hS, hl, k⟩ := h
    refine ⟨_, PSs.nox (pss_one (ps_ret (pe_callB (call_sortedDI rfl) (by rfl) z_sorted boot_sorted (pa_cons (pe_fld (pv 0) rfl) pa_nil)))), ?_⟩
    try simp only [Rd.cxK, Re.cxP, Re.cxW]
    obtain ⟨kv, hA, hP⟩ := hS.ad
    have ht := hS.t
    walk_at "rn"
    refine ⟨A.ad, kv, S.accs.map (·.1), rfl, .inl hA, accs_keys hP, by rw [List.length_map]; exact hl, fun ys q hperm hsr hq => ?_⟩
    exact k q ys _ (Rd.same_new hq) hq upd_same hsr hperm
theorem ok_State_keys_joined {fd : FuncData} (F : FunD K "keys_joined" "State.keys_joined" (defArgs s_State_keys_joined) (defBody s_State_keys_joined) (defScope s_State_keys_joined) [] [] (He.fAd K ("State", some "keys_joined")) fd)  (z_sorted : mg "sorted" = none) (W_State : CF_State K mg) : CalM P w K mg base (He.fAd K ("State", some "keys_joined")) 1 ["self"] [] (sp_State_keys_joined P w K) :=
  ⟨fd, F.bindsN fun _ _ _ _ _ _ us hl => match us, hl with | [_], _ => rfl, fn_State_keys_joined F z_sorted W_State, [], .nil, F.bindsN fun _ _ _ _ _ _ us hl => match us, hl with | [_], _ => rfl⟩

theorem fn_State_stakes {fd : FuncData} (F : FunD K "stakes" "State.stakes" (defArgs s_State_stakes) (defBody s_State_stakes) (defScope s_State_stakes) [] [] (He.fAd K ("State", some "stakes")) fd)  (z_list : mg "list" = none) (W_State : CF_State K mg) : FnOk P w K mg base CX0 1 (He.fAd K ("State", some "stakes")) fd ["self"] (sp_State_stakes P w K) := by
  have cf_State := W_State
  have cfc_State := cf_State.cls
  have cfn_State__stakes := cf_State.n__stakes
  refine F.ok sc_State_stakes (fun vs H Q E h => ?_) (fun cdv A outer s H vs Q E hr h => ?_)
  · obtain ⟨A, S, B, rfl, _⟩ := h; rfl
  · obtain ⟨A, S, B, rfl, hS, k⟩ := h
    refine ⟨_, PSs.nox (pss_one (ps_ret (pe_callTy call_list_of (by rfl) z_list boot_list (pa_cons (pe_fld (pv 0) rfl) pa_nil)))), ?_⟩
    try simp only [Rd.cxK, Re.cxP, Re.cxW]
    obtain ⟨xs, hx, hX⟩ := hS.sk
    have ht := hS.t
    walk_at "rn"
    rename_i q hq
    exact k q xs _ (Rd.same_new hq) hq upd_same (dpAll_same (Rd.same_new hq) hX)
theorem ok_State_stakes {fd : FuncData} (F : FunD K "stakes" "State.stakes" (defArgs s_State_stakes) (defBody s_State_stakes) (defScope s_State_stakes) [] [] (He.fAd K ("State", some "stakes")) fd)  (z_list : mg "list" = none) (W_State : CF_State K mg) : CalM P w K mg base (He.fAd K ("State", some "stakes")) 1 ["self"] [] (sp_State_stakes P w K) :=
  ⟨fd, F.bindsN fun _ _ _ _ _ _ us hl => match us, hl with | [_], _ => rfl, fn_State_stakes F z_list W_State, [], .nil, F.bindsN fun _ _ _ _ _ _ us hl => match us, hl with | [_], _ => rfl⟩

theorem fn_State_mark {fd : FuncData} (F : FunD K "mark" "State.mark" (defArgs s_State_mark) (defBody s_State_mark) (defScope s_State_mark) [] [] (He.fAd K ("State", some "mark")) fd)  (z_len : mg "len" = none) (W_State : CF_State K mg) : FnOk P w K mg base CX0 1 (He.fAd K ("State", some "mark")) fd ["self"] (sp_State_mark P w K) := by
  have cf_State := W_State
  have cfc_State := cf_State.cls
  have cfn_State__changes := cf_State.n__changes
  have cfn_State__forgotten := cf_State.n__forgotten
  refine F.ok sc_State_mark (fun vs H Q E h => ?_) (fun cdv A outer s H vs Q E hr h => ?_)
  · obtain ⟨A, S, B, rfl, _⟩ := h; rfl
  · obtain ⟨A, S, B, rfl, hS, hl, k⟩ := h
    refine ⟨_, PSs.nox (pss_one (ps_ret (pe_op op_add (pe_fld (pv 0) rfl) (pe_callB call_len_seq (by rfl) z_len boot_len (pa_cons (pe_fld (pv 0) rfl) pa_nil))))), ?_⟩
    try simp only [Rd.cxK, Re.cxP, Re.cxW]
    obtain ⟨xs, hx, hX⟩ := hS.cl
    have ht := hS.t
    have hlo := hS.lo
    have hxl : xs.length = S.chg.length := Paired.length hX
    walk_at "rn"
    rw [hxl]
    exact k
theorem ok_State_mark {fd : FuncData} (F : FunD K "mark" "State.mark" (defArgs s_State_mark) (defBody s_State_mark) (defScope s_State_mark) [] [] (He.fAd K ("State", some "mark")) fd)  (z_len : mg "len" = none) (W_State : CF_State K mg) : CalM P w K mg base (He.fAd K ("State", some "mark")) 1 ["self"] [] (sp_State_mark P w K) :=
  ⟨fd, F.bindsN fun _ _ _ _ _ _ us hl => match us, hl with | [_], _ => rfl, fn_State_mark F z_len W_State, [], .nil, F.bindsN fun _ _ _ _ _ _ us hl => match us, hl with | [_], _ => rfl⟩

theorem fn_put_account {f : Addr} {fd : FuncData} (F : FnP K "_put_account" s_put_account f fd)   (W_State : CF_State K mg) : FnOk P w K mg base CX0 1 f fd ["state", "key", "pair"] (sp_put_account P w K) := by
  have cf_State := W_State
  have cfc_State := cf_State.cls
  have cfn_State__accounts := cf_State.n__accounts
  refine F.ok sc_put_account (fun vs H Q E h => ?_) (fun cdv A outer s H vs Q E hr h => ?_)
  · obtain ⟨A, S, B, y, v, o, rfl, _⟩ := h; rfl
  · obtain ⟨A, S, B, y, v, o, rfl, hS, hv, hl, k⟩ := h
    refine ⟨_, PSs.nox (pss_one (ps_if (pt_cmpR op_isN (pv 2) pe_non (nomark _)) (pss_one (ps_expr (L2.pe_dpop2 (pe_fld (pv 0) rfl) (pv 1) pe_non ⟨rfl, rfl, rfl, rfl⟩))) (pss_one (L2.ps_dput (hu_of hr) (pe_fld (pv 0) rfl) (pv 1) (pv 2) rfl)))), ?_⟩
    try simp only [Rd.cxK, Re.cxP, Re.cxW]
    have ht := hS.t
    have ne := SA.ne hS.nd
    obtain ⟨kv, hA, hP⟩ := hS.ad
    obtain ⟨_, hv⟩ := hv
    have hkl : kv.length = S.accs.length := Paired.length hP
    cases o with
    | none =>
      cases hv
      walk_at "rn"
      rotate_left
      · exact absurd rfl ‹_›
      refine ⟨A.ad, rfl, isDK hA, ?_⟩
      walk_at "rn"
      refine ⟨kv, .inl y, hA, rfl, fun v hv => ?_, fun hv => ?_⟩
      · obtain ⟨g1, g2⟩ := hS.upA (drop_accs (k := y) hP) (setA_keys hS.and_)
        exact k _ A B g1 ⟨A.ds, A.sk, rfl, fun x hx => .inl hx⟩ g2
      · have e0 : lookA S.accs y = none := by
          rcases accs_look (k := y) hP with ⟨t, v, _, h2, _⟩ | ⟨h1, _⟩
          · rw [hv] at h2; cases h2
          · exact h1
        refine k H A B Fr.refl ⟨A.ds, A.sk, rfl, fun x hx => .inl hx⟩ ?_
        show StAt P w K H A { S with accs := setA S.accs y none } B
        rw [lookA_no e0]
        exact hS
    | some q =>
      obtain ⟨z, rfl, hz⟩ := id hv
      walk_at "rn"
      · rename_i h; cases h
      refine ⟨A.ad, _, rfl, DPut.k (k := .inl y) hA (Nat.lt_of_le_of_lt (show kv.length ≤ 1000 by omega) (by decide)), ?_⟩
      obtain ⟨g1, g2⟩ := hS.upA (put_accs (k := y) hP hv) (setA_keys hS.and_)
      exact k _ A B g1 ⟨A.ds, A.sk, rfl, fun x hx => .inl hx⟩ g2
theorem ok_put_account {f : Addr} {fd : FuncData} (mf : mg "_put_account" = some (.ref f)) (F : FnP K "_put_account" s_put_account f fd)   (W_State : CF_State K mg) : Cal P w K mg base "_put_account" 1 ["state", "key", "pair"] (sp_put_account P w K) :=
  ⟨f, fd, mf, F.kp, F.bindsN fun _ _ _ _ _ _ us hl => match us, hl with | [_, _, _], _ => rfl, fn_put_account F W_State⟩

theorem fn_put_pot {f : Addr} {fd : FuncData} (F : FnP K "_put_pot" s_put_pot f fd)   (W_State : CF_State K mg) : FnOk P w K mg base CX0 1 f fd ["state", "pot", "amount"] (sp_put_pot P w K) := by
  have cf_State := W_State
  have cfc_State := cf_State.cls
  have cfn_State_fees := cf_State.n_fees
  have cfn_State_reserve := cf_State.n_reserve
  have cfn_State_treasury := cf_State.n_treasury
  refine F.ok sc_put_pot (fun vs H Q E h => ?_) (fun cdv A outer s H vs Q E hr h => ?_)
  · obtain ⟨A, S, B, n, x, rfl, _⟩ := h; rfl
  · obtain ⟨A, S, B, n, x, rfl, hS, hn, k⟩ := h
    refine ⟨_, PSs.nox (pss_one (ps_if (pt_cmpR op_eq (pv 1) pe_str (nomark _)) (pss_one (ps_fld (pv 0) (pv 2) rfl)) (pss_one (ps_if (pt_cmpR op_eq (pv 1) pe_str (nomark _)) (pss_one (ps_fld (pv 0) (pv 2) rfl)) (pss_one (ps_fld (pv 0) (pv 2) rfl)))))), ?_⟩
    try simp only [Rd.cxK, Re.cxP, Re.cxW, lit_3, lit_4]
    have ht := hS.t
    obtain rfl | rfl | rfl : n = 0 ∨ n = 1 ∨ n = 2 := by omega
    all_goals walk_at "rn"
    all_goals first
      | (rename_i h; exact absurd h (by decide))
      | (rename_i h _; exact absurd h (by decide))
      | (rename_i h; exact absurd (show potName _ = _ from by decide) h)
      | (rename_i h _; exact absurd (show potName _ = _ from by decide) h)
      | skip
    · refine Rb.sfld (Rd.var rfl (Rd.var rfl ⟨A.t, _, A.dx, _, rfl, ht, cfc_State, cfn_State_fees, by show 12 < 1000; decide, ?_⟩))
      obtain ⟨g1, g2⟩ := hS.upT (S' := putPot S x 0) (sk' := A.sk) ⟨rfl, rfl, rfl, rfl, rfl⟩ hS.sk
      exact k _ A B g1 ⟨A.ds, A.sk, rfl, fun x hx => .inl hx⟩ g2
    · refine Rb.sfld (Rd.var rfl (Rd.var rfl ⟨A.t, _, A.dx, _, rfl, ht, cfc_State, cfn_State_reserve, by show 12 < 1000; decide, ?_⟩))
      obtain ⟨g1, g2⟩ := hS.upT (S' := putPot S x 1) (sk' := A.sk) ⟨rfl, rfl, rfl, rfl, rfl⟩ hS.sk
      exact k _ A B g1 ⟨A.ds, A.sk, rfl, fun x hx => .inl hx⟩ g2
    · refine Rb.sfld (Rd.var rfl (Rd.var rfl ⟨A.t, _, A.dx, _, rfl, ht, cfc_State, cfn_State_treasury, by show 12 < 1000; decide, ?_⟩))
      obtain ⟨g1, g2⟩ := hS.upT (S' := putPot S x 2) (sk' := A.sk) ⟨rfl, rfl, rfl, rfl, rfl⟩ hS.sk
      exact k _ A B g1 ⟨A.ds, A.sk, rfl, fun x hx => .inl hx⟩ g2
theorem ok_put_pot {f : Addr} {fd : FuncData} (mf : mg "_put_pot" = some (.ref f)) (F : FnP K "_put_pot" s_put_pot f fd)   (W_State : CF_State K mg) : Cal P w K mg base "_put_pot" 1 ["state", "pot", "amount"] (sp_put_pot P w K) :=
  ⟨f, fd, mf, F.kp, F.bindsN fun _ _ _ _ _ _ us hl => match us, hl with | [_, _, _], _ => rfl, fn_put_pot F W_State⟩

theorem fn_put_clock {f : Addr} {fd : FuncData} (F : FnP K "_put_clock" s_put_clock f fd)   (W_State : CF_State K mg) : FnOk P w K mg base CX0 1 f fd ["state", "item", "clock"] (sp_put_clock P w K) := by
  have cf_State := W_State
  have cfc_State := cf_State.cls
  have cfn_State_epoch := cf_State.n_epoch
  have cfn_State_slot := cf_State.n_slot
  refine F.ok sc_put_clock (fun vs H Q E h => ?_) (fun cdv A outer s H vs Q E hr h => ?_)
  · obtain ⟨A, S, B, v, s, e, rfl, _⟩ := h; rfl
  · obtain ⟨A, S, B, v, s, e, rfl, hS, hv, k⟩ := h
    refine ⟨_, PSs.nox (pss_one (ps_asg (pv 2) (pg_tup (n := 2) rfl (pgs_cons (Es.pg_fld (pv 0)) (pgs_cons (Es.pg_fld (pv 0)) pgs_nil))))), ?_⟩
    try simp only [Rd.cxK, Re.cxP, Re.cxW]
    have ht := hS.t
    obtain ⟨z, rfl, hz⟩ := hv
    walk_at "rn"
    refine ⟨z, _, rfl, hz, rfl, _, _, rfl, Re.gfld (Rd.var rfl ⟨A.t, _, A.dx, _, rfl, ht, cfc_State, cfn_State_slot, by show 12 < 1000; decide, ?_⟩)⟩
    refine ⟨_, _, rfl, Re.gfld (Rd.var rfl ⟨A.t, _, A.dx, _, rfl, upd_same, cfc_State, cfn_State_epoch, by show 12 < 1000; decide, ?_⟩)⟩
    refine ⟨rfl, ?_⟩
    rw [upd_upd]
    obtain ⟨g1, g2⟩ := hS.upT (S' := { S with slot := s, epo := e }) (sk' := A.sk) ⟨rfl, rfl, rfl, rfl, rfl⟩ hS.sk
    exact k _ A B g1 ⟨A.ds, A.sk, rfl, fun x hx => .inl hx⟩ g2
theorem ok_put_clock {f : Addr} {fd : FuncData} (mf : mg "_put_clock" = some (.ref f)) (F : FnP K "_put_clock" s_put_clock f fd)   (W_State : CF_State K mg) : Cal P w K mg base "_put_clock" 1 ["state", "item", "clock"] (sp_put_clock P w K) :=
  ⟨f, fd, mf, F.kp, F.bindsN fun _ _ _ _ _ _ us hl => match us, hl with | [_, _, _], _ => rfl, fn_put_clock F W_State⟩

theorem fn_put_stakes {f : Addr} {fd : FuncData} (F : FnP K "_put_stakes" s_put_stakes f fd)   (W_State : CF_State K mg) : FnOk P w K mg base CX0 1 f fd ["state", "item", "rows"] (sp_put_stakes P w K) := by
  have cf_State := W_State
  have cfc_State := cf_State.cls
  have cfn_State__stakes := cf_State.n__stakes
  refine F.ok sc_put_stakes (fun vs H Q E h => ?_) (fun cdv A outer s H vs Q E hr h => ?_)
  · obtain ⟨A, S, B, q, rows, rfl, _⟩ := h; rfl
  · obtain ⟨A, S, B, q, rows, rfl, hS, hv, k⟩ := h
    refine ⟨_, PSs.nox (pss_one (ps_fld (pv 0) (pv 2) rfl)), ?_⟩
    try simp only [Rd.cxK, Re.cxP, Re.cxW]
    have ht := hS.t
    walk_at "rn"
    refine Rb.sfld (Rd.var rfl (Rd.var rfl ⟨A.t, _, A.dx, _, rfl, ht, cfc_State, cfn_State__stakes, by show 12 < 1000; decide, ?_⟩))
    obtain ⟨g1, g2⟩ := hS.upT (S' := { S with stk := rows }) (sk' := q) ⟨rfl, rfl, rfl, rfl, rfl⟩ hv
    exact k _ _ B g1 ⟨A.ds, q, rfl, fun x hx => .inl hx⟩ g2
theorem ok_put_stakes {f : Addr} {fd : FuncData} (mf : mg "_put_stakes" = some (.ref f)) (F : FnP K "_put_stakes" s_put_stakes f fd)   (W_State : CF_State K mg) : Cal P w K mg base "_put_stakes" 1 ["state", "item", "rows"] (sp_put_stakes P w K) :=
  ⟨f, fd, mf, F.kp, F.bindsN fun _ _ _ _ _ _ us hl => match us, hl with | [_, _, _], _ => rfl, fn_put_stakes F W_State⟩

theorem fn_put_used {f : Addr} {fd : FuncData} (F : FnP K "_put_used" s_put_used f fd)   (W_State : CF_State K mg) : FnOk P w K mg base CX0 1 f fd ["state", "number", "is_used"] (sp_put_used P w K) := by
  have cf_State := W_State
  have cfc_State := cf_State.cls
  have cfn_State__used := cf_State.n__used
  refine F.ok sc_put_used (fun vs H Q E h => ?_) (fun cdv A outer s H vs Q E hr h => ?_)
  · obtain ⟨A, S, B, n, b, rfl, _⟩ := h; rfl
  · obtain ⟨A, S, B, n, b, rfl, hS, hb, hl, k⟩ := h
    refine ⟨_, PSs.nox (pss_one (ps_if (pt_val (pv 2)) (pss_one (L2.ps_dput (hu_of hr) (pe_fld (pv 0) rfl) (pv 1) pe_bl rfl)) (pss_one (L2.ps_ddel (pe_fld (pv 0) rfl) (pv 1))))), ?_⟩
    try simp only [Rd.cxK, Re.cxP, Re.cxW]
    have ht := hS.t
    have hu := hS.ud
    cases b with
    | true =>
      walk_at "rn"
      refine ⟨A.ud, _, rfl, DPut.k (k := .inl n) hu (Nat.lt_of_le_of_lt (show (S.used.map fun n => ((.inl n : Key), V.bl true)).length ≤ 1000 by rw [List.length_map]; exact hl) (by decide)), ?_⟩
      rw [used_put hb]
      obtain ⟨g1, g2⟩ := hS.upU (U := S.used ++ [n]) (by rw [List.nodup_append]; exact ⟨hS.und, by simp, fun a ha b hb2 => by rw [List.mem_singleton.mp hb2]; exact fun e => hb (e ▸ ha)⟩)
      exact k _ A B g1 ⟨A.ds, A.sk, rfl, fun x hx => .inl hx⟩ g2
    | false =>
      walk_at "rn"
      refine ⟨A.ud, _, .inl n, rfl, hu, rfl, (used_val (U := S.used) (n := n)).trans (decide_eq_true hb), ?_⟩
      rw [used_drop]
      obtain ⟨g1, g2⟩ := hS.upU (U := S.used.filter fun x => decide (x ≠ n)) (hS.und.filter _)
      exact k _ A B g1 ⟨A.ds, A.sk, rfl, fun x hx => .inl hx⟩ g2
theorem ok_put_used {f : Addr} {fd : FuncData} (mf : mg "_put_used" = some (.ref f)) (F : FnP K "_put_used" s_put_used f fd)   (W_State : CF_State K mg) : Cal P w K mg base "_put_used" 1 ["state", "number", "is_used"] (sp_put_used P w K) :=
  ⟨f, fd, mf, F.kp, F.bindsN fun _ _ _ _ _ _ us hl => match us, hl with | [_, _, _], _ => rfl, fn_put_used F W_State⟩

theorem fn_law_cell {f : Addr} {fd : FuncData} (F : FnP K "_law_cell" s_law_cell f fd)  (z_len : mg "len" = none) : FnOk P w K mg base CX0 1 f fd ["script", "k"] (sp_law_cell P w K) := by
  refine F.ok sc_law_cell (fun vs H Q E h => ?_) (fun cdv A outer s H vs Q E hr h => ?_)
  · obtain ⟨a, ns, i, rfl, _⟩ := h; rfl
  · obtain ⟨a, ns, i, rfl, hS, h0, k⟩ := h
    refine ⟨_, PSs.nox (pss_cons (ps_if (pt_cmpR op_lt (pv 1) (pe_callB call_len_seq (by rfl) z_len boot_len (pa_cons (pv 0) pa_nil)) (nomark _)) (pss_one (ps_ret (pe_ix ix_list (pv 0) (pv 1) (fun _ _ => rfl)))) pss_nil)
      (pss_one (ps_ret pe_int))), ?_⟩
    try simp only [Rd.cxK, Re.cxP, Re.cxW]
    walk_at "rd"
    all_goals exact k _
theorem ok_law_cell {f : Addr} {fd : FuncData} (mf : mg "_law_cell" = some (.ref f)) (F : FnP K "_law_cell" s_law_cell f fd)  (z_len : mg "len" = none) : Cal P w K mg base "_law_cell" 1 ["script", "k"] (sp_law_cell P w K) :=
  ⟨f, fd, mf, F.kp, F.bindsN fun _ _ _ _ _ _ us hl => match us, hl with | [_, _], _ => rfl, fn_law_cell F z_len⟩

theorem fn_law_numbers {f : Addr} {fd : FuncData} (F : FnP K "_law_numbers" s_law_numbers f fd)  (z_abs : mg "abs" = none) (z_range : mg "range" = none) (z_int : mg "int" = none) : FnOk P w K mg base CX0 1 f fd ["cell", "many"] (sp_law_numbers P w K) := by
  refine F.ok sc_law_numbers (fun vs H Q E h => ?_) (fun cdv A outer s H vs Q E hr h => ?_)
  · obtain ⟨c, m, rfl, _⟩ := h; rfl
  · obtain ⟨c, m, rfl, hm, k⟩ := h
    refine ⟨_, PSs.nox (pss_cons (ps_set (i := 2) sc_law_numbers.nd rfl (by first | exact Or.inl rfl | exact Or.inr rfl) (pe_callB call_abs (by rfl) z_abs boot_abs (pa_cons (pv 0) pa_nil)))
      (pss_cons (ps_set (i := 3) sc_law_numbers.nd rfl (by first | exact Or.inl rfl | exact Or.inr rfl) (pv 2))
      (pss_cons (ps_set (i := 4) sc_law_numbers.nd rfl (by first | exact Or.inl rfl | exact Or.inr rfl) (pe_lst pa_nil))
      (pss_cons (ps_for PassesOwn.never rfl (pi_range1 (by rfl) z_range (pa_cons (pv 1) pa_nil)) (pg_name (i := 5) sc_law_numbers.nd rfl (by first | exact Or.inl rfl | exact Or.inr rfl)) (pss_one (ps_if (PW.pt (pw_and (pt_cmpR op_ge (pv 3) (pe_op op_pow pe_int pe_int) (nomark _)) (pw_and1 (pt_cmpR op_gt (pv 2) pe_int (nomark _))))) (pss_cons (ps_expr (pe_bm PySem.F.plainAttrs_list PySem.F.slot_list_append PySem.F.type_list_append mt_append (pv 4) (pa_cons (pe_op op_mod (pe_callTy call_int1 (by rfl) z_int boot_int (pa_cons (pv 2) pa_nil)) pe_int) pa_nil)))
      (pss_one (ps_set (i := 2) sc_law_numbers.nd rfl (by first | exact Or.inl rfl | exact Or.inr rfl) (pe_op op_fdiv (pv 2) pe_int)))) (pss_cons (ps_set (i := 6) sc_law_numbers.nd rfl (by first | exact Or.inl rfl | exact Or.inr rfl) (pe_op op_mod (pe_callTy call_int1 (by rfl) z_int boot_int (pa_cons (pe_op op_add (pe_op op_add (pe_op op_mul (pv 3) pe_int) (pe_op op_mul (pv 5) pe_int)) pe_int) pa_nil)) pe_int))
      (pss_cons (ps_set (i := 6) sc_law_numbers.nd rfl (by first | exact Or.inl rfl | exact Or.inr rfl) (pe_op op_mod (pe_callTy call_int1 (by rfl) z_int boot_int (pa_cons (pe_op op_add (pe_op op_add (pe_op op_mul (pv 6) (pv 6)) (pe_op op_mul pe_int (pv 5))) pe_int) pa_nil)) pe_int))
      (pss_one (ps_expr (pe_bm PySem.F.plainAttrs_list PySem.F.slot_list_append PySem.F.type_list_append mt_append (pv 4) (pa_cons (pe_op op_mod (pe_callTy call_int1 (by rfl) z_int boot_int (pa_cons (pe_op op_fdiv (pv 6) pe_int) pa_nil)) pe_int) pa_nil)))))))))
      (pss_one (ps_ret (pv 4))))))), ?_⟩
    try simp only [Rd.cxK, Re.cxP, Re.cxW]
    walk_at "rd"
    rename_i z hz0 hz1 p hp
    refine Rd.rng1 (fun i σ' H' => ∃ (r : Int) (nums : List Int) (kv mv : Option V), σ' = [some (.int c), some (.int m), some (.int r), some (.int z), some (.ref p), kv, mv] ∧ 0 ≤ r ∧ nums.length = i ∧ (∀ x ∈ nums, 0 ≤ x ∧ x < 1000) ∧ Same H H' ∧ H' p = some (.lst (nums.map V.int))) ⟨by omega, by omega⟩ ?_ ?_ ?_
    · exact ⟨z, [], _, _, rfl, hz0, rfl, by simp, Rd.same_new hp, upd_same⟩
    · rintro i σ' H' hi ⟨r, nums, kv, mv, rfl, hr0, hl, hb, hs, hp'⟩
      walk_at "rd"
      all_goals (refine ⟨_, nums ++ [_], _, _, rfl, ?_, ?_, Rd.bd_app hb ?_, Rd.same_mut hs hp, Rd.pushInts⟩ <;> first | omega | simp [hl])
    · rintro σ' H' ⟨r, nums, kv, mv, rfl, hr0, hl, hb, hs, hp'⟩
      walk_at "rd"
      exact k p nums H' hs hp hp' hl hb
theorem ok_law_numbers {f : Addr} {fd : FuncData} (mf : mg "_law_numbers" = some (.ref f)) (F : FnP K "_law_numbers" s_law_numbers f fd)  (z_abs : mg "abs" = none) (z_range : mg "range" = none) (z_int : mg "int" = none) : Cal P w K mg base "_law_numbers" 1 ["cell", "many"] (sp_law_numbers P w K) :=
  ⟨f, fd, mf, F.kp, F.bindsN fun _ _ _ _ _ _ us hl => match us, hl with | [_, _], _ => rfl, fn_law_numbers F z_abs z_range z_int⟩

theorem fn_law_output {f : Addr} {fd : FuncData} (F : FnP K "_law_output" s_law_output f fd)  (z_int : mg "int" = none) (z_str : mg "str" = none) (z_tuple : mg "tuple" = none) (z_range : mg "range" = none) : FnOk P w K mg base CX0 1 f fd ["numbers", "at"] (sp_law_output P w K) := by
  refine F.ok sc_law_output (fun vs H Q E h => ?_) (fun cdv A outer s H vs Q E hr h => ?_)
  · obtain ⟨b, ns, i, rfl, _⟩ := h; rfl
  · obtain ⟨b, ns, i, rfl, hb, hb3, hnl, hi, k⟩ := h
    refine ⟨_, PSs.nox (pss_cons (ps_set (i := 2) sc_law_output.nd rfl (by first | exact Or.inl rfl | exact Or.inr rfl) (pe_lst (pa_cons (pe_tup (pa_cons (pe_tup (pa_cons pe_str (pa_cons pe_int pa_nil))) (pa_cons (pe_op op_add pe_int (pe_ix ix_list (pv 0) (pv 1) (fun _ _ => rfl))) pa_nil))) pa_nil)))
      (pss_cons (ps_if (pt_cmpR op_eq (pe_op op_mod (pe_ix ix_list (pv 0) (pe_op op_add (pv 1) pe_int) (fun _ _ => rfl)) pe_int) pe_int (nomark _)) (pss_one (ps_expr (pe_bm PySem.F.plainAttrs_list PySem.F.slot_list_append PySem.F.type_list_append mt_append (pv 2) (pa_cons (pe_tup (pa_cons (pe_tup (pa_cons pe_str (pa_cons (pe_op op_mod (pe_ix ix_list (pv 0) (pe_op op_add (pv 1) pe_int) (fun _ _ => rfl)) pe_int) pa_nil))) (pa_cons (pe_op op_add pe_int (pe_ix ix_list (pv 0) (pe_op op_add (pv 1) pe_int) (fun _ _ => rfl))) pa_nil))) pa_nil)))) pss_nil)
      (pss_cons (ps_if (pt_cmpR op_eq (pe_op op_mod (pe_ix ix_list (pv 0) (pe_op op_add (pv 1) pe_int) (fun _ _ => rfl)) pe_int) pe_int (nomark _)) (pss_one (ps_expr (pe_bm PySem.F.plainAttrs_list PySem.F.slot_list_append PySem.F.type_list_append mt_append (pv 2) (pa_cons (pe_tup (pa_cons (pe_tup (pa_cons pe_str (pa_cons (pe_op op_mod (pe_callTy call_int1 (by rfl) z_int boot_int (pa_cons (pe_op op_mul (pe_ix ix_list (pv 0) (pe_op op_add (pv 1) pe_int) (fun _ _ => rfl)) pe_int) pa_nil)) pe_int) pa_nil))) (pa_cons (pe_op op_sub (pe_op op_pow pe_int pe_int) (pe_ix ix_list (pv 0) (pv 1) (fun _ _ => rfl))) pa_nil))) pa_nil)))) pss_nil)
      (pss_cons (ps_set (i := 3) sc_law_output.nd rfl (by first | exact Or.inl rfl | exact Or.inr rfl) (pe_tup (pa_cons pe_str (pa_cons (pe_op op_mod (pe_ix ix_list (pv 0) (pe_op op_add (pv 1) pe_int) (fun _ _ => rfl)) pe_int) pa_nil))))
      (pss_cons (ps_if (pt_cmpR op_eq (pe_op op_mod (pe_ix ix_list (pv 0) (pe_op op_add (pv 1) pe_int) (fun _ _ => rfl)) pe_int) pe_int (nomark _)) (pss_one (ps_set (i := 3) sc_law_output.nd rfl (by first | exact Or.inl rfl | exact Or.inr rfl) (pe_tup (pa_cons pe_str (pa_cons (pe_op op_mod (pe_callTy call_int1 (by rfl) z_int boot_int (pa_cons (pe_op op_mul (pe_ix ix_list (pv 0) (pe_op op_add (pv 1) pe_int) (fun _ _ => rfl)) pe_int) pa_nil)) pe_int) pa_nil))))) pss_nil)
      (pss_cons (ps_if (pt_cmpR op_eq (pe_op op_mod (pe_ix ix_list (pv 0) (pe_op op_add (pv 1) pe_int) (fun _ _ => rfl)) pe_int) pe_int (nomark _)) (pss_one (ps_set (i := 3) sc_law_output.nd rfl (by first | exact Or.inl rfl | exact Or.inr rfl) (pe_tup (pa_cons pe_str (pa_cons (pe_ix ix_list (pe_lst (pa_cons pe_str (pa_cons pe_str (pa_cons (pe_op op_add_str pe_str (pe_callTy call_str_int (by rfl) z_str boot_str (pa_cons (pe_ix ix_list (pv 0) (pe_op op_add (pv 1) pe_int) (fun _ _ => rfl)) pa_nil))) pa_nil)))) (pe_op op_mod (pe_op op_fdiv (pe_ix ix_list (pv 0) (pe_op op_add (pv 1) pe_int) (fun _ _ => rfl)) pe_int) pe_int) (fun _ _ => rfl)) pa_nil))))) pss_nil)
      (pss_cons (ps_set (i := 4) sc_law_output.nd rfl (by first | exact Or.inl rfl | exact Or.inr rfl) (pe_callTy call_tuple_of (by rfl) z_tuple boot_tuple (pa_cons (pe_lc (own := [("k", 5)]) (g := gName 5) (tt := tYes) rfl sc_law_output.nd (pi_range1 (by rfl) z_range (pa_cons (pe_op op_mod (pe_ix ix_list (pv 0) (pe_op op_add (pv 1) pe_int) (fun _ _ => rfl)) pe_int) pa_nil)) (blkOk_by (N := N_law_output) (sc := defScope s_law_output) (by decide +kernel)) (fun _ _ _ _ _ => pg_name (i := 5) sc_law_output.nd rfl (by first | exact Or.inl rfl | exact Or.inr rfl)) (fun _ _ _ _ _ => pts_nil) (fun _ _ _ _ _ => (pe_op op_add (pe_op op_sub (pe_ix (Rb.ix_listK (K := K) rfl) (pv 0) (pe_op op_add (pv 1) pe_int) (fun _ _ => rfl)) pe_int) (pv 5)))) pa_nil)))
      (pss_one (ps_ret (pe_tup (pa_cons (pv 3) (pa_cons (pe_callTy call_tuple_of (by rfl) z_tuple boot_tuple (pa_cons (pv 2) pa_nil)) (pa_cons (pv 4) pa_nil))))))))))))), ?_⟩
    try simp only [Rd.cxK, Re.cxP, Re.cxW, lit_0, lit_10, lit_11, lit_12, lit_13, lit_14, lit_15, lit_16]
    subst hi
    walk_at "rnj"
    rename_i p hp v0 hv0 hv1 q hq r hr
    have s0 := (Rd.same_new (o := .tup [.str (Rd.S []), .int 0]) hp).trans (Rd.same_new (o := .tup [.ref p, .int (1 + v0)]) hq)
    have hr0 := s0.free hr
    have s1 := s0.trans (Rd.same_new (o := .lst [.ref q]) hr)
    have hX1 : DpAll K (upd (upd (upd H p (.tup [.str (Rd.S []), .int 0])) q (.tup [.ref p, .int (1 + v0)])) r (.lst [.ref q])) [.ref q] ([((Rd.S [], 0), 1 + v0)].map encR) := .cons (rowDp (p := (Rd.S [], 0)) (SqT.of (Rd.same_new hr _ _ upd_same)) (SqT.of (Rd.same_new hr _ _ (Rd.same_new hq _ _ upd_same)))) .nil
    have hr1 : upd (upd (upd H p (.tup [.str (Rd.S []), .int 0])) q (.tup [.ref p, .int (1 + v0)])) r (.lst [.ref q]) r = some (.lst [.ref q]) := upd_same
    have hnr1 : Nrm [((Rd.S [], 0), 1 + v0)] := nrm1 (by omega)
    have hok1 : OkQ [((Rd.S [], 0), 1 + v0)] := ⟨fun e he => by rw [List.mem_singleton.mp he]; exact strOk_S (by simp), fun e he => by rw [List.mem_singleton.mp he]; show 0 < 1 + v0; omega⟩
    generalize upd (upd (upd H p (.tup [.str (Rd.S []), .int 0])) q (.tup [.ref p, .int (1 + v0)])) r (.lst [.ref q]) = H1 at *
    clear s0
    refine Rd.join (fun σ' H' => ∃ xs R,  σ' = [some (.ref b), some (.int 3), some (.ref r), none, none, none] ∧ Same H H' ∧ H' r = some (.lst xs) ∧ DpAll K H' xs (R.map encR) ∧ OkQ R ∧ R.length ≤ 2 ∧ Nrm R ∧ (∀ e ∈ R, e.1.1 = Rd.S [] ∨ e.1.1 = Rd.S [112])) ?_ ?_
    · intro N hN
      have hb1 := s1 _ _ hb
      walk_at "rn"
      · obtain ⟨t1, t2⟩ := rowPush s1 hr0 hr1 hX1 ‹_› ‹_›
        exact hN _ _ ⟨_, _,  rfl, t1, upd_same, t2, okQ_app hok1 (strOk_S (by decide)) (by omega), by simp, nrm_app hnr1 (fun e he => by rw [List.mem_singleton.mp he]; exact .inl (show (Rd.S []).cps.toList < (Rd.S [112]).cps.toList ∧ Rd.S [] ≠ Rd.S [112] by decide +kernel)) (by omega), fun e he => by rcases List.mem_append.mp he with h | h <;> rw [List.mem_singleton.mp h] <;> first | exact .inl rfl | exact .inr rfl⟩
      · exact hN _ _ ⟨_, _,  rfl, s1, hr1, hX1, hok1, by simp, hnr1, fun e he => by rw [List.mem_singleton.mp he]; exact .inl rfl⟩
    clear hX1 hr1 hok1 s1 hnr1
    rintro σ' H2 ⟨xs, R,  rfl, s2, hr2, hX2, hok2, hl2, hnr2, hkk2⟩
    have lx := rowsLen hX2
    have hb2 := s2 _ _ hb
    refine Rd.join (fun σ' H' => ∃ xs R,  σ' = [some (.ref b), some (.int 3), some (.ref r), none, none, none] ∧ Same H H' ∧ H' r = some (.lst xs) ∧ DpAll K H' xs (R.map encR) ∧ OkQ R ∧ R.length ≤ 3 ∧ Nrm R) ?_ ?_
    · intro N hN
      walk_at "rn"
      · obtain ⟨t1, t2⟩ := rowPush s2 hr0 hr2 hX2 ‹_› ‹_›
        exact hN _ _ ⟨_, _,  rfl, t1, upd_same, t2, okQ_app hok2 (strOk_S (by decide)) (by omega), by rw [List.length_append]; simp; omega, nrm_app hnr2 (fun e he => by rcases hkk2 e he with h | h <;> (rw [h]; exact .inl (by decide +kernel))) (by omega)⟩
      · exact hN _ _ ⟨_, _,  rfl, s2, hr2, hX2, hok2, by omega, hnr2⟩
    clear hX2 hr2 hok2 hb2 lx hnr2 hkk2
    rintro σ' H3 ⟨ys, R,  rfl, s3, hr3, hX3, hok3, hl3, hnr3⟩
    have hb3' := s3 _ _ hb
    walk_at "rnj"
    rename_i n0 hn0 hn1 z0 hz0
    have A0 : SqT K (upd H3 z0 (.tup [.str (Rd.S [107, 101, 121]), .int (n0 % 3)])) z0 ([(Sum.inr (Rd.S [107, 101, 121]) : Key), Sum.inl (n0 % 3)].map kV) := SqT.of upd_same
    have s4 := Rd.same_new (o := .tup [.str (Rd.S [107, 101, 121]), .int (n0 % 3)]) hz0
    generalize upd H3 z0 (.tup [.str (Rd.S [107, 101, 121]), .int (n0 % 3)]) = H4 at *
    have hb4 := s4 _ _ hb3'
    refine Rd.join (fun σ' H' => ∃ (z : Addr) (t : List Key), AdOk t ∧  σ' = [some (.ref b), some (.int 3), some (.ref r), some (.ref z), none, none] ∧ Same H4 H' ∧ SqT K H' z (t.map kV)) ?_ ?_
    · intro N hN
      walk_at "rn"
      · exact hN _ _ ⟨_, [Sum.inr (Rd.S [107, 101, 121]), Sum.inl _], adI (strOk_S (by decide)),  rfl, Rd.same_new ‹_›, SqT.of upd_same⟩
      · exact hN _ _ ⟨_, _, adI (strOk_S (by decide)),  rfl, Same.refl _, A0⟩
    rintro σ' H5 ⟨z1, t1, ht1,  rfl, s5, A1⟩
    clear A0
    have s6 := s4.trans s5
    have hb5 := s5 _ _ hb4
    refine Rd.join (fun σ' H' => ∃ (z : Addr) (t : List Key), AdOk t ∧  σ' = [some (.ref b), some (.int 3), some (.ref r), some (.ref z), none, none] ∧ Same H5 H' ∧ SqT K H' z (t.map kV)) ?_ ?_
    · intro N hN
      walk_at "rn"
      · rename_i u hu0 hu1 hu3 m hm0 hm1
        obtain ⟨m, rfl⟩ := Int.eq_ofNat_of_zero_le hm0
        have hml := (Ez.numL_int (n := m) (by omega)).2
        have hms : PyData.strOk (Rd.S ([49, 32, 60, 32] ++ TL.numL m)) = true := strOk_S fun c hc => by
          rcases List.mem_append.mp hc with h | h
          · simp at h; omega
          · have := TL.numL_digits m c h; omega
        refine Ez.strN (by omega) (Rd.addS' (by simp; omega) ?_)
        walk_at "rn"
        rename_i l0 hl0 u2 hu4 hu5
        have hdm : 0 ≤ u2 / 4 % 3 ∧ u2 / 4 % 3 < 3 := by omega
        refine ixAll (fun v => ∃ x : Str, PyData.strOk x = true ∧ v = .str x) (SqL.of upd_same) hdm.1 (by simp; omega) (by intro v hv; simp only [List.mem_cons, List.not_mem_nil, or_false] at hv; rcases hv with rfl | rfl | rfl <;> first | exact ⟨_, strOk_S (by decide), rfl⟩ | exact ⟨_, hms, rfl⟩) ?_
        rintro v ⟨x, hxo, rfl⟩
        walk_at "rn"
        rename_i z9 hz9
        exact hN _ _ ⟨_, [Sum.inr (Rd.S [115, 99, 114, 105, 112, 116]), Sum.inr x], adS (strOk_S (by decide)) hxo,  rfl, (Rd.same_new hl0).trans (Rd.same_new hz9), SqT.of upd_same⟩
      · exact hN _ _ ⟨_, _, ht1,  rfl, Same.refl _, A1⟩
    rintro σ' H7 ⟨z2, t2, ht2,  rfl, s7, A2⟩
    clear A1
    replace s7 := s6.trans s7
    have hb7 := s7 _ _ hb3'
    walk_at "rn"
    refine Rd.lcR1 (fun D i acc H' => ∃ es : List Int, acc = es.map V.int ∧ es.length = i) (by omega) (fun D H' _ _ _ => ⟨[], rfl, rfl⟩) ?_ ?_
    · rintro j acc D H' hD s hi hl hDl ⟨es, rfl, hes⟩
      have hb6 := s _ _ hb7
      walk_at "rn"
      rename_i v9 hv8 hv9
      exact Rd.lcE hD hDl s hl (by omega) ⟨es ++ [v9 - 500 + j], by rw [List.map_append]; rfl, by rw [List.length_append]; simp; omega⟩
    rintro D acc H8 hD s8 hDl hal ⟨es, rfl, hes⟩
    rw [List.length_map] at hal
    have A3 := Rd.same_tup s8 A2
    have s9 := s7.trans s8
    have hr8 := s9 _ _ hr3
    have hX8 := dpAll_same s9 hX3
    have s8' := s3.trans s9
    clear A2 hr3 hX3
    walk_at "rn"
    rename_i dt hdt rt hrt w hw
    have sa := Rd.same_new (o := .tup (es.map V.int)) hdt
    have sb := Rd.same_new (o := .tup ys) hrt
    have sc := Rd.same_new (o := .tup [.ref z2, .ref rt, .ref dt]) hw
    have sd := (sa.trans sb).trans sc
    refine k w ⟨t2, R, es⟩ _ (s8'.trans sd) (.tup (SqT.of upd_same) (.cons (.tup (Rd.same_tup sd A3) dp_keys) (.cons (.tup (SqT.of (sc _ _ upd_same)) (dpAll_same sd hX8)) (.cons (.tup (SqT.of (sc _ _ (sb _ _ upd_same))) dp_ints) .nil)))) ⟨hok3.1, hl3, by show es.length ≤ 3; omega, ht2, hok3.2⟩ hnr3
theorem ok_law_output {f : Addr} {fd : FuncData} (mf : mg "_law_output" = some (.ref f)) (F : FnP K "_law_output" s_law_output f fd)  (z_int : mg "int" = none) (z_str : mg "str" = none) (z_tuple : mg "tuple" = none) (z_range : mg "range" = none) : Cal P w K mg base "_law_output" 1 ["numbers", "at"] (sp_law_output P w K) :=
  ⟨f, fd, mf, F.kp, F.bindsN fun _ _ _ _ _ _ us hl => match us, hl with | [_, _], _ => rfl, fn_law_output F z_int z_str z_tuple z_range⟩

theorem fn_law_grants {f : Addr} {fd : FuncData} (F : FnP K "_law_grants" s_law_grants f fd)  (z_range : mg "range" = none) (z_int : mg "int" = none) : FnOk P w K mg base CX0 1 f fd ["numbers"] (sp_law_grants P w K) := by
  refine F.ok sc_law_grants (fun vs H Q E h => ?_) (fun cdv A outer s H vs Q E hr h => ?_)
  · obtain ⟨b, ns, rfl, _⟩ := h; rfl
  · obtain ⟨b, ns, rfl, hb, hb3, hnl, k⟩ := h
    refine ⟨_, PSs.nox (pss_cons (ps_set (i := 1) sc_law_grants.nd rfl (by first | exact Or.inl rfl | exact Or.inr rfl) (pe_lst pa_nil))
      (pss_cons (ps_for PassesOwn.never rfl (pi_range1 (by rfl) z_range (pa_cons (pe_op op_mod (pe_ix ix_list (pv 0) pe_int (fun _ _ => rfl)) pe_int) pa_nil)) (pg_name (i := 2) sc_law_grants.nd rfl (by first | exact Or.inl rfl | exact Or.inr rfl)) (pss_one (ps_expr (pe_bm PySem.F.plainAttrs_list PySem.F.slot_list_append PySem.F.type_list_append mt_append (pv 1) (pa_cons (pe_tup (pa_cons (pe_op op_mod (pe_ix ix_list (pv 0) (pe_op op_add pe_int (pv 2)) (fun _ _ => rfl)) pe_int) (pa_cons (pe_op op_add pe_int (pe_ix ix_list (pv 0) (pe_op op_add pe_int (pv 2)) (fun _ _ => rfl))) pa_nil))) pa_nil)))))
      (pss_cons (ps_if (pt_cmpR op_eq (pe_op op_mod (pe_ix ix_list (pv 0) pe_int (fun _ _ => rfl)) pe_int) pe_int (nomark _)) (pss_one (ps_setLc (i := 1) (own := [("k", 2)]) (g := gName 2) (tt := tYes) rfl sc_law_grants.nd rfl rfl (sw_true rfl rfl rfl (by decide +kernel)) (pi_range1 (by rfl) z_range (pa_cons pe_int pa_nil)) (blkOk_by (N := N_law_grants) (sc := defScope s_law_grants) (by decide +kernel)) (fun _ _ _ _ _ => pg_name (i := 2) sc_law_grants.nd rfl (by first | exact Or.inl rfl | exact Or.inr rfl)) (fun _ _ _ _ _ => pts_nil) (fun _ _ _ _ _ => (pe_tup (pa_cons (pe_op op_mod (pe_callTy call_int1 (by rfl) z_int boot_int (pa_cons (pe_op op_mul (pv 2) pe_int) pa_nil)) pe_int) (pa_cons (pe_op op_sub (pe_op op_pow pe_int pe_int) (pv 2)) pa_nil)))))) pss_nil)
      (pss_one (ps_ret (pv 1)))))), ?_⟩
    try simp only [Rd.cxK, Re.cxP, Re.cxW]
    walk_at "rn"
    rename_i p hp v0 hv0 hv1
    refine Rd.rng1 (fun i σ' H' => ∃ (xs : List V) (G : List (Int × Int)), ∃ c2,  σ' = [some (.ref b), some (.ref p), c2] ∧ Same H H' ∧ H' p = some (.lst xs) ∧ DpAll K H' xs (G.map encP2) ∧ (∀ g ∈ G, (0 : Int) < g.2) ∧ G.length = i) (by omega) ⟨[], [], _,  rfl, Rd.same_new hp, upd_same, .nil, fun _ h => absurd h List.not_mem_nil, rfl⟩ ?_ ?_
    · rintro i σ' H' hi ⟨xs, G, c2,  rfl, hs, hx, hX, hG, hl⟩
      have hb' := hs _ _ hb
      have hxl : xs.length = G.length := by have := Rd.dpAll_len hX; rwa [List.length_map] at this
      walk_at "rn"
      rename_i v1 hv10 hv11 v2 hv20 hv21 t ht
      refine ⟨_, G ++ [(v1 % 3, 1 + v2)], _,  rfl, Rd.same_mut (hs.trans (Rd.same_new ht)) hp, upd_same, ?_, ?_, by rw [List.length_append]; simp; omega⟩
      · rw [List.map_append]
        exact push hX (nlMap encP2_nl) (Rd.same_new ht) (Rd.same_new ht _ _ hx) (.tup (ds := [.int (v1 % 3), .int (1 + v2)]) (SqT.of upd_same) (.cons (.int _) (.cons (.int _) .nil))) (encP2_nl _)
      · intro g hg
        rcases List.mem_append.mp hg with h | h
        · exact hG g h
        · rw [List.mem_singleton.mp h]; show 0 < 1 + v2; omega
    rintro σ' H1 ⟨xs, G, c2,  rfl, hs, hx, hX, hG, hl⟩
    have hb' := hs _ _ hb
    replace hl : G.length ≤ 20 := by omega
    refine Rd.join (fun σ' H' => ∃ (q : Addr) (xs : List V) (G : List (Int × Int)), σ'[1]? = some (some (.ref q)) ∧ Same H H' ∧ H q = none ∧ H' q = some (.lst xs) ∧ DpAll K H' xs (G.map encP2) ∧ (∀ g ∈ G, (0 : Int) < g.2) ∧ G.length ≤ 20) ?_ ?_
    · intro N hN
      walk_at "rn"
      · refine Rd.lcR1 (fun D i acc H' => ∃ G : List (Int × Int), DpAll K H' acc (G.map encP2) ∧ (∀ g ∈ G, (0 : Int) < g.2) ∧ G.length = i) (by omega) (fun D H' _ _ _ => ⟨[], .nil, fun _ h => absurd h List.not_mem_nil, rfl⟩) ?_ ?_
        · rintro i acc D H' hD s hi hl2 hDl ⟨G2, h1, h2, h3⟩
          walk_at "rn"
          rename_i t ht
          refine Rd.lcE hD (Rd.same_new ht _ _ hDl) (s.trans (Rd.same_new ht)) hl2 (by omega) ⟨G2 ++ [((i : Int) * 1000003 % 1000000001, 10000000000 - (i : Int))], ?_, ?_, by rw [List.length_append]; simp; omega⟩
          · rw [List.map_append]
            exact push h1 (nlMap encP2_nl) (Rd.same_new ht) (Rd.same_new ht _ _ hDl) (.tup (ds := [.int ((i : Int) * 1000003 % 1000000001), .int (10000000000 - (i : Int))]) (SqT.of upd_same) (.cons (.int _) (.cons (.int _) .nil))) (encP2_nl _)
          · intro g hg
            rcases List.mem_append.mp hg with h | h
            · exact h2 g h
            · rw [List.mem_singleton.mp h]; show 0 < 10000000000 - (i : Int); omega
        · rintro D acc H2 hD s hDl hal ⟨G2, h1, h2, h3⟩
          exact hN _ _ ⟨D, acc, G2, rfl, hs.trans s, hs.free hD, hDl, h1, h2, by omega⟩
      · exact hN _ _ ⟨p, xs, G, rfl, hs, hp, hx, hX, hG, hl⟩
    rintro σ' H2 ⟨q, xs, G, hq, hs, hq0, hx, hX, hG, hl⟩
    refine ⟨.ref q, hq, k q xs G H2 hs hq0 hx hX hG hl⟩
theorem ok_law_grants {f : Addr} {fd : FuncData} (mf : mg "_law_grants" = some (.ref f)) (F : FnP K "_law_grants" s_law_grants f fd)  (z_range : mg "range" = none) (z_int : mg "int" = none) : Cal P w K mg base "_law_grants" 1 ["numbers"] (sp_law_grants P w K) :=
  ⟨f, fd, mf, F.kp, F.bindsN fun _ _ _ _ _ _ us hl => match us, hl with | [_], _ => rfl, fn_law_grants F z_range z_int⟩

theorem fn_law_first {f : Addr} {fd : FuncData} (F : FnP K "_law_first" s_law_first f fd)  (z_range : mg "range" = none) (z_len : mg "len" = none) : FnOk P w K mg base CX0 1 f fd ["grants", "reserve"] (sp_law_first P w K) := by
  refine F.ok sc_law_first (fun vs H Q E h => ?_) (fun cdv A outer s H vs Q E hr h => ?_)
  · obtain ⟨b, xs, G, res, rfl, _⟩ := h; rfl
  · obtain ⟨b, xs, G, res, rfl, hb, hX, hl, k⟩ := h
    refine ⟨_, PSs.nox (pss_cons (ps_set (i := 2) sc_law_first.nd rfl (by first | exact Or.inl rfl | exact Or.inr rfl) Es.pe_dnewX)
      (pss_cons (ps_for PassesOwn.never rfl (pi_range1 (by rfl) z_range (pa_cons (pe_callB call_len_seq (by rfl) z_len boot_len (pa_cons (pv 0) pa_nil)) pa_nil)) (pg_name (i := 3) sc_law_first.nd rfl (by first | exact Or.inl rfl | exact Or.inr rfl)) (pss_one (Es.ps_dputX (hu_of hr) (pv 2) (pe_tup (pa_cons pe_int (pa_cons (pv 3) pa_nil))) (pe_tup (pa_cons (pe_tup (pa_cons pe_str (pa_cons (pe_ix ix_tup (pe_ix ix_list (pv 0) (pv 3) (fun _ _ => rfl)) pe_int (fun _ _ => rfl)) pa_nil))) (pa_cons (pe_tup (pa_cons (pe_tup (pa_cons (pe_tup (pa_cons pe_str (pa_cons pe_int pa_nil))) (pa_cons (pe_ix ix_tup (pe_ix ix_list (pv 0) (pv 3) (fun _ _ => rfl)) pe_int (fun _ _ => rfl)) pa_nil))) pa_nil)) (pa_cons (pe_tup pa_nil) pa_nil)))) rfl)))
      (pss_one (ps_ret (L2.pe_disp (pps_cons pe_str (pv 2) (pps_cons pe_str pe_dnewK (pps_cons pe_str (pe_tup pa_nil) (pps_cons pe_str (pe_lst (pa_cons pe_int (pa_cons (pv 1) (pa_cons pe_int pa_nil)))) (pps_cons pe_str (pe_tup (pa_cons pe_int (pa_cons pe_int pa_nil))) (pps_cons pe_str (pe_lst pa_nil) pps_nil)))))) (by rfl) (by rfl) (fun z => by cases z) (by decide)))))), ?_⟩
    try simp only [Rd.cxK, Re.cxP, Re.cxW, lit_0, lit_11, lit_17, lit_18, lit_19, lit_7, lit_8, lit_9]
    have hxl : xs.length = G.length := by have := Rd.dpAll_len hX; rwa [List.length_map] at this
    refine Rd.seq (Rd.asg (Re.dnewX fun o ho dd => ?_))
    refine Rd.seq ?_
    walk_at "rn"
    refine Rd.rng1 (fun i σ' H' => ∃ kv, ∃ c3,  σ' = [some (.ref b), some (.int res), some (.ref o), c3] ∧ Same H H' ∧ DS P w K H' o kv ∧ Paired (MoR K H') kv ((stZ G res).outs.take i)) (by omega) ⟨[], _,  rfl, Rd.same_new ho, dd, Paired.nil⟩ ?_ ?_
    · rintro i σ' H' hi ⟨kv, c3,  rfl, hs, hD, hP⟩
      have hi2 : i < xs.length := by omega
      obtain ⟨d0, hd0, hdp⟩ := dpAll_at hX (List.getElem?_eq_getElem hi2)
      obtain ⟨g, hg, rfl⟩ := map_at hd0
      obtain ⟨z, ez, hz0⟩ := dpRef hdp
      have ha : atI xs (i : Int) = some (.ref z) := atI_nat ((List.getElem?_eq_getElem hi2).trans (by rw [ez]))
      have hz := Rd.same_tup hs hz0
      have hb' := hs.seq hb
      have hkl : kv.length = i := by rw [Paired.length hP, List.length_take]; show min i (G.mapIdx _).length = i; rw [List.length_mapIdx]; omega
      refine Re.dputX ?_
      walk_at "rn"
      rename_i p1 hp1 p2 hp2 p3 hp3 p4 hp4 p5 hp5 p6 hp6 p7 hp7
      have hvm : valV kv (eR ((0 : Int), (i : Int))) = none := by
        rcases mo_look (p := ((0 : Int), (i : Int))) hP with ⟨u, v, h1, _⟩ | ⟨_, h2⟩
        · exfalso
          have nd := ((List.take_sublist (i + 1) (stZ G res).outs).map (·.1)).nodup mapIdx_nd
          rw [show (stZ G res).outs.take (i + 1) = _ from mapIdx_take hg, List.map_append, List.nodup_append] at nd
          exact nd.2.2 _ (List.mem_map_of_mem (f := (·.1)) (lookM_in h1)) _ (List.mem_singleton.mpr rfl) rfl
        · exact h2
      have sA := (Rd.same_new hp1 (o := (HO.tup [V.str (Rd.S [107, 101, 121]), V.int g.1]))).trans ((Rd.same_new hp2 (o := (HO.tup [V.str (Rd.S []), V.int 0]))).trans ((Rd.same_new hp3 (o := HO.tup [V.ref p2, V.int g.2])).trans ((Rd.same_new hp4 (o := HO.tup [V.ref p3])).trans ((Rd.same_new hp5 (o := HO.tup [])).trans ((Rd.same_new hp6 (o := HO.tup [V.ref p1, V.ref p4, V.ref p5])).trans (Rd.same_new hp7 (o := HO.tup [V.int 0, V.int (i : Int)])))))))
      have e7 : SqT K _ p7 (((0 : Int), (i : Int)) |> eR |>.map kV) := SqT.of (upd_same (o := HO.tup [V.int 0, V.int (i : Int)]) (H := upd (upd (upd (upd (upd (upd H' p1 (HO.tup [V.str (Rd.S [107, 101, 121]), V.int g.1])) p2 (HO.tup [V.str (Rd.S []), V.int 0])) p3 (HO.tup [V.ref p2, V.int g.2])) p4 (HO.tup [V.ref p3])) p5 (HO.tup [])) p6 (HO.tup [V.ref p1, V.ref p4, V.ref p5])))
      have e6 : Dp K (upd (upd (upd (upd (upd (upd (upd H' p1 (HO.tup [V.str (Rd.S [107, 101, 121]), V.int g.1])) p2 (HO.tup [V.str (Rd.S []), V.int 0])) p3 (HO.tup [V.ref p2, V.int g.2])) p4 (HO.tup [V.ref p3])) p5 (HO.tup [])) p6 (HO.tup [V.ref p1, V.ref p4, V.ref p5])) p7 (HO.tup [V.int 0, V.int (i : Int)])) (.ref p6) (encTr ⟨[Sum.inr (Rd.S [107, 101, 121]), Sum.inl g.1], [((Rd.S [], 0), g.2)], []⟩) := .tup (SqT.of (Rd.nh hp7 upd_same)) (.cons (.tup (SqT.of (Rd.nh hp7 (Rd.nh hp6 (Rd.nh hp5 (Rd.nh hp4 (Rd.nh hp3 (Rd.nh hp2 upd_same))))))) (dp_keys (t := [Sum.inr (Rd.S [107, 101, 121]), Sum.inl g.1]))) (.cons (.tup (SqT.of (Rd.nh hp7 (Rd.nh hp6 (Rd.nh hp5 upd_same)))) (.cons (rowDp (p := (Rd.S [], 0)) (SqT.of (Rd.nh hp7 (Rd.nh hp6 (Rd.nh hp5 (Rd.nh hp4 upd_same))))) (SqT.of (Rd.nh hp7 (Rd.nh hp6 (Rd.nh hp5 (Rd.nh hp4 (Rd.nh hp3 upd_same))))))) .nil)) (.cons (.tup (SqT.of (Rd.nh hp7 (Rd.nh hp6 upd_same))) .nil) .nil)))
      generalize upd (upd (upd (upd (upd (upd (upd H' p1 (HO.tup [V.str (Rd.S [107, 101, 121]), V.int g.1])) p2 (HO.tup [V.str (Rd.S []), V.int 0])) p3 (HO.tup [V.ref p2, V.int g.2])) p4 (HO.tup [V.ref p3])) p5 (HO.tup [])) p6 (HO.tup [V.ref p1, V.ref p4, V.ref p5])) p7 (HO.tup [V.int 0, V.int (i : Int)]) = F at *
      have hD2 := Es.DS.keep sA hD
      refine ⟨o, kv, eR ((0 : Int), (i : Int)), p7, rfl, rfl, hD2, Nat.lt_of_le_of_lt (show kv.length ≤ 100000 by omega) (by decide), e7, fun ys d2 => ?_⟩
      rw [putK_abs hvm] at d2
      have fo : Fr K [o] F (upd F o (dX P w o ys)) := Fr.dict hD2.2.choose_spec.1 (List.mem_singleton.mpr rfl)
      refine ⟨_, _,  rfl, Rd.same_mut (hs.trans sA) ho, d2, ?_⟩
      rw [show (stZ G res).outs.take (i + 1) = _ from mapIdx_take hg]
      exact Paired.snoc (Paired.mapP hP fun _ _ ⟨a1, a2⟩ => ⟨a1, fo.dp (encTr_nl _) (Rd.dp_same sA a2)⟩) ⟨rfl, fo.dp (encTr_nl _) e6⟩
    rintro σ' H' ⟨kv, c3,  rfl, hs, hD, hP⟩
    rw [show (stZ G res).outs.take ((xs.length : Int)).toNat = (stZ G res).outs from List.take_of_length_le (by show (G.mapIdx _).length ≤ _; rw [List.length_mapIdx]; omega)] at hP
    walk_at "rn"
    refine Ef.disp fun m hm => Ef.pairS ?_
    walk_at "rn"
    refine Ef.pairS ?_
    walk_at "rn"
    refine fun ac hac => Ef.pairS ?_
    walk_at "rn"
    rename_i sk hsk
    refine Ef.pairS ?_
    walk_at "rn"
    rename_i pt hpt
    refine Ef.pairS ?_
    walk_at "rn"
    rename_i ck hck
    refine Ef.pairS ?_
    walk_at "rn"
    rename_i us hus
    have nm_o : o ≠ m := fun e => by obtain ⟨_, xs, h, _⟩ := hD; rw [e, hm] at h; cases h
    have hD1 := Es.DS.keep (Rd.same_new (o := .dK []) hm) hD
    have nac : ac ≠ o ∧ ac ≠ m := ⟨fun e => (by obtain ⟨_, xs, h, _⟩ := hD1; rw [← e, hac] at h; cases h), fun e => (by rw [e, upd_same] at hac; cases hac)⟩
    have hD2 := Es.DS.keep (Rd.same_new (o := .dK []) hac) hD1
    have m2 : upd (upd H' m (.dK [])) ac (.dK []) m = some (.dK []) := Rd.nh hac upd_same
    have a2 : upd (upd H' m (.dK [])) ac (.dK []) ac = some (.dK []) := upd_same
    have s2 : Same H (upd (upd H' m (.dK [])) ac (.dK [])) := hs.trans ((Rd.same_new hm).trans (Rd.same_new hac))
    have hP2 : Paired (MoR K (upd (upd H' m (.dK [])) ac (.dK []))) kv (stZ G res).outs := Paired.mapP hP fun _ _ ⟨e1, e2⟩ => ⟨e1, Rd.dp_same ((Rd.same_new hm).trans (Rd.same_new hac)) e2⟩
    have fac : H ac = none := (hs.trans (Rd.same_new hm)).free hac
    generalize upd (upd H' m (.dK [])) ac (.dK []) = H2 at *
    have m3 := Rd.nh hsk m2 (o := .tup [])
    have a3 := Rd.nh hsk a2 (o := .tup [])
    have k3 : SqT K (upd H2 sk (.tup [])) sk [] := SqT.of upd_same
    have s3 := s2.trans (Rd.same_new hsk (o := .tup []))
    have hD3 := Es.DS.keep (Rd.same_new (o := .tup []) hsk) hD2
    have hP3 : Paired (MoR K (upd H2 sk (.tup []))) kv (stZ G res).outs := Paired.mapP hP2 fun _ _ ⟨e1, e2⟩ => ⟨e1, Rd.dp_same (Rd.same_new hsk) e2⟩
    generalize upd H2 sk (.tup []) = H3 at *
    have npt : pt ≠ o ∧ pt ≠ m ∧ pt ≠ ac := ⟨fun e => (by obtain ⟨_, xs, h, _⟩ := hD3; rw [← e, hpt] at h; cases h), fun e => (by rw [← e, hpt] at m3; cases m3), fun e => (by rw [← e, hpt] at a3; cases a3)⟩
    have fpt : H pt = none := s3.free hpt
    have t4 := Rd.same_new hpt (o := .lst [V.int 0, V.int res, V.int 0])
    have p4 : upd H3 pt (.lst [V.int 0, V.int res, V.int 0]) pt = some (.lst [V.int 0, V.int res, V.int 0]) := upd_same
    generalize upd H3 pt (.lst [V.int 0, V.int res, V.int 0]) = H4 at *
    have t5 := Rd.same_new hck (o := .tup [V.int 0, V.int 0])
    have c5 : SqT K (upd H4 ck (.tup [V.int 0, V.int 0])) ck [V.int 0, V.int 0] := SqT.of upd_same
    generalize upd H4 ck (.tup [V.int 0, V.int 0]) = H5 at *
    have p5 := t5 _ _ p4
    have t45 := t4.trans t5
    have m5 := t45 _ _ m3
    have a5 := t45 _ _ a3
    have nus : us ≠ o ∧ us ≠ m ∧ us ≠ ac ∧ us ≠ pt := ⟨fun e => (by obtain ⟨_, xs, h, _⟩ := Es.DS.keep t45 hD3; rw [← e, hus] at h; cases h), fun e => (by rw [← e, hus] at m5; cases m5), fun e => (by rw [← e, hus] at a5; cases a5), fun e => (by rw [← e, hus] at p5; cases p5)⟩
    have fus : H us = none := (s3.trans t45).free hus
    have t6 := t45.trans (Rd.same_new hus (o := .lst []))
    have u6 : upd H5 us (.lst []) us = some (.lst []) := upd_same
    have p6 := Rd.nh hus p5 (o := .lst [])
    have c6 := Rd.same_tup (Rd.same_new hus (o := .lst [])) c5
    have m6 := Rd.nh hus m5 (o := .lst [])
    have a6 := Rd.nh hus a5 (o := .lst [])
    generalize upd H5 us (.lst []) = H6 at *
    refine Ef.pairN ⟨m6, mdKv ⟨m, o, ac, sk, pt, ck, us⟩, rfl, by show 6 ≤ 15; decide, ?_⟩
    rw [show mergeK [] (mdKv ⟨m, o, ac, sk, pt, ck, us⟩) = mdKv ⟨m, o, ac, sk, pt, ck, us⟩ from merge_id (by show ([kO, kA, kS, kP, kC, kU] : List Key).Nodup; decide +kernel)]
    have fm : Fr K [m] H6 (upd H6 m (.dK (mdKv ⟨m, o, ac, sk, pt, ck, us⟩))) := Fr.dk m6 (List.mem_singleton.mpr rfl)
    have nm1 : ∀ {x : Addr}, x ≠ m → x ∉ [m] := fun h q => h (List.mem_singleton.mp q)
    have fmH : H m = none := hs.free hm
    refine k ⟨m, o, ac, sk, pt, ck, us⟩ _ (Rd.same_mut (s3.trans t6) fmH) ?_ ?_ {
      m := upd_same
      outs := ⟨kv, fm.ds (nm1 nm_o) (Es.DS.keep t6 hD3), Paired.mapP hP3 fun _ _ ⟨e1, e2⟩ => ⟨e1, fm.dp (encTr_nl _) (Rd.dp_same t6 e2)⟩⟩
      ond := mapIdx_nd
      accs := ⟨[], fm.keep _ _ (nm1 nac.2) a6, Paired.nil⟩
      and_ := List.nodup_nil
      stk := ⟨[], fm.tup _ _ (Rd.same_tup t6 k3), .nil⟩
      pots := fm.keep _ _ (nm1 npt.2.1) p6
      clk := fm.tup _ _ c6
      used := fm.keep _ _ (nm1 nus.2.1) u6
      und := List.nodup_nil }
    · intro x hx
      simp only [MA.O, List.mem_cons, List.not_mem_nil, or_false] at hx
      rcases hx with rfl | rfl | rfl | rfl | rfl
      · exact fmH
      · exact ho
      · exact fac
      · exact fpt
      · exact fus
    · simp only [MA.O, List.nodup_cons, List.mem_cons, List.not_mem_nil, or_false, not_or, not_false_eq_true, List.nodup_nil, and_true]
      exact ⟨⟨Ne.symm nm_o, Ne.symm nac.2, Ne.symm npt.2.1, Ne.symm nus.2.1⟩, ⟨Ne.symm nac.1, Ne.symm npt.1, Ne.symm nus.1⟩, ⟨Ne.symm npt.2.2, Ne.symm nus.2.2.1⟩, Ne.symm nus.2.2.2⟩
theorem ok_law_first {f : Addr} {fd : FuncData} (mf : mg "_law_first" = some (.ref f)) (F : FnP K "_law_first" s_law_first f fd)  (z_range : mg "range" = none) (z_len : mg "len" = none) : Cal P w K mg base "_law_first" 1 ["grants", "reserve"] (sp_law_first P w K) :=
  ⟨f, fd, mf, F.kp, F.bindsN fun _ _ _ _ _ _ us hl => match us, hl with | [_, _], _ => rfl, fn_law_first F z_range z_len⟩

theorem fn_law_picture {f : Addr} {fd : FuncData} (F : FnP K "_law_picture" s_law_picture f fd)  (z_sorted : mg "sorted" = none) (z_list : mg "list" = none) (z_tuple : mg "tuple" = none) : FnOk P w K mg base CX0 1 f fd ["model"] (sp_law_picture P w K) := by
  refine F.ok sc_law_picture (fun vs H Q E h => ?_) (fun cdv A outer s H vs Q E hr h => ?_)
  · obtain ⟨D, S, rfl, _⟩ := h; rfl
  · obtain ⟨D, S, rfl, hM, hl, k⟩ := h
    refine ⟨_, PSs.nox (pss_cons (ps_setLc (i := 1) (own := [("ref", 5)]) (g := gName 5) (tt := tYes) rfl sc_law_picture.nd rfl rfl (sw_true rfl rfl rfl (by decide +kernel)) (pi_list (pe_callB Es.cr_sortedLI (by rfl) z_sorted boot_sorted (pa_cons (pe_callTy (Es.cr_listX rfl) (by rfl) z_list boot_list (pa_cons (L2.pe_dget (hu_of hr) (pv 0) pe_str (fun _ _ => rfl)) pa_nil)) pa_nil))) (blkOk_by (N := N_law_picture) (sc := defScope s_law_picture) (by decide +kernel)) (fun _ _ _ _ _ => pg_name (i := 5) sc_law_picture.nd rfl (by first | exact Or.inl rfl | exact Or.inr rfl)) (fun _ _ _ _ _ => pts_nil) (fun _ _ _ _ _ => (pe_tup (pa_cons (pv 5) (pa_cons (Es.pe_dgetXK (P := P) (w := w) (K := K) rfl rfl rfl (hu_of hr) (L2.pe_dget (hu_of hr) (pv 0) pe_str (fun _ _ => rfl)) (pv 5) (fun _ _ => rfl)) pa_nil)))))
      (pss_cons (ps_setLc (i := 2) (own := [("key", 6)]) (g := gName 6) (tt := tYes) rfl sc_law_picture.nd rfl rfl (sw_true rfl rfl rfl (by decide +kernel)) (pi_list (pe_callB cr_sortedI (by rfl) z_sorted boot_sorted (pa_cons (pe_callTy (call_listD rfl) (by rfl) z_list boot_list (pa_cons (L2.pe_dget (hu_of hr) (pv 0) pe_str (fun _ _ => rfl)) pa_nil)) pa_nil))) (blkOk_by (N := N_law_picture) (sc := defScope s_law_picture) (by decide +kernel)) (fun _ _ _ _ _ => pg_name (i := 6) sc_law_picture.nd rfl (by first | exact Or.inl rfl | exact Or.inr rfl)) (fun _ _ _ _ _ => pts_nil) (fun _ _ _ _ _ => (pe_op (Es.op_catAK (K := K) rfl) (pe_tup (pa_cons (pv 6) pa_nil)) (L2.pe_dget (hu_of hr) (L2.pe_dget (hu_of hr) (pv 0) pe_str (fun _ _ => rfl)) (pv 6) (fun _ _ => rfl)))))
      (pss_cons (ps_set (i := 3) sc_law_picture.nd rfl (by first | exact Or.inl rfl | exact Or.inr rfl) (pe_tup (pa_cons (pe_ix ix_list (L2.pe_dget (hu_of hr) (pv 0) pe_str (fun _ _ => rfl)) pe_int (fun _ _ => rfl)) (pa_cons (pe_ix ix_list (L2.pe_dget (hu_of hr) (pv 0) pe_str (fun _ _ => rfl)) pe_int (fun _ _ => rfl)) (pa_cons (pe_ix ix_list (L2.pe_dget (hu_of hr) (pv 0) pe_str (fun _ _ => rfl)) pe_int (fun _ _ => rfl)) pa_nil)))))
      (pss_cons (ps_set (i := 4) sc_law_picture.nd rfl (by first | exact Or.inl rfl | exact Or.inr rfl) (pe_tup (pa_cons (pe_callTy call_tuple_of (by rfl) z_tuple boot_tuple (pa_cons (pe_callB cr_sortedI (by rfl) z_sorted boot_sorted (pa_cons (L2.pe_dget (hu_of hr) (pv 0) pe_str (fun _ _ => rfl)) pa_nil)) pa_nil)) pa_nil)))
      (pss_one (ps_ret (pe_op op_catA (pe_op op_catA (pe_op op_catA (pe_tup (pa_cons (pe_callTy call_tuple_of (by rfl) z_tuple boot_tuple (pa_cons (pv 1) pa_nil)) (pa_cons (pe_callTy call_tuple_of (by rfl) z_tuple boot_tuple (pa_cons (pv 2) pa_nil)) (pa_cons (L2.pe_dget (hu_of hr) (pv 0) pe_str (fun _ _ => rfl)) pa_nil)))) (pv 3)) (L2.pe_dget (hu_of hr) (pv 0) pe_str (fun _ _ => rfl))) (pv 4)))))))), ?_⟩
    try simp only [Rd.cxK, Re.cxP, Re.cxW, lit_17, lit_18, lit_19, lit_7, lit_8, lit_9]
    obtain ⟨kv, hD, hP⟩ := hM.outs
    walk_at "rn"
    refine ⟨D.o, kv, rfl, hD, fun ps l hps hl0 => ?_⟩
    have hKD := keysR (R := S.outs.map (·.1)) hps (mo_keys hP)
    have t1 := Rd.same_new (o := .lst (ps.map V.ref)) hl0
    walk_at "rn"
    refine ⟨l, ps.map V.ref, S.outs.map (·.1), rfl, SqL.of upd_same, dpAll_same t1 hKD, fun R ys q hRp hRs hq hys => ?_⟩
    have s1 := t1.trans (Rd.same_new (o := .lst ys) hq)
    have hys1 := dpAll_same (Rd.same_new (o := .lst ys) hq) hys
    have hqy : upd (upd H l (.lst (ps.map V.ref))) q (.lst ys) q = some (.lst ys) := upd_same
    generalize upd (upd H l (.lst (ps.map V.ref))) q (.lst ys) = H1 at *
    have hRl : R.length ≤ 300 := by rw [hRp.length_eq, List.length_map]; exact hl.1
    have hyl : ys.length = R.length := by have := Rd.dpAll_len hys1; rwa [List.length_map] at this
    refine lcD encP2 (fun r => .tuple [encP2 r, encOu (lookM S.outs r)]) (SqL.of hqy) hys1 (by omega) (fun e _ => by simp only [nl, nlAll, encP2_nl, encOu_nl, Bool.and_self]) ?_ ?_
    · rintro r x D2 acc H' C hD2 s he hx hDl hC
      obtain ⟨z, rfl, hz⟩ := dpRef hx
      have s2 := s1.trans s
      have hM' := hM.keep s2
      obtain ⟨t, u, h1, h2, h3⟩ : ∃ t v, lookM S.outs r = some t ∧ valV kv (eR r) = some v ∧ Dp K H v (encTr t) := by
        rcases mo_look (p := r) hP with h | ⟨h1, _⟩
        · exact h
        · obtain ⟨t, ht2⟩ := lookM_yes (hRp.subset he)
          rw [h1] at ht2; cases ht2
      refine ⟨rfl, ?_⟩
      walk_at "rn"
      refine Re.dgetX ?_
      walk_at "rn"
      refine ⟨D.o, u, rfl, ⟨kv, eR r, z, Es.DS.keep s2 hD, rfl, hz, h2.symm⟩, ?_⟩
      walk_at "rn"
      rename_i p2 hp2
      have s4 := Rd.same_new (o := .tup [.ref z, u]) hp2
      exact hC _ _ s4 (.tup (SqT.of upd_same) (.cons (Rd.dp_same s4 hx) (.cons (by rw [h1]; exact Rd.dp_same (s2.trans s4) h3) .nil)))
    intro D1 acc H2 hD1 s2 hDl hacc
    have s3 := s1.trans s2
    have hM2 := hM.keep s3
    obtain ⟨akv, hA, hAP⟩ := hM2.accs
    walk_at "rn"
    refine ⟨D.ac, akv, rfl, .inl hA, fun l2 hl2 => ?_⟩
    have ek : (akv.map fun kv => kV kv.1) = (S.accs.map (·.1)).map V.int := by
      have := congrArg (List.map kV) (accs_keys hAP)
      rw [List.map_map, List.map_map, List.map_map] at this
      rw [List.map_map]
      exact this
    rw [ek]
    walk_at "rn"
    refine ⟨l2, S.accs.map (·.1), rfl, SqL.of upd_same, fun ks q2 hkp hks hq2 => ?_⟩
    have t3 := (Rd.same_new (o := .lst ((S.accs.map (·.1)).map V.int)) hl2).trans (Rd.same_new (o := .lst (ks.map V.int)) hq2)
    have hqk : upd (upd H2 l2 (.lst ((S.accs.map (·.1)).map V.int))) q2 (.lst (ks.map V.int)) q2 = some (.lst (ks.map V.int)) := upd_same
    generalize upd (upd H2 l2 (.lst ((S.accs.map (·.1)).map V.int))) q2 (.lst (ks.map V.int)) = H3 at *
    refine lcD PyData.int (fun y => encAc y (lookA S.accs y)) (SqL.of hqk) dp_ints (by rw [List.length_map, hkp.length_eq, List.length_map]; exact Nat.le_trans hl.2.1 (by decide)) (fun e _ => rfl) ?_ ?_
    · rintro y x D2 acc2 H' C hD2 s he hx hDl2 hC
      cases hx
      have s6 := t3.trans s
      have hM' := hM2.keep s6
      obtain ⟨t, u, h1, h2, z, rfl, hz⟩ : ∃ t v, lookA S.accs y = some t ∧ valV akv (.inl y) = some v ∧ P2At K H2 v t := by
        rcases accs_look (k := y) hAP with h | ⟨_, h1⟩
        · exact h
        · obtain ⟨v, hv⟩ := valV_someK (ks := akv) (k := .inl y) (by rw [accs_keys hAP]; exact List.mem_map_of_mem (hkp.subset he))
          rw [h1] at hv; cases hv
      refine ⟨rfl, ?_⟩
      walk_at "rn"
      rename_i p2 hp2
      have sp := Rd.same_new (o := .tup [.int y]) hp2
      have hA' := sp _ _ (s6 _ _ hA)
      have hz' := Rd.same_tup sp (Rd.same_tup s6 hz)
      have hM'' := hM'.keep sp
      walk_at "rn"
      refine ⟨D.ac, .ref z, rfl, by have := DGet.k (k := .inl y) hA'; rwa [h2] at this, ?_⟩
      refine Rb.catA (SqT.of upd_same) hz' (by simp) fun p3 H4 s4 h4 => ?_
      exact hC _ _ (sp.trans s4) (by rw [h1]; exact .tup h4 (.cons (.int _) (.cons (.int _) (.cons (.int _) .nil))))
    intro D2 acc2 H4 hD2 s4 hDl2 hacc2
    have s5 := t3.trans s4
    have hM4 := hM2.keep s5
    have hpt := hM4.pots
    have hus := hM4.used
    walk_at "rn"
    rename_i pp hpp
    have sp := Rd.same_new (o := .tup [V.int S.fees, V.int S.res, V.int S.tre]) hpp
    have hM5 := hM4.keep sp
    have hus5 := hM5.used
    have qpp : SqT K (upd H4 pp (.tup [V.int S.fees, V.int S.res, V.int S.tre])) pp [V.int S.fees, V.int S.res, V.int S.tre] := SqT.of upd_same
    have hDl5 := sp _ _ (s5 _ _ hDl)
    have hDl25 := sp _ _ hDl2
    have hacc5 := dpAll_same (s5.trans sp) hacc
    have hacc25 := dpAll_same sp hacc2
    have s6 := s3.trans (s5.trans sp)
    generalize upd H4 pp (.tup [V.int S.fees, V.int S.res, V.int S.tre]) = H5 at *
    walk_at "rn"
    refine ⟨D.us, S.used, rfl, SqL.of hus5, fun us q3 hup husr hq3 => ?_⟩
    walk_at "rn"
    rename_i t4 ht4 t5 ht5 t6 ht6 t7 ht7
    have sq := (Rd.same_new (o := .lst (us.map V.int)) hq3).trans ((Rd.same_new (o := .tup (us.map V.int)) ht4).trans ((Rd.same_new (o := .tup [V.ref t4]) ht5).trans ((Rd.same_new (o := .tup acc) ht6).trans (Rd.same_new (o := .tup acc2) ht7))))
    have f4 : Dp K (upd (upd (upd (upd (upd H5 q3 (.lst (us.map V.int))) t4 (.tup (us.map V.int))) t5 (.tup [V.ref t4])) t6 (.tup acc)) t7 (.tup acc2)) (.ref t4) (.tuple (us.map PyData.int)) := .tup (SqT.of (Rd.nh ht7 (Rd.nh ht6 (Rd.nh ht5 upd_same)))) dp_ints
    have f5 : SqT K (upd (upd (upd (upd (upd H5 q3 (.lst (us.map V.int))) t4 (.tup (us.map V.int))) t5 (.tup [V.ref t4])) t6 (.tup acc)) t7 (.tup acc2)) t5 [.ref t4] := SqT.of (Rd.nh ht7 (Rd.nh ht6 upd_same))
    have f6 : Dp K (upd (upd (upd (upd (upd H5 q3 (.lst (us.map V.int))) t4 (.tup (us.map V.int))) t5 (.tup [V.ref t4])) t6 (.tup acc)) t7 (.tup acc2)) (.ref t6) (.tuple (R.map fun r => PyData.tuple [encP2 r, encOu (lookM S.outs r)])) := .tup (SqT.of (Rd.nh ht7 upd_same)) (dpAll_same sq hacc5)
    have f7 : Dp K (upd (upd (upd (upd (upd H5 q3 (.lst (us.map V.int))) t4 (.tup (us.map V.int))) t5 (.tup [V.ref t4])) t6 (.tup acc)) t7 (.tup acc2)) (.ref t7) (.tuple (ks.map fun y => encAc y (lookA S.accs y))) := .tup (SqT.of upd_same) (dpAll_same sq hacc25)
    have hM7 := hM5.keep sq
    have q7 := Rd.same_tup sq qpp
    replace s6 := s6.trans sq
    generalize upd (upd (upd (upd (upd H5 q3 (.lst (us.map V.int))) t4 (.tup (us.map V.int))) t5 (.tup [V.ref t4])) t6 (.tup acc)) t7 (.tup acc2) = H7 at *
    clear hM5 hM4 hM2 hus hus5 hpt hacc5 hacc25 qpp sp sq
    walk_at "rn"
    rename_i t8 ht8
    have s8 := Rd.same_new (o := .tup [V.ref t6, V.ref t7, V.ref D.sk]) ht8
    have hM8 := hM7.keep s8
    refine Rb.catA (SqT.of upd_same) (Rd.same_tup s8 q7) (by simp) fun t9 H9 s9 h9 => ?_
    have hM9 := hM8.keep s9
    walk_at "rn"
    refine Rb.catA h9 hM9.clk (by simp) fun t10 H10 s10 h10 => ?_
    have s11 := s8.trans (s9.trans s10)
    walk_at "rn"
    refine Rb.catA h10 (Rd.same_tup s11 f5) (by simp) fun t12 H12 s12 h12 => ?_
    have s13 := s11.trans s12
    obtain ⟨sxs, hsk, hsX⟩ := hM7.stk
    exact k t12 _ H12 (s6.trans s13) ⟨R, ks, us, hRs, hRp, hks, hkp, husr, hup, rfl⟩ (.tup h12 (.cons (Rd.dp_same s13 f6) (.cons (Rd.dp_same s13 f7) (.cons (.tup (Rd.same_tup s13 hsk) (dpAll_same s13 hsX)) (.cons (.int _) (.cons (.int _) (.cons (.int _) (.cons (.int _) (.cons (.int _) (.cons (Rd.dp_same s13 f4) .nil))))))))))
theorem ok_law_picture {f : Addr} {fd : FuncData} (mf : mg "_law_picture" = some (.ref f)) (F : FnP K "_law_picture" s_law_picture f fd)  (z_sorted : mg "sorted" = none) (z_list : mg "list" = none) (z_tuple : mg "tuple" = none) : Cal P w K mg base "_law_picture" 1 ["model"] (sp_law_picture P w K) :=
  ⟨f, fd, mf, F.kp, F.bindsN fun _ _ _ _ _ _ us hl => match us, hl with | [_], _ => rfl, fn_law_picture F z_sorted z_list z_tuple⟩

theorem bnd_Bundle___init {fd : FuncData} (F : FunD K "__init__" "Bundle.__init__" (defArgs s_Bundle___init) (defBody s_Bundle___init) (defScope s_Bundle___init) [V.ref (He.dflAt ("Bundle", some "__init__") 0 K)] [] (He.fAd K ("Bundle", some "__init__")) fd) : Binds K fd ["self", "rows"] [] := by
  obtain ⟨ds, r, b⟩ := F.binds1 (ps := ["self", "rows"]) 2 1 (by simp) rfl (fun T kV doc pm an cdv ct us its hu hi => match us, hu, its, hi with | [_, _], _, [_], _ => ⟨_, rfl, rfl⟩)
  cases r
  exact b
theorem bnd0_Bundle___init {fd : FuncData} (F : FunD K "__init__" "Bundle.__init__" (defArgs s_Bundle___init) (defBody s_Bundle___init) (defScope s_Bundle___init) [V.ref (He.dflAt ("Bundle", some "__init__") 0 K)] [] (He.fAd K ("Bundle", some "__init__")) fd) : ∃ ds, Vals [V.ref (He.dflAt ("Bundle", some "__init__") 0 K)] ds ∧ Binds K fd ["self", "rows"] ds := by
  obtain ⟨ds, r, b⟩ := F.binds1 (ps := ["self", "rows"]) 1 0 (by simp) rfl (fun T kV doc pm an cdv ct us its hu hi => match us, hu, its, hi with | [_], _, [_], _ => ⟨_, rfl, rfl⟩)
  exact ⟨ds, r, b⟩
theorem fn_Bundle___init {fd : FuncData} (F : FunD K "__init__" "Bundle.__init__" (defArgs s_Bundle___init) (defBody s_Bundle___init) (defScope s_Bundle___init) [V.ref (He.dflAt ("Bundle", some "__init__") 0 K)] [] (He.fAd K ("Bundle", some "__init__")) fd) (C_Bundle___iter : CalM P w K mg base (He.fAd K ("Bundle", some "__iter__")) 1 ["self"] [] (sp_Bundle___iter P w K)) (z_sorted : mg "sorted" = none) (z_tuple : mg "tuple" = none) (W_Bundle : CF_Bundle K mg) : FnOk P w K mg base CX0 2 (He.fAd K ("Bundle", some "__init__")) fd ["self", "rows"] (sp_Bundle___init P w K) := by
  obtain ⟨fd_Bundle___iter, b_Bundle___iter, G_Bundle___iter, ds_Bundle___iter, dr_Bundle___iter, db_Bundle___iter⟩ := C_Bundle___iter.ex
  have cf_Bundle := W_Bundle
  have cfc_Bundle := cf_Bundle.cls
  have cfn_Bundle__quantities := cf_Bundle.n__quantities
  have cfn_Bundle_rows := cf_Bundle.n_rows
  refine F.ok sc_Bundle___init (fun vs H Q E h => ?_) (fun cdv A outer s H vs Q E hr h => ?_)
  · obtain ⟨b, dx, a, xs, R, rfl, _⟩ := h; rfl
  · obtain ⟨b, dx, a, xs, R, rfl, hb, hx, hR, hl, k⟩ := h
    refine ⟨_, PSs.nox (pss_cons (ps_set (i := 2) sc_Bundle___init.nd rfl (by first | exact Or.inl rfl | exact Or.inr rfl) Ef.pe_dnewXN)
      (pss_cons (ps_for PassesOwn.never rfl (Bd.pi_any G_Bundle___iter cf_Bundle.mt___iter__.at_ cf_Bundle.mt___iter__.fn b_Bundle___iter pass0 (hr.mono (by decide)) (pv 1)) (pg_tup (n := 2) rfl (pgs_cons (pg_name (i := 3) sc_Bundle___init.nd rfl (by first | exact Or.inl rfl | exact Or.inr rfl)) (pgs_cons (pg_name (i := 4) sc_Bundle___init.nd rfl (by first | exact Or.inl rfl | exact Or.inr rfl)) pgs_nil))) (pss_one (Es.ps_dputX (hu_of hr) (pv 2) (pv 3) (pe_op op_add (Es.pe_dget2X (hu_of hr) (pv 2) (pv 3) pe_int ⟨rfl, rfl, rfl, rfl⟩) (pv 4)) rfl)))
      (pss_cons (ps_fld (pv 0) (Es.pe_dcX (own := [("asset", 3)]) (hu_of hr) rfl sc_Bundle___init.nd (pi_list (pe_callB (Es.cr_sortedX rfl) (by rfl) z_sorted boot_sorted (pa_cons (pv 2) pa_nil))) (blkOk_by (N := N_Bundle___init) (sc := defScope s_Bundle___init) (by decide +kernel)) (fun _ _ _ _ _ => (pg_name (i := 3) sc_Bundle___init.nd rfl (by first | exact Or.inl rfl | exact Or.inr rfl))) (fun _ _ _ _ _ => pts_one (pt_cmpR op_ne (Es.pe_dgetXk (P := P) (w := w) (K := K) (e := rfl) (e1 := rfl) (e2 := rfl) (hu_of hr) (pv 2) (pv 3) (fun _ _ => rfl)) pe_int (nomark _))) (fun _ _ _ _ _ => (pv 3)) (fun _ _ _ _ _ => (Es.pe_dgetXk (P := P) (w := w) (K := K) (e := rfl) (e1 := rfl) (e2 := rfl) (hu_of hr) (pv 2) (pv 3) (fun _ _ => rfl)))) rfl)
      (pss_one (ps_fld (pv 0) (pe_callTy (Es.cr_tupX rfl) (by rfl) z_tuple boot_tuple (pa_cons (Es.pe_ditemsX (pe_fld (pv 0) rfl)) pa_nil)) rfl))))), ?_⟩
    try simp only [Rd.cxK, Re.cxP, Re.cxW]
    refine Rd.seq (Rd.asg (Ef.dnewXN fun d hd hdn dd => ?_))
    have nbd : d ≠ b := fun z => by rw [z, hb] at hd; cases hd
    have hxl := rowsLen hR
    refine Rd.seq (forAny (H0 := H) (fun i σ' H' => ∃ m c1 c2, σ' = [some (.ref b), some (.ref a), some (.ref d), c1, c2] ∧ Same H H' ∧ DS P w K H' d (eD m) ∧ Sums m (R.take i) ∧ m.length ≤ i) rfl hx (Rd.same_new hd) ⟨d, _, upd_same, hdn⟩ ⟨[], _, _, rfl, Rd.same_new hd, dd, Sums.nil, Nat.le_refl _⟩ (fun i σ' H' _ ⟨_, _, _, _, h, _⟩ => h) ?_ ?_)
    · rintro i x σ' H' hi ⟨m, c1, c2, rfl, hs, hm, hsum, hml⟩
      obtain ⟨z, kq, ⟨p, q⟩, rfl, hri, hz, hkq'⟩ := Es.rowAt (dpAll_same hs hR) hi
      have hi2 : i < R.length := (List.getElem?_eq_some_iff.mp hri).1
      refine Dj.pair_of hz ?_
      refine Re.dputX (Rd.op (Re.dget2X ?_))
      refine Rd.var rfl (Re.isX hm (Rd.var rfl (Rd.cst ?_)))
      refine Re.dgetOX hm hkq' ?_
      rw [hsum.get]
      refine Rd.var rfl (Rd.opI0 ?_)
      refine Rd.var rfl (Rd.var rfl ⟨d, eD m, eK p, kq, rfl, rfl, hm, Rd.smallT (by unfold eD; rw [List.length_map]; omega), hkq', fun ys d2 => ?_⟩)
      rw [putK_eD] at d2
      refine ⟨_, _, _, rfl, Rd.same_mut hs hd, d2, ?_, ?_⟩
      · have := hsum.put (p, q)
        rw [List.take_add_one, hri]
        exact this
      · have := length_putK m p (.int (tot (R.take i) (p, q).1 + (p, q).2)); omega
    · rintro σ' H1 ⟨m, c1, c2, rfl, hs, hm, hsum, hml⟩
      rw [hxl, List.take_length] at hsum
      refine Rd.seq (Rb.sfld (Re.dcTX ?_))
      refine Rd.cb (Rd.cons (Rd.var rfl (Rd.nil ?_)))
      refine ⟨d, m, rfl, hm, fun ps l hps hsrt hperm hl => ?_⟩
      have hnd : (ps.map (·.2)).Nodup := hperm.nodup_iff.mpr hsum.nd
      have sl := Rd.same_new (o := .lst (ps.map fun z => V.ref z.1)) hl
      have hm2 : DS P w K (upd H1 l (.lst (ps.map fun z => V.ref z.1))) d (eD m) := hm.keep sl
      have hpl : ps.length ≤ 1000 := by
        have e := hperm.length_eq
        rw [List.length_map, List.length_map] at e
        omega
      refine Re.dcLX (fun D i H' => Same (upd H1 l (.lst (ps.map fun z => V.ref z.1))) H' ∧ DS P w K H' D (eD ((nfOf R ((ps.take i).map (·.2))).map fun e => (e.1, V.int e.2)))) (SqL.of upd_same) (fun D hD dD => ⟨Rd.same_new hD, dD⟩) (fun D i H' _ h => h.1.seq (SqL.of upd_same)) ?_ ?_
      · rintro D i x H' hD hi ⟨hsm, hDm⟩
        obtain ⟨z, hz, rfl⟩ : ∃ z, ps[i]? = some z ∧ x = V.ref z.1 := by
          rw [List.getElem?_map] at hi
          cases e : ps[i]? with
          | none => rw [e] at hi; cases hi
          | some z => rw [e] at hi; exact ⟨z, rfl, (Option.some.inj hi).symm⟩
        have hzm : z ∈ ps := List.mem_of_getElem? hz
        have hk1 : SqT K H' z.1 [.str z.2.1, .int z.2.2] := Rd.same_tup (sl.trans hsm) (hps z hzm)
        have hm3 : DS P w K H' d (eD m) := hm2.keep hsm
        have hmem : z.2 ∈ R.map (·.1) := (hsum.keys z.2).mp (hperm.mem_iff.mp (List.mem_map_of_mem (f := (·.2)) hzm))
        have hval : valV m z.2 = some (.int (tot R z.2)) := by rw [hsum.val, if_pos hmem]
        have htk : (ps.take (i + 1)).map (·.2) = (ps.take i).map (·.2) ++ [z.2] := by rw [List.take_add_one, hz, List.map_append]; rfl
        have hno : z.2 ∉ (ps.take i).map (·.2) := by
          have h2 : ((ps.take (i + 1)).map (·.2)).Nodup := (List.take_sublist _ _).map _ |>.nodup hnd
          rw [htk, List.nodup_append] at h2
          intro q
          exact h2.2.2 z.2 q z.2 (List.mem_singleton.mpr rfl) rfl
        refine ⟨rfl, Rd.tst (Rd.op (Re.dgetX (Rd.var rfl (Rd.var rfl (Re.dgetSX hm3 hk1 hval (Rd.cst (Rd.neI (Rd.bl (Rd.iteN (fun hne => ?_) (fun he => ?_))))))))))⟩
        · refine Rd.var rfl (Re.dgetX (Rd.var rfl (Rd.var rfl (Re.dgetSX hm3 hk1 hval ?_))))
          refine ⟨_, eK z.2, z.1, rfl, hk1, hDm, Rd.smallT ?_, fun ys d2 => ⟨Rd.same_mut hsm hD, ?_⟩⟩
          · unfold eD
            rw [List.length_map, List.length_map]
            have := nfOf_len R ((ps.take i).map (·.2))
            simp only [List.length_map, List.length_take] at this
            omega
          · rw [putK_eD, put_nf hne hno, ← htk] at d2
            exact d2
        · refine ⟨hsm, ?_⟩
          rw [htk, nfOf_no he]; exact hDm
      · rintro D H2 hD ⟨hsm, hDm⟩
        rw [List.length_map, List.take_length] at hDm
        have hb2 : H2 b = some (.ins (He.ga K "Bundle") dx []) := hsm _ _ (sl _ _ (hs _ _ hb))
        have nDb : D ≠ b := fun z => by
          have q := sl _ _ (hs _ _ hb)
          rw [← z, hD] at q; cases q
        refine Rd.var rfl ⟨b, _, dx, [], rfl, hb2, cfc_Bundle, cfn_Bundle__quantities, by decide, ?_⟩
        have hD3 : DS P w K (upd H2 b (.ins (He.ga K "Bundle") dx [("_quantities", .ref D)])) D (eD ((nfOf R (ps.map (·.2))).map fun e => (e.1, V.int e.2))) :=
          hDm.keepT (upd_ne nDb) fun q ys e => sqT_upd hb2 (fun ys q => by cases q) (fun z u q => by cases q) e
        rw [show putF "_quantities" (V.ref D) [] = [(("_quantities" : Str), V.ref D)] from rfl]
        refine Rb.sfld (Rd.cb (Rd.cons (Re.itemsX (Rb.fld (Rd.var rfl ⟨b, _, dx, _, .ref D, rfl, upd_same, cfc_Bundle, cfn_Bundle__quantities, rfl, D, _, rfl, hD3, fun p hp => Rd.nil ?_⟩)))))
        refine ⟨p, D, _, rfl, upd_same, hD3.keep (Rd.same_new hp), fun H' q zs e hq hzs htup hrow => ?_⟩
        have hbp : b ≠ p := fun z => by rw [← z, upd_same] at hp; cases hp
        have hb3 : H' b = some (.ins (He.ga K "Bundle") dx [("_quantities", .ref D)]) := e _ _ ((upd_ne hbp).trans upd_same)
        refine Rd.var rfl ⟨b, _, dx, _, rfl, hb3, cfc_Bundle, cfn_Bundle_rows, by simp, ?_⟩
        rw [show putF "rows" (V.ref q) [(("_quantities" : Str), V.ref D)] = [(("_quantities" : Str), V.ref D), (("rows" : Str), V.ref q)] from rfl]
        have nqb : q ≠ b := fun z => by rw [z, hb3] at htup; cases htup
        have keepb : Beside b H (upd H' b (.ins (He.ga K "Bundle") dx [("_quantities", .ref D), ("rows", .ref q)])) := fun a' o ha e1 => by
          have e2 := hsm _ _ (sl _ _ (hs _ _ e1))
          have e3 : upd H2 b (.ins (He.ga K "Bundle") dx [("_quantities", .ref D)]) a' = some o := (upd_ne ha).trans e2
          have e4 := e _ _ (Rd.same_new hp _ _ e3)
          exact (upd_ne ha).trans e4
        have hrl : DpAll K H' (zs.map fun z => V.ref z.1) ((nfOf R (ps.map (·.2))).map encR) := rowsOf hzs hrow
        have up : ∀ q ys, SqT K H' q ys → SqT K (upd H' b (.ins (He.ga K "Bundle") dx [("_quantities", .ref D), ("rows", .ref q)])) q ys := fun q ys e => sqT_upd hb3 (fun ys q => by cases q) (fun z u q => by cases q) e
        have bes : Beside b H' (upd H' b (.ins (He.ga K "Bundle") dx [("_quantities", .ref D), ("rows", .ref q)])) := fun a' o ha e1 => (upd_ne ha).trans e1
        refine k _ (nfOf R (ps.map (·.2))) keepb (nf_nrm hsrt hnd) (nf_tot hsrt hnd fun p' h' => hperm.mem_iff.mpr ((hsum.keys p').mpr h')) ⟨dx, q, D, _, upd_same, (upd_ne nqb).trans htup, bes.dpAll hb3 hrl, ((hD3.keep (Rd.same_new hp)).keep e).keepT (upd_ne nDb) fun q' ys eq => sqT_upd hb3 (fun ys q => by cases q) (fun z u q => by cases q) eq, nf_nrm hsrt hnd⟩ (fun d' h' => by
          obtain ⟨dx', r', e'⟩ := h'
          rw [upd_same] at e'
          have e2 := (HO.ins.inj (Option.some.inj e')).2.2
          injection e2 with e3 _
          injection e3 with _ e4
          rw [← V.ref.inj e4]
          exact (hs.trans sl).free hD)
theorem ok_Bundle___init {fd : FuncData} (F : FunD K "__init__" "Bundle.__init__" (defArgs s_Bundle___init) (defBody s_Bundle___init) (defScope s_Bundle___init) [V.ref (He.dflAt ("Bundle", some "__init__") 0 K)] [] (He.fAd K ("Bundle", some "__init__")) fd) (C_Bundle___iter : CalM P w K mg base (He.fAd K ("Bundle", some "__iter__")) 1 ["self"] [] (sp_Bundle___iter P w K)) (z_sorted : mg "sorted" = none) (z_tuple : mg "tuple" = none) (W_Bundle : CF_Bundle K mg) : CalM P w K mg base (He.fAd K ("Bundle", some "__init__")) 2 ["self", "rows"] [V.ref (He.dflAt ("Bundle", some "__init__") 0 K)] (sp_Bundle___init P w K) :=
  ⟨fd, (bnd_Bundle___init F), fn_Bundle___init F C_Bundle___iter z_sorted z_tuple W_Bundle, (bnd0_Bundle___init F)⟩

theorem fn_State_picture {fd : FuncData} (F : FunD K "picture" "State.picture" (defArgs s_State_picture) (defBody s_State_picture) (defScope s_State_picture) [] [] (He.fAd K ("State", some "picture")) fd) (C_Output_picture : CalM P w K mg base (He.fAd K ("Output", some "picture")) 1 ["self"] [] (sp_Output_picture P w K)) (C_State_unspent : CalM P w K mg base (He.fAd K ("State", some "unspent")) 1 ["self"] [] (sp_State_unspent P w K)) (C_State_keys_joined : CalM P w K mg base (He.fAd K ("State", some "keys_joined")) 1 ["self"] [] (sp_State_keys_joined P w K)) (z_tuple : mg "tuple" = none) (z_sorted : mg "sorted" = none) (W_Output : CF_Output K mg) (W_State : CF_State K mg) : FnOk P w K mg base CX0 2 (He.fAd K ("State", some "picture")) fd ["self"] (sp_State_picture P w K) := by
  obtain ⟨fd_Output_picture, b_Output_picture, G_Output_picture, ds_Output_picture, dr_Output_picture, db_Output_picture⟩ := C_Output_picture.ex
  obtain ⟨fd_State_unspent, b_State_unspent, G_State_unspent, ds_State_unspent, dr_State_unspent, db_State_unspent⟩ := C_State_unspent.ex
  obtain ⟨fd_State_keys_joined, b_State_keys_joined, G_State_keys_joined, ds_State_keys_joined, dr_State_keys_joined, db_State_keys_joined⟩ := C_State_keys_joined.ex
  have cf_Output := W_Output
  have cfc_Output := cf_Output.cls
  have cf_State := W_State
  have cfc_State := cf_State.cls
  have cfn_State__accounts := cf_State.n__accounts
  have cfn_State__outputs := cf_State.n__outputs
  have cfn_State__stakes := cf_State.n__stakes
  have cfn_State__used := cf_State.n__used
  have cfn_State_epoch := cf_State.n_epoch
  have cfn_State_fees := cf_State.n_fees
  have cfn_State_reserve := cf_State.n_reserve
  have cfn_State_slot := cf_State.n_slot
  have cfn_State_treasury := cf_State.n_treasury
  refine F.ok sc_State_picture (fun vs H Q E h => ?_) (fun cdv A outer s H vs Q E hr h => ?_)
  · obtain ⟨A, S, B, rfl, _⟩ := h; rfl
  · obtain ⟨A, S, B, rfl, hS, hl, k⟩ := h
    refine ⟨_, PSs.nox (pss_cons (ps_set (i := 1) sc_State_picture.nd rfl (by first | exact Or.inl rfl | exact Or.inr rfl) (pe_callTy call_tuple_of (by rfl) z_tuple boot_tuple (pa_cons (pe_lc (own := [("ref", 3)]) (g := gName 3) (tt := tYes) rfl sc_State_picture.nd (pi_list (pe_meth0 (pv 0) cf_State.cls cf_State.mt_unspent G_State_unspent (hr.mono (by decide)) b_State_unspent .nil pass0)) (blkOk_by (N := N_State_picture) (sc := defScope s_State_picture) (by decide +kernel)) (fun _ _ _ _ _ => pg_name (i := 3) sc_State_picture.nd rfl (by first | exact Or.inl rfl | exact Or.inr rfl)) (fun _ _ _ _ _ => pts_nil) (fun _ _ _ _ _ => (pe_tup (pa_cons (pv 3) (pa_cons (pe_meth0 (Es.pe_dgetXK (P := P) (w := w) (K := K) rfl rfl rfl (hu_of hr) (Es.pe_fldK (K := K) rfl (pv 0) rfl) (pv 3) (fun _ _ => rfl)) cf_Output.cls cf_Output.mt_picture G_Output_picture (hr.mono (by decide)) b_Output_picture .nil pass0) pa_nil))))) pa_nil)))
      (pss_cons (ps_set (i := 2) sc_State_picture.nd rfl (by first | exact Or.inl rfl | exact Or.inr rfl) (pe_callTy call_tuple_of (by rfl) z_tuple boot_tuple (pa_cons (pe_lc (own := [("key", 4)]) (g := gName 4) (tt := tYes) rfl sc_State_picture.nd (pi_list (pe_meth0 (pv 0) cf_State.cls cf_State.mt_keys_joined G_State_keys_joined (hr.mono (by decide)) b_State_keys_joined .nil pass0)) (blkOk_by (N := N_State_picture) (sc := defScope s_State_picture) (by decide +kernel)) (fun _ _ _ _ _ => pg_name (i := 4) sc_State_picture.nd rfl (by first | exact Or.inl rfl | exact Or.inr rfl)) (fun _ _ _ _ _ => pts_nil) (fun _ _ _ _ _ => (pe_tup (pa_cons (pv 4) (Es.pa_starK (K := K) rfl (L2.pe_dget (hu_of hr) (Es.pe_fldK (K := K) rfl (pv 0) rfl) (pv 4) (fun _ _ => rfl)) pa_nil))))) pa_nil)))
      (pss_one (ps_ret (pe_tup (pa_cons (pv 1) (pa_cons (pv 2) (pa_cons (pe_fld (pv 0) rfl) (pa_cons (pe_fld (pv 0) rfl) (pa_cons (pe_fld (pv 0) rfl) (pa_cons (pe_fld (pv 0) rfl) (pa_cons (pe_fld (pv 0) rfl) (pa_cons (pe_fld (pv 0) rfl) (pa_cons (pe_callTy call_tuple_of (by rfl) z_tuple boot_tuple (pa_cons (pe_callB (call_sortedDI rfl) (by rfl) z_sorted boot_sorted (pa_cons (pe_fld (pv 0) rfl) pa_nil)) pa_nil)) pa_nil)))))))))))))), ?_⟩
    try simp only [Rd.cxK, Re.cxP, Re.cxW]
    have ht := hS.t
    have hlo := hS.lo
    walk_at "rn"
    refine ⟨A, S, B, rfl, hS, fun q ys R H1 s1 hq hqy hR hRs hRp => ?_⟩
    obtain ⟨kv, hD, hP⟩ := hS.od
    have hRl : R.length ≤ 300 := by rw [hRp.length_eq, List.length_map]; omega
    have hyl : ys.length = R.length := by have := Rd.dpAll_len hR; rwa [List.length_map] at this
    refine lcD encP2 (fun r => .tuple [encP2 r, encOu (lookM S.outs r)]) (SqL.of hqy) hR (by omega) (fun e _ => by simp only [nl, nlAll, encP2_nl, encOu_nl, Bool.and_self]) ?_ ?_
    · rintro r x D acc H' C hD2 s he hx hDl hC
      obtain ⟨z, rfl, hz⟩ := dpRef hx
      have s2 := s1.trans s
      obtain ⟨t, u, h1, h2, h3⟩ : ∃ t v, lookM S.outs r = some t ∧ valV kv (eR r) = some v ∧ OuAt P w K A.V H v t := by
        rcases outs_look (p := r) hP with h | ⟨h1, _⟩
        · exact h
        · obtain ⟨t, ht2⟩ := lookM_yes (hRp.subset he)
          rw [h1] at ht2; cases ht2
      have ht' := s2 _ _ ht
      refine ⟨rfl, ?_⟩
      walk_at "rn"
      refine Re.dgetX ?_
      walk_at "rn"
      refine ⟨A.od, u, rfl, ⟨kv, eR r, z, Es.DS.keep s2 hD, rfl, hz, h2.symm⟩, ?_⟩
      obtain ⟨o1, odx, z1, c1, dd1, rfl, hrest⟩ := id h3
      have ho1 := s2 _ _ hrest.2.1
      walk_at "rn"
      refine ⟨o1, A.V, t, rfl, (h3.keep s2), fun p1 H3 s3 hp1 hP1 => ?_⟩
      walk_at "rn"
      rename_i p2 hp2
      have s4 := Rd.same_new (o := .tup [.ref z, .ref p1]) hp2
      exact hC _ _ (s3.trans s4) (.tup (SqT.of upd_same) (.cons (Rd.dp_same (s3.trans s4) hx) (.cons (by rw [h1]; exact Rd.dp_same s4 hP1) .nil)))
    intro D acc H2 hD2 s2 hDl hacc
    walk_at "rn"
    rename_i t1 ht1
    have s3 := Rd.same_new (o := .tup acc) ht1
    have hout : Dp K (upd H2 t1 (.tup acc)) (.ref t1) (.tuple (R.map fun r => .tuple [encP2 r, encOu (lookM S.outs r)])) := .tup (SqT.of upd_same) (dpAll_same s3 hacc)
    have s4 := s1.trans (s2.trans s3)
    generalize upd H2 t1 (.tup acc) = H3 at *
    have hS3 := hS.keep s4
    refine ⟨A, S, B, rfl, hS3, hl.2.1, fun q2 ks H4 s5 hq2 hqk hks hkp => ?_⟩
    obtain ⟨akv, hA, hAP⟩ := hS.ad
    refine lcD PyData.int (fun y => encAc y (lookA S.accs y)) (SqL.of hqk) dp_ints (by rw [List.length_map, hkp.length_eq, List.length_map]; omega) (fun e _ => rfl) ?_ ?_
    · rintro y x D acc H' C hD2 s he hx hDl hC
      cases hx
      have s6 := s4.trans (s5.trans s)
      obtain ⟨t, u, h1, h2, z, rfl, hz⟩ : ∃ t v, lookA S.accs y = some t ∧ valV akv (.inl y) = some v ∧ P2At K H v t := by
        rcases accs_look (k := y) hAP with h | ⟨_, h1⟩
        · exact h
        · obtain ⟨v, hv⟩ := valV_someK (ks := akv) (k := .inl y) (by rw [accs_keys hAP]; exact List.mem_map_of_mem (hkp.subset he))
          rw [h1] at hv; cases hv
      have ht' := s6 _ _ ht
      have hA' := s6 _ _ hA
      have hz' := Rd.same_tup s6 hz
      refine ⟨rfl, ?_⟩
      walk_at "rn"
      refine ⟨A.ad, .ref z, rfl, by have := DGet.k (k := .inl y) hA'; rwa [h2] at this, ?_⟩
      refine ⟨z, _, rfl, .inl hz', ?_⟩
      walk_at "rn"
      rename_i p2 hp2
      exact hC _ _ (Rd.same_new hp2) (by rw [h1]; exact .tup (SqT.of upd_same) (.cons (.int _) (.cons (.int _) (.cons (.int _) .nil))))
    intro D2 acc2 H5 hD3 s6 hDl2 hacc2
    walk_at "rn"
    rename_i t2 ht2
    have s7 := s5.trans (s6.trans (Rd.same_new (o := .tup acc2) ht2))
    have hacs : Dp K (upd H5 t2 (.tup acc2)) (.ref t2) (.tuple (ks.map fun y => encAc y (lookA S.accs y))) := .tup (SqT.of upd_same) (dpAll_same (Rd.same_new (o := .tup acc2) ht2) hacc2)
    replace hout := Rd.dp_same s7 hout
    replace s4 := s4.trans s7
    generalize upd H5 t2 (.tup acc2) = H6 at *
    clear hS3 hacc2 hacc s1 s2 s3 s5 s6 s7
    obtain ⟨sxs, hsk, hsX⟩ := hS.sk
    have ht6 := s4 _ _ ht
    have hud := s4 _ _ hS.ud
    walk_at "rn"
    refine ⟨A.ud, _, S.used, rfl, .inl hud, by rw [List.map_map]; rfl, hl.2.2, fun us q3 hup hus hq3 => ?_⟩
    walk_at "rn"
    rename_i t3 ht3 t4 ht4
    have s8 := (Rd.same_new (o := .lst (us.map V.int)) hq3).trans ((Rd.same_new (o := .tup (us.map V.int)) ht3).trans (Rd.same_new (o := .tup [.ref t1, .ref t2, .ref A.sk, .int S.fees, .int S.res, .int S.tre, .int S.slot, .int S.epo, .ref t3]) ht4))
    have s9 := s4.trans s8
    refine k t4 _ _ s9 ((s4.trans ((Rd.same_new (o := .lst (us.map V.int)) hq3).trans (Rd.same_new (o := .tup (us.map V.int)) ht3))).free ht4) ⟨R, ks, us, hRs, hRp, hks, hkp, hus, hup, rfl⟩ (.tup (SqT.of upd_same) (.cons (Rd.dp_same s8 hout) (.cons (Rd.dp_same s8 hacs) (.cons (.tup (Rd.same_tup s9 hsk) (dpAll_same s9 hsX)) (.cons (.int _) (.cons (.int _) (.cons (.int _) (.cons (.int _) (.cons (.int _) (.cons (.tup (SqT.of (Rd.nh ht4 upd_same)) dp_ints) .nil))))))))))
theorem ok_State_picture {fd : FuncData} (F : FunD K "picture" "State.picture" (defArgs s_State_picture) (defBody s_State_picture) (defScope s_State_picture) [] [] (He.fAd K ("State", some "picture")) fd) (C_Output_picture : CalM P w K mg base (He.fAd K ("Output", some "picture")) 1 ["self"] [] (sp_Output_picture P w K)) (C_State_unspent : CalM P w K mg base (He.fAd K ("State", some "unspent")) 1 ["self"] [] (sp_State_unspent P w K)) (C_State_keys_joined : CalM P w K mg base (He.fAd K ("State", some "keys_joined")) 1 ["self"] [] (sp_State_keys_joined P w K)) (z_tuple : mg "tuple" = none) (z_sorted : mg "sorted" = none) (W_Output : CF_Output K mg) (W_State : CF_State K mg) : CalM P w K mg base (He.fAd K ("State", some "picture")) 2 ["self"] [] (sp_State_picture P w K) :=
  ⟨fd, F.bindsN fun _ _ _ _ _ _ us hl => match us, hl with | [_], _ => rfl, fn_State_picture F C_Output_picture C_State_unspent C_State_keys_joined z_tuple z_sorted W_Output W_State, [], .nil, F.bindsN fun _ _ _ _ _ _ us hl => match us, hl with | [_], _ => rfl⟩

theorem fn_put_output {f : Addr} {fd : FuncData} (F : FnP K "_put_output" s_put_output f fd) (C_Books_removed : CalM P w K mg base (He.fAd K ("Books", some "removed")) 1 ["self", "ref", "output"] [] (sp_Books_removed P w K)) (C_Books_added : CalM P w K mg base (He.fAd K ("Books", some "added")) 1 ["self", "ref", "output"] [] (sp_Books_added P w K))  (W_Books : CF_Books K mg) (W_State : CF_State K mg) : FnOk P w K mg base CX0 2 f fd ["state", "ref", "output"] (sp_put_output P w K) := by
  obtain ⟨fd_Books_removed, b_Books_removed, G_Books_removed, ds_Books_removed, dr_Books_removed, db_Books_removed⟩ := C_Books_removed.ex
  obtain ⟨fd_Books_added, b_Books_added, G_Books_added, ds_Books_added, dr_Books_added, db_Books_added⟩ := C_Books_added.ex
  have cf_Books := W_Books
  have cfc_Books := cf_Books.cls
  have cf_State := W_State
  have cfc_State := cf_State.cls
  have cfn_State__outputs := cf_State.n__outputs
  have cfn_State_books := cf_State.n_books
  refine F.ok sc_put_output (fun vs H Q E h => ?_) (fun cdv A outer s H vs Q E hr h => ?_)
  · obtain ⟨A, S, B, r, p, v, o, rfl, _⟩ := h; rfl
  · obtain ⟨A, S, B, r, p, v, o, rfl, hS, hr2, hv, hn, k⟩ := h
    refine ⟨_, PSs.nox (pss_one (ps_if (pt_cmpR op_isN (pv 2) pe_non (nomark _)) (pss_one (ps_expr (pe_meth (pe_fld (pv 0) rfl) cf_Books.cls cf_Books.mt_removed G_Books_removed (hr.mono (by decide)) b_Books_removed .nil pass0 (pa_cons (pv 1) (pa_cons (Es.pe_dpopX (hu_of hr) (pe_fld (pv 0) rfl) (pv 1) ⟨rfl, rfl, rfl, rfl⟩) pa_nil))))) (pss_cons (Es.ps_dputX (hu_of hr) (pe_fld (pv 0) rfl) (pv 1) (pv 2) rfl)
      (pss_one (ps_expr (pe_meth (pe_fld (pv 0) rfl) cf_Books.cls cf_Books.mt_added G_Books_added (hr.mono (by decide)) b_Books_added .nil pass0 (pa_cons (pv 1) (pa_cons (pv 2) pa_nil)))))))), ?_⟩
    try simp only [Rd.cxK, Re.cxP, Re.cxW]
    have ht := hS.t
    have ne := SA.ne hS.nd
    have hlb := hS.lb
    have hlo := hS.lo
    obtain ⟨kv, hD, hP⟩ := hS.od
    obtain ⟨bdx, hb1⟩ := hS.bk.ins
    obtain ⟨ox0, hox⟩ : ∃ xs, H A.od = some (dX P w A.od xs) := ⟨_, hD.2.choose_spec.1⟩
    rcases hv with ⟨rfl, rfl, hm⟩ | ⟨t, rfl, ho, hno, hr3⟩
    · walk_at "rn"
      rotate_left
      · exact absurd rfl ‹_›
      obtain ⟨t, v, h1, h2, h3⟩ : ∃ t v, lookM S.outs p = some t ∧ valV kv (eR p) = some v ∧ OuAt P w K A.V H v t := by
        rcases outs_look (p := p) hP with h | ⟨h1, _⟩
        · exact h
        · obtain ⟨t, ht2⟩ := lookM_yes hm
          rw [h1] at ht2; cases ht2
      refine ⟨A.od, rfl, ⟨kv, hD⟩, ?_⟩
      walk_at "rn"
      refine ⟨kv, eR p, r, v, rfl, hD, hr2, h2, fun ys hD2 => ?_⟩
      have f1 : Fr K [A.od] H (upd H A.od (dX P w A.od ys)) := Fr.dict hox (List.mem_singleton.mpr rfl)
      have bk1 := BkAt.dict (o' := dX P w A.od ys) hS.bk hox ne.odd
      have h3' := h3.fr (f1.mono fun x q => SA.oV x (SA.odO x q)) (fun x q => .inl q)
      have hr3 := f1.tup _ _ hr2
      generalize e1 : upd H A.od (dX P w A.od ys) = H1 at *
      obtain ⟨o, odx, z, c, dd, rfl, no, ho1, ho2, _⟩ := h3'
      walk_at "rn"
      refine ⟨_, A.d, _, _, odx, z, c, dd, A.ds, B, t.ad, p, rfl, bk1, hr3, ho1, ho2, ((hS.bm.refs hS.ond t.ad).symm.subset (List.mem_map.mpr ⟨(p, t), List.mem_filter.mpr ⟨lookM_in h1, by simp⟩, rfl⟩)), fun H2 hk2 bk2 => ?_⟩
      obtain ⟨g1, g2, g3⟩ := hS.books (o := none) (p := p) e1.symm hD2 bk1 hk2 (fun x hx => .inl hx) bk2 (hS.bm.rem h1) (by rw [remB_len]; omega) (Nat.le_trans (Nat.add_le_add_right (List.length_filter_le _ _) _) hlo) (drop_outs hP) (by show ((S.outs.filter fun e => decide (e.1 ≠ p)).map (·.1)).Nodup; rw [mapF]; exact hS.ond.filter _)
      exact k H2 _ _ g1 g2 g3
    · obtain ⟨o, odx, z, c, dd, rfl, hrest⟩ := id ho
      walk_at "rn"
      · rename_i h; cases h
      have hvm : valV kv (eR p) = none := by
        rcases outs_look (p := p) hP with ⟨u, v, h1, _⟩ | ⟨_, h2⟩
        · exact absurd (List.mem_map_of_mem (f := (·.1)) (lookM_in h1)) hno
        · exact h2
      refine Re.dputX ?_
      walk_at "rn"
      have hkl : kv.length = S.outs.length := Paired.length hP
      refine ⟨A.od, kv, eR p, r, rfl, rfl, hD, Nat.lt_of_le_of_lt (show kv.length ≤ 100000 by omega) (by decide), hr2, fun ys hD2 => ?_⟩
      rw [putK_abs hvm] at hD2
      have f1 : Fr K [A.od] H (upd H A.od (dX P w A.od ys)) := Fr.dict hox (List.mem_singleton.mpr rfl)
      have bk1 := BkAt.dict (o' := dX P w A.od ys) hS.bk hox ne.odd
      have ho' := ho.fr (f1.mono fun x q => SA.oV x (SA.odO x q)) (fun x q => .inl q)
      have hr4 := f1.tup _ _ hr2
      have ht1 := f1.keep _ _ (fun q => ne.od.1 (List.mem_singleton.mp q).symm) ht
      have hb2 := f1.keep _ _ (fun q => ne.c.2.2.2.2.2.2 (List.mem_singleton.mp q).symm) hb1
      generalize e1 : upd H A.od (dX P w A.od ys) = H1 at *
      obtain ⟨o, odx, z, c, dd, eo, no, ho1, ho2, ho3, ho4⟩ := ho'
      cases eo
      walk_at "rn"
      have hbn : ∀ f ∈ B, p ∉ f.2.map (·.1) := fun f hf q => by
        obtain ⟨x, hx, rfl⟩ := List.mem_map.mp q
        exact hno (hS.bm.pm.subset (flatB_mem hf hx))
      refine ⟨_, A.d, _, _, odx, z, c, dd, A.ds, B, t.ad, p, t.rw, rfl, bk1, hr4, ho1, ho2, (BdS.bdR ho3.1), hbn, ⟨by omega, fun f hf => by have := hS.bm.len.ea f hf; omega⟩, fun H2 ds' hk2 hds bk2 => ?_⟩
      obtain ⟨g1, g2, g3⟩ := hS.books (o := some t) (p := p) e1.symm hD2 bk1 hk2 hds bk2 (hS.bm.add hno hr3 fun _ => rfl) (by have := addB_len (B := B) (k := t.ad) (p := p) (N := t.rw); omega) (by show (S.outs ++ [(p, t)]).length + _ ≤ _; rw [List.length_append]; simp; omega) (Paired.snoc hP ⟨rfl, ho⟩) (by
        show ((S.outs ++ [(p, t)]).map (·.1)).Nodup
        rw [List.map_append, List.nodup_append]
        refine ⟨hS.ond, by simp, fun a ha b hb => ?_⟩
        rw [List.mem_singleton.mp hb]
        intro q
        exact hno (by rw [show p = a from q.symm]; exact ha))
      exact k H2 _ _ g1 g2 g3
theorem ok_put_output {f : Addr} {fd : FuncData} (mf : mg "_put_output" = some (.ref f)) (F : FnP K "_put_output" s_put_output f fd) (C_Books_removed : CalM P w K mg base (He.fAd K ("Books", some "removed")) 1 ["self", "ref", "output"] [] (sp_Books_removed P w K)) (C_Books_added : CalM P w K mg base (He.fAd K ("Books", some "added")) 1 ["self", "ref", "output"] [] (sp_Books_added P w K))  (W_Books : CF_Books K mg) (W_State : CF_State K mg) : Cal P w K mg base "_put_output" 2 ["state", "ref", "output"] (sp_put_output P w K) :=
  ⟨f, fd, mf, F.kp, F.bindsN fun _ _ _ _ _ _ us hl => match us, hl with | [_, _, _], _ => rfl, fn_put_output F C_Books_removed C_Books_added W_Books W_State⟩

theorem fn_State__change {fd : FuncData} (F : FunD K "_change" "State._change" (defArgs s_State__change) (defBody s_State__change) (defScope s_State__change) [] [] (He.fAd K ("State", some "_change")) fd) (C_put_output : Cal P w K mg base "_put_output" 2 ["state", "ref", "output"] (sp_put_output P w K)) (C_put_account : Cal P w K mg base "_put_account" 1 ["state", "key", "pair"] (sp_put_account P w K)) (C_put_pot : Cal P w K mg base "_put_pot" 1 ["state", "pot", "amount"] (sp_put_pot P w K)) (C_put_clock : Cal P w K mg base "_put_clock" 1 ["state", "item", "clock"] (sp_put_clock P w K)) (C_put_stakes : Cal P w K mg base "_put_stakes" 1 ["state", "item", "rows"] (sp_put_stakes P w K)) (C_put_used : Cal P w K mg base "_put_used" 1 ["state", "number", "is_used"] (sp_put_used P w K))  (W_State : CF_State K mg) (W_PUTS : PutsF K w mg) : FnOk P w K mg base CX0 3 (He.fAd K ("State", some "_change")) fd ["self", "kind", "item", "before", "after"] (sp_State__change P w K) := by
  obtain ⟨f_put_output, fd_put_output, m_put_output, k_put_output, b_put_output, G_put_output⟩ := C_put_output.ex
  obtain ⟨f_put_account, fd_put_account, m_put_account, k_put_account, b_put_account, G_put_account⟩ := C_put_account.ex
  obtain ⟨f_put_pot, fd_put_pot, m_put_pot, k_put_pot, b_put_pot, G_put_pot⟩ := C_put_pot.ex
  obtain ⟨f_put_clock, fd_put_clock, m_put_clock, k_put_clock, b_put_clock, G_put_clock⟩ := C_put_clock.ex
  obtain ⟨f_put_stakes, fd_put_stakes, m_put_stakes, k_put_stakes, b_put_stakes, G_put_stakes⟩ := C_put_stakes.ex
  obtain ⟨f_put_used, fd_put_used, m_put_used, k_put_used, b_put_used, G_put_used⟩ := C_put_used.ex
  have cf_State := W_State
  have cfc_State := cf_State.cls
  have cfn_State__changes := cf_State.n__changes
  have g_PUTS := W_PUTS.m; have g_PUTS_r : RelV (.ref (He.ga K "_PUTS")) (.ref (He.ga K "_PUTS")) := rfl
  refine F.ok sc_State__change (fun vs H Q E h => ?_) (fun cdv A outer s H vs Q E hr h => ?_)
  · obtain ⟨A, S, B, ac, it, be, af, rfl, _⟩ := h; rfl
  · obtain ⟨A, S, B, ac, it, be, af, rfl, hS, hv, hb, ho, hn, k⟩ := h
    refine ⟨_, PSs.nox (pss_cons (ps_expr (pe_bm PySem.F.plainAttrs_list PySem.F.slot_list_append PySem.F.type_list_append mt_append (pe_fld (pv 0) rfl) (pa_cons (pe_tup (pa_cons (pv 1) (pa_cons (pv 2) (pa_cons (pv 3) pa_nil)))) pa_nil)))
      (pss_cons (ps_set (i := 5) sc_State__change.nd rfl (by first | exact Or.inl rfl | exact Or.inr rfl) (pe_ix ix_kdict (pe_glob (by rfl) g_PUTS g_PUTS_r) (pv 1) (fun _ _ => rfl)))
      (pss_one (ps_expr (pe_callA (i := 5) (S := PutS P w K ac) (held_puts W_PUTS C_put_output C_put_account C_put_pot C_put_clock C_put_stakes C_put_used ac) (hr.mono (by cases ac <;> exact Nat.le_of_ble_eq_true rfl)) rfl (by first | exact Or.inl rfl | exact Or.inr rfl) (pa_cons (pv 0) (pa_cons (pv 2) (pa_cons (pv 4) pa_nil)))))))), ?_⟩
    try simp only [Rd.cxK, Re.cxP, Re.cxW]
    have ht := hS.t
    obtain ⟨xs, hcl, hX⟩ := hS.cl
    have hlb := hS.lb
    walk_at "rn"
    rename_i z hz
    have s1 := Rd.same_new (o := .tup [V.str (kindA ac), it, be]) hz
    have hz1 : SqT K (upd H z (.tup [V.str (kindA ac), it, be])) z [V.str (kindA ac), it, be] := SqT.of upd_same
    have hS1 := hS.keep s1
    have hv1 := hv.fr (.of s1)
    have hb1 := hb.fr (.of s1)
    have hX1 := Paired.mapP hX fun _ _ q => ChAt.fr q (.of s1) (fun _ q => .inl q)
    have hcl1 := s1 _ _ hcl
    have ff : Fr K A.O H (upd H z (.tup [V.str (kindA ac), it, be])) := .of s1
    have ht1 := s1 _ _ ht
    generalize upd H z (.tup [V.str (kindA ac), it, be]) = H1 at *
    have hlen : xs.length = S.chg.length := Paired.length hX1
    rw [← kind_bef (S := S)] at hz1
    obtain ⟨f1, hS2⟩ := hS1.upL (S' := logA S (befA S ac)) (Paired.snoc hX1 (ActAt.ch hz1 hb1)) rfl (by rw [List.length_append]; simp only [List.length_singleton]; omega) (by rw [List.length_append]; simp only [List.length_singleton]; omega)
    refine ⟨A.cl, xs, V.ref z, rfl, rfl, hcl1, ?_⟩
    have hv2 := hv1.fr (f1.mono SA.oV)
    have ff2 := ff.trans f1
    have bk := fun (H' : Hp) (A' : SA) (u : UpA (upd H1 A.cl (.lst (xs ++ [V.ref z]))) A A') => UpA.back u ff2 hS2.liveO
    generalize upd H1 A.cl (.lst (xs ++ [V.ref z])) = H2 at *
    refine ⟨Nat.lt_of_le_of_lt (show xs.length ≤ 300 by omega) (by decide), ?_⟩
    walk_at "rn"
    refine ⟨_, _, _, rfl, rfl, W_PUTS.kd ac, ?_⟩
    walk_at "rn"
    refine ⟨_, putSp P w K ac, rfl, if_pos rfl, ?_⟩
    walk_at "rn"
    have hn1 : B.length + (logA S (befA S ac)).chg.length = B.length + S.chg.length + 1 := by show B.length + (S.chg ++ [_]).length = _; rw [List.length_append]; rfl
    cases ac with
    | out p o =>
      obtain ⟨⟨r, rfl, hr2⟩, hv3⟩ := hv2
      refine ⟨A, logA S (befA S (.out p o)), B, r, p, af, o, rfl, hS2, hr2, ?_, ?_, fun H' ds' B' f u st => k H' _ B' (ff2.trans f) (bk H' _ ⟨ds', A.sk, rfl, u⟩) st⟩
      · cases o with
        | none => exact .inl ⟨hv3, rfl, ho.1⟩
        | some t => exact .inr ⟨t, rfl, hv3, ho.1, ho.2.1⟩
      · cases o with
        | none => exact ⟨ho.2.1, ho.2.2, hn.2.2.1⟩
        | some t => exact ⟨ho.2.2.1, ho.2.2.2, hn.2.2.1⟩
    | acc y o =>
      obtain ⟨rfl, hv3⟩ := hv2
      exact ⟨A, logA S (befA S (.acc y o)), B, y, af, o, rfl, hS2, ⟨rfl, hv3⟩, hn.2.2.2.1, fun H' A' B' f u st => k H' A' B' (ff2.trans f) (bk H' _ u) st⟩
    | pot n x =>
      obtain ⟨h3, rfl, rfl⟩ := hv2
      exact ⟨A, logA S (befA S (.pot n x)), B, n, x, rfl, hS2, h3, fun H' A' B' f u st => k H' A' B' (ff2.trans f) (bk H' _ u) st⟩
    | clk s e =>
      obtain ⟨rfl, hv3⟩ := hv2
      exact ⟨A, logA S (befA S (.clk s e)), B, af, s, e, rfl, hS2, hv3, fun H' A' B' f u st => k H' A' B' (ff2.trans f) (bk H' _ u) st⟩
    | stk rows =>
      obtain ⟨rfl, q, ys, rfl, h3, h4⟩ := hv2
      exact ⟨A, logA S (befA S (.stk rows)), B, q, rows, rfl, hS2, ⟨ys, h3, h4⟩, fun H' A' B' f u st => k H' A' B' (ff2.trans f) (bk H' _ u) st⟩
    | use n b =>
      obtain ⟨rfl, rfl⟩ := hv2
      exact ⟨A, logA S (befA S (.use n b)), B, n, b, rfl, hS2, ho, hn.2.2.2.2, fun H' A' B' f u st => k H' A' B' (ff2.trans f) (bk H' _ u) st⟩
theorem ok_State__change {fd : FuncData} (F : FunD K "_change" "State._change" (defArgs s_State__change) (defBody s_State__change) (defScope s_State__change) [] [] (He.fAd K ("State", some "_change")) fd) (C_put_output : Cal P w K mg base "_put_output" 2 ["state", "ref", "output"] (sp_put_output P w K)) (C_put_account : Cal P w K mg base "_put_account" 1 ["state", "key", "pair"] (sp_put_account P w K)) (C_put_pot : Cal P w K mg base "_put_pot" 1 ["state", "pot", "amount"] (sp_put_pot P w K)) (C_put_clock : Cal P w K mg base "_put_clock" 1 ["state", "item", "clock"] (sp_put_clock P w K)) (C_put_stakes : Cal P w K mg base "_put_stakes" 1 ["state", "item", "rows"] (sp_put_stakes P w K)) (C_put_used : Cal P w K mg base "_put_used" 1 ["state", "number", "is_used"] (sp_put_used P w K))  (W_State : CF_State K mg) (W_PUTS : PutsF K w mg) : CalM P w K mg base (He.fAd K ("State", some "_change")) 3 ["self", "kind", "item", "before", "after"] [] (sp_State__change P w K) :=
  ⟨fd, F.bindsN fun _ _ _ _ _ _ us hl => match us, hl with | [_, _, _, _, _], _ => rfl, fn_State__change F C_put_output C_put_account C_put_pot C_put_clock C_put_stakes C_put_used W_State W_PUTS, [], .nil, F.bindsN fun _ _ _ _ _ _ us hl => match us, hl with | [_, _, _, _, _], _ => rfl⟩

theorem fn_Bundle_of_coin {fd : FuncData} (F : FunD K "of_coin" "Bundle.of_coin" (defArgs s_Bundle_of_coin) (defBody s_Bundle_of_coin) (defScope s_Bundle_of_coin) [] [] (Bd.sAd K "Bundle" "of_coin") fd) (C_Bundle___init : CalM P w K mg base (He.fAd K ("Bundle", some "__init__")) 2 ["self", "rows"] [V.ref (He.dflAt ("Bundle", some "__init__") 0 K)] (sp_Bundle___init P w K))  (W_Bundle : CF_Bundle K mg) (W_COIN : CoinF K mg) : FnOk P w K mg base CX0 4 (Bd.sAd K "Bundle" "of_coin") fd ["quantity"] (sp_Bundle_of_coin P w K) := by
  obtain ⟨fd_Bundle___init, b_Bundle___init, G_Bundle___init, ds_Bundle___init, dr_Bundle___init, db_Bundle___init⟩ := C_Bundle___init.ex
  have cf_Bundle := W_Bundle
  have g_COIN := W_COIN.m; have h_COIN := W_COIN.at_; have g_COIN_r : RelV (.ref (aC K)) (.ref (aC K)) := rfl
  refine F.ok sc_Bundle_of_coin (fun vs H Q E h => ?_) (fun cdv A outer s H vs Q E hr h => ?_)
  · obtain ⟨q, rfl, _⟩ := h; rfl
  · obtain ⟨q, rfl, k⟩ := h
    refine ⟨_, PSs.nox (pss_one (ps_ret (pe_make cf_Bundle.mkr G_Bundle___init (hr.mono (by decide)) (by rfl) cf_Bundle.m b_Bundle___init .nil pass0 (pa_cons (pe_lst (pa_cons (pe_tup (pa_cons (pe_glob (by rfl) g_COIN g_COIN_r) (pa_cons (pv 0) pa_nil))) pa_nil)) pa_nil)))), ?_⟩
    try simp only [Rd.cxK, Re.cxP, Re.cxW]
    walk_at "rd"
    rename_i z hz l hl
    refine mkB (R := [(coinA, q)]) (.inl (.inl (SqL.of upd_same))) (dpAll_one (rowDp (SqT.of (Rd.nh hl upd_same)) (h_COIN _))) (by simp) fun H' c N s hc nm tt bd => ?_
    exact k H' c N (((Rd.same_new hz).trans (Rd.same_new hl)).trans s) (((Rd.same_new hz).trans (Rd.same_new hl)).free hc) nm tt bd
theorem ok_Bundle_of_coin {fd : FuncData} (F : FunD K "of_coin" "Bundle.of_coin" (defArgs s_Bundle_of_coin) (defBody s_Bundle_of_coin) (defScope s_Bundle_of_coin) [] [] (Bd.sAd K "Bundle" "of_coin") fd) (C_Bundle___init : CalM P w K mg base (He.fAd K ("Bundle", some "__init__")) 2 ["self", "rows"] [V.ref (He.dflAt ("Bundle", some "__init__") 0 K)] (sp_Bundle___init P w K))  (W_Bundle : CF_Bundle K mg) (W_COIN : CoinF K mg) : CalM P w K mg base (Bd.sAd K "Bundle" "of_coin") 4 ["quantity"] [] (sp_Bundle_of_coin P w K) :=
  ⟨fd, F.bindsN fun _ _ _ _ _ _ us hl => match us, hl with | [_], _ => rfl, fn_Bundle_of_coin F C_Bundle___init W_Bundle W_COIN, [], .nil, F.bindsN fun _ _ _ _ _ _ us hl => match us, hl with | [_], _ => rfl⟩

theorem bnd_Output___init {fd : FuncData} (F : FunD K "__init__" "Output.__init__" (defArgs s_Output___init) (defBody s_Output___init) (defScope s_Output___init) [V.ref (He.dflAt ("Output", some "__init__") 0 K)] [] (He.fAd K ("Output", some "__init__")) fd) : Binds K fd ["self", "address", "bundle", "datum"] [] := by
  obtain ⟨ds, r, b⟩ := F.binds1 (ps := ["self", "address", "bundle", "datum"]) 4 1 (by simp) rfl (fun T kV doc pm an cdv ct us its hu hi => match us, hu, its, hi with | [_, _, _, _], _, [_], _ => ⟨_, rfl, rfl⟩)
  cases r
  exact b
theorem bnd0_Output___init {fd : FuncData} (F : FunD K "__init__" "Output.__init__" (defArgs s_Output___init) (defBody s_Output___init) (defScope s_Output___init) [V.ref (He.dflAt ("Output", some "__init__") 0 K)] [] (He.fAd K ("Output", some "__init__")) fd) : ∃ ds, Vals [V.ref (He.dflAt ("Output", some "__init__") 0 K)] ds ∧ Binds K fd ["self", "address", "bundle", "datum"] ds := by
  obtain ⟨ds, r, b⟩ := F.binds1 (ps := ["self", "address", "bundle", "datum"]) 3 0 (by simp) rfl (fun T kV doc pm an cdv ct us its hu hi => match us, hu, its, hi with | [_, _, _], _, [_], _ => ⟨_, rfl, rfl⟩)
  exact ⟨ds, r, b⟩
theorem fn_Output___init {fd : FuncData} (F : FunD K "__init__" "Output.__init__" (defArgs s_Output___init) (defBody s_Output___init) (defScope s_Output___init) [V.ref (He.dflAt ("Output", some "__init__") 0 K)] [] (He.fAd K ("Output", some "__init__")) fd) (C_Bundle___init : CalM P w K mg base (He.fAd K ("Bundle", some "__init__")) 2 ["self", "rows"] [V.ref (He.dflAt ("Bundle", some "__init__") 0 K)] (sp_Bundle___init P w K)) (z_tuple : mg "tuple" = none) (W_Output : CF_Output K mg) (W_Bundle : CF_Bundle K mg) : FnOk P w K mg base CX0 4 (He.fAd K ("Output", some "__init__")) fd ["self", "address", "bundle", "datum"] (sp_Output___init P w K) := by
  obtain ⟨fd_Bundle___init, b_Bundle___init, G_Bundle___init, ds_Bundle___init, dr_Bundle___init, db_Bundle___init⟩ := C_Bundle___init.ex
  have cf_Output := W_Output
  have cfc_Output := cf_Output.cls
  have cfn_Output_address := cf_Output.n_address
  have cfn_Output_bundle := cf_Output.n_bundle
  have cfn_Output_datum := cf_Output.n_datum
  have cf_Bundle := W_Bundle
  refine F.ok sc_Output___init (fun vs H Q E h => ?_) (fun cdv A outer s H vs Q E hr h => ?_)
  · obtain ⟨b, dx, z, a, dz, kk, xs, ws, R, rfl, _⟩ := h; rfl
  · obtain ⟨b, dx, z, a, dz, kk, xs, ws, R, rfl, hb, hz, hx, hR, hl, hd, k⟩ := h
    refine ⟨_, PSs.nox (pss_cons (ps_fld (pv 0) (pv 1) rfl)
      (pss_cons (ps_fld (pv 0) (pe_make cf_Bundle.mkr G_Bundle___init (hr.mono (by decide)) (by rfl) cf_Bundle.m b_Bundle___init .nil pass0 (pa_cons (pv 2) pa_nil)) rfl)
      (pss_one (ps_fld (pv 0) (pe_callTy call_tuple_of (by rfl) z_tuple boot_tuple (pa_cons (pv 3) pa_nil)) rfl)))), ?_⟩
    try simp only [Rd.cxK, Re.cxP, Re.cxW]
    refine Rd.seq (Rb.sfld (Rd.var rfl (Rd.var rfl ⟨b, _, dx, [], rfl, hb, cfc_Output, cfn_Output_address, by show 0 < 1000; decide, ?_⟩)))
    rw [show putF (Str.ofString "address") (V.ref z) [] = [(("address" : Str), V.ref z)] from rfl]
    have b1 : Beside b H (upd H b (.ins (He.ga K "Output") dx [(("address" : Str), V.ref z)])) := fun a o h e => (upd_ne h).trans e
    have hb1 : upd H b (.ins (He.ga K "Output") dx [(("address" : Str), V.ref z)]) b = _ := upd_same
    have hR1 := b1.dpAll hb hR
    have hx1 : (SqL K _ a xs ∨ SqT K _ a xs) ∨ OwnAt K _ a xs := hx.imp (fun z => z.imp (b1.sqL hb) (b1.sqT hb)) (fun y => (y.keep (dl_store (o := .ins (He.ga K "Output") dx [(("address" : Str), V.ref z)]))).keep dl_same)
    have hd1 := hd.imp (b1.sqL hb) (b1.sqT hb)
    generalize upd H b (.ins (He.ga K "Output") dx [(("address" : Str), V.ref z)]) = H1 at *
    refine Rd.seq (Rb.sfld ?_)
    walk_at "rn"
    refine mkBn hx1 hR1 hl fun H2 c N s2 hc nm tt bd hfr => ?_
    have fr0 : ∀ {a : Addr}, H1 a = none → H a = none := fun {a} q => by
      cases h : H a with
      | none => rfl
      | some o =>
        by_cases e : a = b
        · subst e; rw [q] at hb1; cases hb1
        · have := b1 a o e h; rw [q] at this; cases this
    have kB : ∀ {d : Addr} {H' : Hp}, BdD K H' c d → H' c = H2 c → H d = none := fun h e => fr0 (hfr _ (by obtain ⟨dx, r, q⟩ := h; exact ⟨dx, r, e.symm.trans q⟩))
    have hc0 : H c = none := by
      cases h : H c with
      | none => rfl
      | some o =>
        by_cases e : c = b
        · subst e; rw [hc] at hb1; cases hb1
        · have := b1 c o e h; rw [hc] at this; cases this
    have hb2 := s2 _ _ hb1
    have hd2 := hd1.imp s2.seq (Rd.same_tup s2)
    have hc2 : ∃ o, H2 c = some o := by obtain ⟨_, _, _, _, h, _⟩ := bd; exact ⟨_, h⟩
    have hcb : c ≠ b := fun e => by subst e; rw [hc] at hb1; cases hb1
    have bes : Beside b H H2 := fun a o h e => s2 _ _ (b1 a o h e)
    clear s2 hR1 hx1 hd1
    refine Rd.var rfl ⟨b, _, dx, _, rfl, hb2, cfc_Output, cfn_Output_bundle, by show 1 < 1000; decide, ?_⟩
    rw [show putF (Str.ofString "bundle") (V.ref c) [(Str.ofString "address", V.ref z)] = [(("address" : Str), V.ref z), (("bundle" : Str), .ref c)] from rfl]
    have b3 : Beside b H2 (upd H2 b (.ins (He.ga K "Output") dx [(("address" : Str), V.ref z), (("bundle" : Str), .ref c)])) := fun a o h e => (upd_ne h).trans e
    have hb3 : upd H2 b (.ins (He.ga K "Output") dx [(("address" : Str), V.ref z), (("bundle" : Str), .ref c)]) b = _ := upd_same
    have bd3 := Fa.bds_off bd b3 hb2 hcb
    have hd3 := hd2.imp (b3.sqL hb2) (b3.sqT hb2)
    have bes3 : Beside b H _ := fun a o h e => b3 a o h (bes a o h e)
    generalize upd H2 b (.ins (He.ga K "Output") dx [(("address" : Str), V.ref z), (("bundle" : Str), .ref c)]) = H3 at *
    refine Rb.sfld ?_
    have fin : ∀ (dd : Addr) (H4 : Hp), Same H3 H4 → SqT K H4 dd ws → Q .non (upd H4 b (.ins (He.ga K "Output") dx [(("address" : Str), V.ref z), (("bundle" : Str), .ref c), (("datum" : Str), .ref dd)])) := by
      intro dd H4 s4 hdd
      have b5 : Beside b H4 (upd H4 b (.ins (He.ga K "Output") dx [(("address" : Str), V.ref z), (("bundle" : Str), .ref c), (("datum" : Str), .ref dd)])) := fun a o h e => (upd_ne h).trans e
      have hb4 := s4 _ _ hb3
      exact k _ c dd N (fun a o h e => b5 a o h (s4 _ _ (bes3 a o h e))) hc0 upd_same nm tt (Fa.bds_off (bd3.keep s4) b5 hb4 hcb) (b5.sqT hb4 hdd) (fun d q => kB q (by obtain ⟨o, ho⟩ := hc2; rw [ho]; exact b5 _ _ hcb (s4 _ _ (b3 _ _ hcb ho))))
    rcases hd3 with hd4 | hd4
    · walk_at "rn"
      rename_i dd hdd
      have s4 := Rd.same_new (o := .tup ws) hdd
      refine ⟨b, _, dx, _, rfl, s4 _ _ hb3, cfc_Output, cfn_Output_datum, by show 2 < 1000; decide, ?_⟩
      exact fin dd _ s4 (SqT.of upd_same)
    · walk_at "rn"
      refine ⟨b, _, dx, _, rfl, hb3, cfc_Output, cfn_Output_datum, by show 2 < 1000; decide, ?_⟩
      exact fin dz _ (Same.refl _) hd4
theorem ok_Output___init {fd : FuncData} (F : FunD K "__init__" "Output.__init__" (defArgs s_Output___init) (defBody s_Output___init) (defScope s_Output___init) [V.ref (He.dflAt ("Output", some "__init__") 0 K)] [] (He.fAd K ("Output", some "__init__")) fd) (C_Bundle___init : CalM P w K mg base (He.fAd K ("Bundle", some "__init__")) 2 ["self", "rows"] [V.ref (He.dflAt ("Bundle", some "__init__") 0 K)] (sp_Bundle___init P w K)) (z_tuple : mg "tuple" = none) (W_Output : CF_Output K mg) (W_Bundle : CF_Bundle K mg) : CalM P w K mg base (He.fAd K ("Output", some "__init__")) 4 ["self", "address", "bundle", "datum"] [V.ref (He.dflAt ("Output", some "__init__") 0 K)] (sp_Output___init P w K) :=
  ⟨fd, (bnd_Output___init F), fn_Output___init F C_Bundle___init z_tuple W_Output W_Bundle, (bnd0_Output___init F)⟩

theorem fn_State_add_output {fd : FuncData} (F : FunD K "add_output" "State.add_output" (defArgs s_State_add_output) (defBody s_State_add_output) (defScope s_State_add_output) [] [] (He.fAd K ("State", some "add_output")) fd) (C_KeptError___init : CalM P w K mg base (He.fAd K ("KeptError", some "__init__")) 1 ["self", "what"] [V.non] (sp_KeptError___init P w K)) (C_State__change : CalM P w K mg base (He.fAd K ("State", some "_change")) 3 ["self", "kind", "item", "before", "after"] [] (sp_State__change P w K))  (W_State : CF_State K mg) (W_errs : StErr EN_ K mg) : FnOk P w K mg base (L2.CX P w) 4 (He.fAd K ("State", some "add_output")) fd ["self", "ref", "output"] (sp_State_add_output P w K) := by
  obtain ⟨fd_KeptError___init, b_KeptError___init, G_KeptError___init, ds_KeptError___init, dr_KeptError___init, db_KeptError___init⟩ := C_KeptError___init.ex
  obtain ⟨fd_State__change, b_State__change, G_State__change, ds_State__change, dr_State__change, db_State__change⟩ := C_State__change.ex
  have cf_State := W_State
  have cfc_State := cf_State.cls
  have cfn_State__outputs := cf_State.n__outputs
  have We := W_errs
  refine F.ok sc_State_add_output (fun vs H Q E h => ?_) (fun cdv A outer s H vs Q E hr h => ?_)
  · obtain ⟨A, S, B, r, p, v, t, rfl, _⟩ := h; rfl
  · obtain ⟨A, S, B, r, p, v, t, rfl, hS, hr2, hv, h3, hn, kE, k⟩ := h
    refine ⟨_, (pss_cons (ps_if (pt_cmp (Es.pc_dinX (hu_of hr) (pv 1) (pe_fld (pv 0) rfl)) (by rfl)) (pss_one (ps_raise rfl (takes_of rfl rfl rfl rfl) (pmk_oex (We.x "Present" (by decide +kernel)).o (We.x "Present" (by decide +kernel)).iC (We.x "Present" (by decide +kernel)).tI G_KeptError___init (hr.mono (by decide)) b_KeptError___init .nil pass0 (by rfl) (We.m "Present" (by decide +kernel)) (pa_cons (pv 1) pa_nil)))) pss_nil)
      (pss_one (ps_expr (pe_meth (pv 0) cf_State.cls cf_State.mt__change G_State__change (hr.mono (by decide)) b_State__change .nil pass0 (pa_cons pe_str (pa_cons (pv 1) (pa_cons pe_non (pa_cons (pv 2) pa_nil)))))))), ?_⟩
    try simp only [Rd.cxK, Re.cxP, Re.cxW, lit_1]
    have ht := hS.t
    obtain ⟨kv, hD, hP⟩ := hS.od
    walk_at "rn"
    refine Re.dinX ?_
    walk_at "rn"
    refine ⟨A.od, _, rfl, ⟨kv, eR p, r, hD, rfl, hr2, rfl⟩, ?_⟩
    rcases outs_look (p := p) hP with ⟨u, v2, h1, h2, h4⟩ | ⟨h1, h2⟩
    · rw [h2]
      refine ⟨true, rfl, ?_⟩
      rw [if_pos rfl]
      exact raiseE We (by decide +kernel) rfl (kE (List.mem_map_of_mem (f := (·.1)) (lookM_in h1)))
    · rw [h2]
      refine ⟨false, rfl, ?_⟩
      rw [if_neg (by decide)]
      have hno : p ∉ S.outs.map (·.1) := fun q => by
        obtain ⟨u, hu⟩ := lookM_yes q
        rw [h1] at hu; cases hu
      walk_at "rn"
      refine ⟨A, S, B, .out p (some t), _, _, _, rfl, hS, ⟨⟨r, rfl, hr2⟩, hv⟩, (befOut hno hr2), (okOut hno h3 ⟨hn.1, hn.2.1⟩), ⟨by omega, by omega, hn.2.2⟩, fun H2 A2 B2 f2 u2 st2 => ?_⟩
      exact k hno H2 A2 B2 f2 u2 st2
theorem ok_State_add_output {fd : FuncData} (F : FunD K "add_output" "State.add_output" (defArgs s_State_add_output) (defBody s_State_add_output) (defScope s_State_add_output) [] [] (He.fAd K ("State", some "add_output")) fd) (C_KeptError___init : CalM P w K mg base (He.fAd K ("KeptError", some "__init__")) 1 ["self", "what"] [V.non] (sp_KeptError___init P w K)) (C_State__change : CalM P w K mg base (He.fAd K ("State", some "_change")) 3 ["self", "kind", "item", "before", "after"] [] (sp_State__change P w K))  (W_State : CF_State K mg) (W_errs : StErr EN_ K mg) : CalMX P w K mg base (He.fAd K ("State", some "add_output")) 4 ["self", "ref", "output"] [] (sp_State_add_output P w K) :=
  ⟨fd, F.bindsN fun _ _ _ _ _ _ us hl => match us, hl with | [_, _, _], _ => rfl, fn_State_add_output F C_KeptError___init C_State__change W_State W_errs, [], .nil, F.bindsN fun _ _ _ _ _ _ us hl => match us, hl with | [_, _, _], _ => rfl⟩

theorem fn_State_remove_output {fd : FuncData} (F : FunD K "remove_output" "State.remove_output" (defArgs s_State_remove_output) (defBody s_State_remove_output) (defScope s_State_remove_output) [] [] (He.fAd K ("State", some "remove_output")) fd) (C_State_output : CalM P w K mg base (He.fAd K ("State", some "output")) 1 ["self", "ref"] [] (sp_State_output P w K)) (C_KeptError___init : CalM P w K mg base (He.fAd K ("KeptError", some "__init__")) 1 ["self", "what"] [V.non] (sp_KeptError___init P w K)) (C_State__change : CalM P w K mg base (He.fAd K ("State", some "_change")) 3 ["self", "kind", "item", "before", "after"] [] (sp_State__change P w K))  (W_State : CF_State K mg) (W_errs : StErr EN_ K mg) : FnOk P w K mg base (L2.CX P w) 4 (He.fAd K ("State", some "remove_output")) fd ["self", "ref"] (sp_State_remove_output P w K) := by
  obtain ⟨fd_State_output, b_State_output, G_State_output, ds_State_output, dr_State_output, db_State_output⟩ := C_State_output.ex
  obtain ⟨fd_KeptError___init, b_KeptError___init, G_KeptError___init, ds_KeptError___init, dr_KeptError___init, db_KeptError___init⟩ := C_KeptError___init.ex
  obtain ⟨fd_State__change, b_State__change, G_State__change, ds_State__change, dr_State__change, db_State__change⟩ := C_State__change.ex
  have cf_State := W_State
  have cfc_State := cf_State.cls
  have We := W_errs
  refine F.ok sc_State_remove_output (fun vs H Q E h => ?_) (fun cdv A outer s H vs Q E hr h => ?_)
  · obtain ⟨A, S, B, r, p, rfl, _⟩ := h; rfl
  · obtain ⟨A, S, B, r, p, rfl, hS, hr2, hn, kE, k⟩ := h
    refine ⟨_, (pss_cons (ps_set (i := 2) sc_State_remove_output.nd rfl (by first | exact Or.inl rfl | exact Or.inr rfl) (pe_meth (pv 0) cf_State.cls cf_State.mt_output G_State_output (hr.mono (by decide)) b_State_output .nil pass0 (pa_cons (pv 1) pa_nil)))
      (pss_cons (ps_if (pt_cmpR op_isN (pv 2) pe_non (nomark _)) (pss_one (ps_raise rfl (takes_of rfl rfl rfl rfl) (pmk_oex (We.x "Absent" (by decide +kernel)).o (We.x "Absent" (by decide +kernel)).iC (We.x "Absent" (by decide +kernel)).tI G_KeptError___init (hr.mono (by decide)) b_KeptError___init .nil pass0 (by rfl) (We.m "Absent" (by decide +kernel)) (pa_cons (pv 1) pa_nil)))) pss_nil)
      (pss_cons (ps_expr (pe_meth (pv 0) cf_State.cls cf_State.mt__change G_State__change (hr.mono (by decide)) b_State__change .nil pass0 (pa_cons pe_str (pa_cons (pv 1) (pa_cons (pv 2) (pa_cons pe_non pa_nil))))))
      (pss_one (ps_ret (pv 2)))))), ?_⟩
    try simp only [Rd.cxK, Re.cxP, Re.cxW, lit_1]
    have ht := hS.t
    walk_at "rn"
    refine ⟨A, S, B, _, p, rfl, hS, hr2, fun v hv => ?_⟩
    rcases hv with ⟨t, h1, h2⟩ | ⟨h1, rfl⟩
    · obtain ⟨o, odx, z, c, dd, rfl, hrest⟩ := id h2
      walk_at "rn"
      · rename_i h; cases h
      refine ⟨A, S, B, .out p none, _, _, _, rfl, hS, ⟨⟨r, rfl, hr2⟩, rfl⟩, (befRem h1 hr2 h2), (okRem (List.mem_map_of_mem (f := (·.1)) (lookM_in h1)) ⟨hn.1, hn.2.1⟩), ⟨by omega, by omega, hn.2.2⟩, fun H2 A2 B2 f2 u2 st2 => ?_⟩
      walk_at "rn"
      exact k t _ h1 h2 H2 A2 B2 f2 u2 st2
    · walk_at "rn"
      rotate_left
      · exact absurd rfl ‹_›
      exact raiseE We (by decide +kernel) rfl (kE fun q => by
        obtain ⟨u, hu⟩ := lookM_yes q
        rw [h1] at hu; cases hu)
theorem ok_State_remove_output {fd : FuncData} (F : FunD K "remove_output" "State.remove_output" (defArgs s_State_remove_output) (defBody s_State_remove_output) (defScope s_State_remove_output) [] [] (He.fAd K ("State", some "remove_output")) fd) (C_State_output : CalM P w K mg base (He.fAd K ("State", some "output")) 1 ["self", "ref"] [] (sp_State_output P w K)) (C_KeptError___init : CalM P w K mg base (He.fAd K ("KeptError", some "__init__")) 1 ["self", "what"] [V.non] (sp_KeptError___init P w K)) (C_State__change : CalM P w K mg base (He.fAd K ("State", some "_change")) 3 ["self", "kind", "item", "before", "after"] [] (sp_State__change P w K))  (W_State : CF_State K mg) (W_errs : StErr EN_ K mg) : CalMX P w K mg base (He.fAd K ("State", some "remove_output")) 4 ["self", "ref"] [] (sp_State_remove_output P w K) :=
  ⟨fd, F.bindsN fun _ _ _ _ _ _ us hl => match us, hl with | [_, _], _ => rfl, fn_State_remove_output F C_State_output C_KeptError___init C_State__change W_State W_errs, [], .nil, F.bindsN fun _ _ _ _ _ _ us hl => match us, hl with | [_, _], _ => rfl⟩

theorem fn_State_set_account {fd : FuncData} (F : FunD K "set_account" "State.set_account" (defArgs s_State_set_account) (defBody s_State_set_account) (defScope s_State_set_account) [] [] (He.fAd K ("State", some "set_account")) fd) (C_State__change : CalM P w K mg base (He.fAd K ("State", some "_change")) 3 ["self", "kind", "item", "before", "after"] [] (sp_State__change P w K)) (C_State_account : CalM P w K mg base (He.fAd K ("State", some "account")) 1 ["self", "key"] [] (sp_State_account P w K))  (W_State : CF_State K mg) : FnOk P w K mg base CX0 4 (He.fAd K ("State", some "set_account")) fd ["self", "key", "pair"] (sp_State_set_account P w K) := by
  obtain ⟨fd_State__change, b_State__change, G_State__change, ds_State__change, dr_State__change, db_State__change⟩ := C_State__change.ex
  obtain ⟨fd_State_account, b_State_account, G_State_account, ds_State_account, dr_State_account, db_State_account⟩ := C_State_account.ex
  have cf_State := W_State
  have cfc_State := cf_State.cls
  refine F.ok sc_State_set_account (fun vs H Q E h => ?_) (fun cdv A outer s H vs Q E hr h => ?_)
  · obtain ⟨A, S, B, y, v, o, rfl, _⟩ := h; rfl
  · obtain ⟨A, S, B, y, v, o, rfl, hS, hv, hn, k⟩ := h
    refine ⟨_, PSs.nox (pss_one (ps_expr (pe_meth (pv 0) cf_State.cls cf_State.mt__change G_State__change (hr.mono (by decide)) b_State__change .nil pass0 (pa_cons pe_str (pa_cons (pv 1) (pa_cons (pe_meth (pv 0) cf_State.cls cf_State.mt_account G_State_account (hr.mono (by decide)) b_State_account .nil pass0 (pa_cons (pv 1) pa_nil)) (pa_cons (pv 2) pa_nil))))))), ?_⟩
    try simp only [Rd.cxK, Re.cxP, Re.cxW, lit_2]
    have ht := hS.t
    walk_at "rn"
    refine ⟨A, S, B, y, rfl, hS, fun v2 hv2 => ?_⟩
    walk_at "rn"
    have hb : ActAt P w K A.V H (.int y) v2 (undo (befA S (.acc y o))) := by
      show ActAt P w K A.V H (.int y) v2 (.acc y (lookA S.accs y))
      rcases hv2 with ⟨q, h1, h2⟩ | ⟨h1, h2⟩
      · rw [h1]; exact ⟨rfl, h2⟩
      · rw [h1]; exact ⟨rfl, h2⟩
    refine ⟨A, S, B, .acc y o, _, _, _, rfl, hS, hv, hb, trivial, ⟨by omega, by omega, hn.2.2⟩, fun H2 A2 B2 f2 u2 st2 => ?_⟩
    exact k H2 A2 B2 f2 u2 st2
theorem ok_State_set_account {fd : FuncData} (F : FunD K "set_account" "State.set_account" (defArgs s_State_set_account) (defBody s_State_set_account) (defScope s_State_set_account) [] [] (He.fAd K ("State", some "set_account")) fd) (C_State__change : CalM P w K mg base (He.fAd K ("State", some "_change")) 3 ["self", "kind", "item", "before", "after"] [] (sp_State__change P w K)) (C_State_account : CalM P w K mg base (He.fAd K ("State", some "account")) 1 ["self", "key"] [] (sp_State_account P w K))  (W_State : CF_State K mg) : CalM P w K mg base (He.fAd K ("State", some "set_account")) 4 ["self", "key", "pair"] [] (sp_State_set_account P w K) :=
  ⟨fd, F.bindsN fun _ _ _ _ _ _ us hl => match us, hl with | [_, _, _], _ => rfl, fn_State_set_account F C_State__change C_State_account W_State, [], .nil, F.bindsN fun _ _ _ _ _ _ us hl => match us, hl with | [_, _, _], _ => rfl⟩

theorem fn_State_set_pot {fd : FuncData} (F : FunD K "set_pot" "State.set_pot" (defArgs s_State_set_pot) (defBody s_State_set_pot) (defScope s_State_set_pot) [] [] (He.fAd K ("State", some "set_pot")) fd) (C_KeptError___init : CalM P w K mg base (He.fAd K ("KeptError", some "__init__")) 1 ["self", "what"] [V.non] (sp_KeptError___init P w K)) (C_State__change : CalM P w K mg base (He.fAd K ("State", some "_change")) 3 ["self", "kind", "item", "before", "after"] [] (sp_State__change P w K))  (W_State : CF_State K mg) (W_errs : StErr EN_ K mg) : FnOk P w K mg base (L2.CX P w) 4 (He.fAd K ("State", some "set_pot")) fd ["self", "pot", "amount"] (sp_State_set_pot P w K) := by
  obtain ⟨fd_KeptError___init, b_KeptError___init, G_KeptError___init, ds_KeptError___init, dr_KeptError___init, db_KeptError___init⟩ := C_KeptError___init.ex
  obtain ⟨fd_State__change, b_State__change, G_State__change, ds_State__change, dr_State__change, db_State__change⟩ := C_State__change.ex
  have cf_State := W_State
  have cfc_State := cf_State.cls
  have cfn_State_fees := cf_State.n_fees
  have cfn_State_reserve := cf_State.n_reserve
  have cfn_State_treasury := cf_State.n_treasury
  have We := W_errs
  refine F.ok sc_State_set_pot (fun vs H Q E h => ?_) (fun cdv A outer s H vs Q E hr h => ?_)
  · obtain ⟨A, S, B, n, x, amt, rfl, _⟩ := h; rfl
  · obtain ⟨A, S, B, n, x, amt, rfl, hS, hx, hn, kE, k⟩ := h
    refine ⟨_, (pss_cons (ps_set (i := 3) sc_State_set_pot.nd rfl (by first | exact Or.inl rfl | exact Or.inr rfl) (L2.pe_disp (pps_cons pe_str (pe_fld (pv 0) rfl) (pps_cons pe_str (pe_fld (pv 0) rfl) (pps_cons pe_str (pe_fld (pv 0) rfl) pps_nil))) (by rfl) (by rfl) (fun z => by cases z) (by decide)))
      (pss_cons (ps_if (pt_cmp (pc_dnotin (hu_of hr) (pv 1) (pv 3)) (by rfl)) (pss_one (ps_raise rfl (takes_of rfl rfl rfl rfl) (pmk_oex (We.x "NoPot" (by decide +kernel)).o (We.x "NoPot" (by decide +kernel)).iC (We.x "NoPot" (by decide +kernel)).tI G_KeptError___init (hr.mono (by decide)) b_KeptError___init .nil pass0 (by rfl) (We.m "NoPot" (by decide +kernel)) (pa_cons (pv 1) pa_nil)))) pss_nil)
      (pss_one (ps_expr (pe_meth (pv 0) cf_State.cls cf_State.mt__change G_State__change (hr.mono (by decide)) b_State__change .nil pass0 (pa_cons pe_str (pa_cons (pv 1) (pa_cons (L2.pe_dget (hu_of hr) (pv 3) (pv 1) (fun _ _ => rfl)) (pa_cons (pv 2) pa_nil))))))))), ?_⟩
    try simp only [Rd.cxK, Re.cxP, Re.cxW, lit_3, lit_4, lit_5, lit_6]
    have ht0 := hS.t
    walk_at "rn"
    refine Ef.disp fun m hm => Ef.pairS ?_
    have ht := Rd.same_new (o := .dK []) hm _ _ ht0
    walk_at "rn"
    refine Ef.pairS ?_
    walk_at "rn"
    refine Ef.pairS ?_
    walk_at "rn"
    refine Ef.pairN ⟨upd_same, potKv S, rfl, by show 3 ≤ 15; decide, ?_⟩
    rw [pot_id, upd_upd]
    have s1 : Same H (upd H m (.dK (potKv S))) := Rd.same_new hm
    have hd : upd H m (.dK (potKv S)) m = some (.dK (potKv S)) := upd_same
    clear ht
    generalize upd H m (.dK (potKv S)) = H1 at *
    have ht := s1 _ _ ht0
    walk_at "rn"
    refine Re.dnotinS ?_
    walk_at "rn"
    refine ⟨m, _, rfl, DGet.k (k := .inr x) hd, ?_⟩
    rcases hx with ⟨h3, rfl⟩ | ⟨h3, rfl⟩
    · refine ⟨false, by rw [pot_val h3]; rfl, ?_⟩
      rw [if_neg (by decide)]
      walk_at "rn"
      refine ⟨m, .int (potV S n), rfl, by rw [← pot_val h3]; exact DGet.k (k := .inr (potName n)) hd, ?_⟩
      walk_at "rn"
      refine ⟨A, S, B, .pot n amt, _, _, _, rfl, (hS.keep s1), ⟨h3, rfl, rfl⟩, ⟨h3, rfl, rfl⟩, trivial, ⟨by omega, by omega, hn.2.2⟩, fun H3 A2 B2 f2 u2 st2 => ?_⟩
      exact k h3 H3 A2 B2 ((Fr.of s1).trans f2) (u2.back (K := K) (Fr.of s1) (hS.keep s1).liveO) st2
    · refine ⟨true, by rw [show (.inr (Str.ofString "purse") : Key) = .inr "purse" from rfl, pot_none]; rfl, ?_⟩
      rw [if_pos rfl]
      exact raiseE We (by decide +kernel) rfl fun d H2 s2 h1 h2 => kE h3 d H2 (s1.trans s2) (by
        cases e : H d with
        | none => rfl
        | some o => rw [s1 _ _ e] at h1; cases h1) h2
theorem ok_State_set_pot {fd : FuncData} (F : FunD K "set_pot" "State.set_pot" (defArgs s_State_set_pot) (defBody s_State_set_pot) (defScope s_State_set_pot) [] [] (He.fAd K ("State", some "set_pot")) fd) (C_KeptError___init : CalM P w K mg base (He.fAd K ("KeptError", some "__init__")) 1 ["self", "what"] [V.non] (sp_KeptError___init P w K)) (C_State__change : CalM P w K mg base (He.fAd K ("State", some "_change")) 3 ["self", "kind", "item", "before", "after"] [] (sp_State__change P w K))  (W_State : CF_State K mg) (W_errs : StErr EN_ K mg) : CalMX P w K mg base (He.fAd K ("State", some "set_pot")) 4 ["self", "pot", "amount"] [] (sp_State_set_pot P w K) :=
  ⟨fd, F.bindsN fun _ _ _ _ _ _ us hl => match us, hl with | [_, _, _], _ => rfl, fn_State_set_pot F C_KeptError___init C_State__change W_State W_errs, [], .nil, F.bindsN fun _ _ _ _ _ _ us hl => match us, hl with | [_, _, _], _ => rfl⟩

theorem fn_State_set_clock {fd : FuncData} (F : FunD K "set_clock" "State.set_clock" (defArgs s_State_set_clock) (defBody s_State_set_clock) (defScope s_State_set_clock) [] [] (He.fAd K ("State", some "set_clock")) fd) (C_State__change : CalM P w K mg base (He.fAd K ("State", some "_change")) 3 ["self", "kind", "item", "before", "after"] [] (sp_State__change P w K))  (W_State : CF_State K mg) : FnOk P w K mg base CX0 4 (He.fAd K ("State", some "set_clock")) fd ["self", "slot", "epoch"] (sp_State_set_clock P w K) := by
  obtain ⟨fd_State__change, b_State__change, G_State__change, ds_State__change, dr_State__change, db_State__change⟩ := C_State__change.ex
  have cf_State := W_State
  have cfc_State := cf_State.cls
  have cfn_State_epoch := cf_State.n_epoch
  have cfn_State_slot := cf_State.n_slot
  refine F.ok sc_State_set_clock (fun vs H Q E h => ?_) (fun cdv A outer s H vs Q E hr h => ?_)
  · obtain ⟨A, S, B, s, e, rfl, _⟩ := h; rfl
  · obtain ⟨A, S, B, s, e, rfl, hS, hn, k⟩ := h
    refine ⟨_, PSs.nox (pss_one (ps_expr (pe_meth (pv 0) cf_State.cls cf_State.mt__change G_State__change (hr.mono (by decide)) b_State__change .nil pass0 (pa_cons pe_str (pa_cons pe_non (pa_cons (pe_tup (pa_cons (pe_fld (pv 0) rfl) (pa_cons (pe_fld (pv 0) rfl) pa_nil))) (pa_cons (pe_tup (pa_cons (pv 1) (pa_cons (pv 2) pa_nil))) pa_nil))))))), ?_⟩
    try simp only [Rd.cxK, Re.cxP, Re.cxW, lit_7]
    have ht := hS.t
    walk_at "rn"
    rename_i p1 hp1 p2 hp2
    have s1 := Rd.same_new (o := .tup [.int S.slot, .int S.epo]) hp1
    have s2 := Rd.same_new (o := .tup [.int s, .int e]) hp2
    have h1 : SqT K (upd (upd H p1 (.tup [.int S.slot, .int S.epo])) p2 (.tup [.int s, .int e])) p1 [.int S.slot, .int S.epo] := Rd.same_tup s2 (SqT.of upd_same)
    have h2 : SqT K (upd (upd H p1 (.tup [.int S.slot, .int S.epo])) p2 (.tup [.int s, .int e])) p2 [.int s, .int e] := SqT.of upd_same
    have ss := s1.trans s2
    generalize upd (upd H p1 (.tup [.int S.slot, .int S.epo])) p2 (.tup [.int s, .int e]) = H1 at *
    refine ⟨A, S, B, .clk s e, _, _, _, rfl, (hS.keep ss), ⟨rfl, p2, rfl, h2⟩, ⟨rfl, p1, rfl, h1⟩, trivial, ⟨by omega, by omega, hn.2.2⟩, fun H2 A2 B2 f2 u2 st2 => ?_⟩
    exact k H2 A2 B2 ((Fr.of ss).trans f2) (u2.back (K := K) (Fr.of ss) (hS.keep ss).liveO) st2
theorem ok_State_set_clock {fd : FuncData} (F : FunD K "set_clock" "State.set_clock" (defArgs s_State_set_clock) (defBody s_State_set_clock) (defScope s_State_set_clock) [] [] (He.fAd K ("State", some "set_clock")) fd) (C_State__change : CalM P w K mg base (He.fAd K ("State", some "_change")) 3 ["self", "kind", "item", "before", "after"] [] (sp_State__change P w K))  (W_State : CF_State K mg) : CalM P w K mg base (He.fAd K ("State", some "set_clock")) 4 ["self", "slot", "epoch"] [] (sp_State_set_clock P w K) :=
  ⟨fd, F.bindsN fun _ _ _ _ _ _ us hl => match us, hl with | [_, _, _], _ => rfl, fn_State_set_clock F C_State__change W_State, [], .nil, F.bindsN fun _ _ _ _ _ _ us hl => match us, hl with | [_, _, _], _ => rfl⟩

theorem fn_State_set_stakes {fd : FuncData} (F : FunD K "set_stakes" "State.set_stakes" (defArgs s_State_set_stakes) (defBody s_State_set_stakes) (defScope s_State_set_stakes) [] [] (He.fAd K ("State", some "set_stakes")) fd) (C_State__change : CalM P w K mg base (He.fAd K ("State", some "_change")) 3 ["self", "kind", "item", "before", "after"] [] (sp_State__change P w K)) (z_tuple : mg "tuple" = none) (z_sorted : mg "sorted" = none) (W_State : CF_State K mg) : FnOk P w K mg base CX0 4 (He.fAd K ("State", some "set_stakes")) fd ["self", "rows"] (sp_State_set_stakes P w K) := by
  obtain ⟨fd_State__change, b_State__change, G_State__change, ds_State__change, dr_State__change, db_State__change⟩ := C_State__change.ex
  have cf_State := W_State
  have cfc_State := cf_State.cls
  have cfn_State__stakes := cf_State.n__stakes
  refine F.ok sc_State_set_stakes (fun vs H Q E h => ?_) (fun cdv A outer s H vs Q E hr h => ?_)
  · obtain ⟨A, S, B, q, xs, rows, rfl, _⟩ := h; rfl
  · obtain ⟨A, S, B, q, xs, rows, rfl, hS, hq, hx, hl, hn, k⟩ := h
    refine ⟨_, PSs.nox (pss_one (ps_expr (pe_meth (pv 0) cf_State.cls cf_State.mt__change G_State__change (hr.mono (by decide)) b_State__change .nil pass0 (pa_cons pe_str (pa_cons pe_non (pa_cons (pe_fld (pv 0) rfl) (pa_cons (pe_callTy call_tuple_of (by rfl) z_tuple boot_tuple (pa_cons (pe_callB Es.cr_sortedLI (by rfl) z_sorted boot_sorted (pa_cons (pv 1) pa_nil)) pa_nil)) pa_nil))))))), ?_⟩
    try simp only [Rd.cxK, Re.cxP, Re.cxW, lit_8]
    have ht := hS.t
    walk_at "rn"
    refine ⟨q, xs, rows, rfl, hq, hx, fun R ys q2 hRp hRs hq2 hys => ?_⟩
    have s1 := Rd.same_new (o := .lst ys) hq2
    have hys1 := dpAll_same s1 hys
    have hql : SqL K (upd H q2 (.lst ys)) q2 ys := SqL.of upd_same
    generalize upd H q2 (.lst ys) = H1 at *
    refine Rd.nil (Rd.tupL hql fun l hl2 => Rd.nil ?_)
    have s2 := s1.trans (Rd.same_new (o := .tup ys) hl2)
    have hT : SqT K (upd H1 l (.tup ys)) l ys := SqT.of upd_same
    have hY := dpAll_same (Rd.same_new (o := .tup ys) hl2) hys1
    generalize upd H1 l (.tup ys) = H2 at *
    have hsk : ActAt P w K A.V H2 .non (.ref A.sk) (undo (befA S (.stk R))) := by
      obtain ⟨zs, a, b⟩ := (hS.keep s2).sk
      exact ⟨rfl, A.sk, zs, rfl, a, b⟩
    refine ⟨A, S, B, .stk R, _, _, _, rfl, (hS.keep s2), ⟨rfl, l, ys, rfl, hT, hY⟩, hsk, trivial, ⟨by omega, by omega, hn.2.2⟩, fun H3 A2 B2 f2 u2 st2 => ?_⟩
    exact k R hRp hRs H3 A2 B2 ((Fr.of s2).trans f2) (u2.back (K := K) (Fr.of s2) (hS.keep s2).liveO) st2
theorem ok_State_set_stakes {fd : FuncData} (F : FunD K "set_stakes" "State.set_stakes" (defArgs s_State_set_stakes) (defBody s_State_set_stakes) (defScope s_State_set_stakes) [] [] (He.fAd K ("State", some "set_stakes")) fd) (C_State__change : CalM P w K mg base (He.fAd K ("State", some "_change")) 3 ["self", "kind", "item", "before", "after"] [] (sp_State__change P w K)) (z_tuple : mg "tuple" = none) (z_sorted : mg "sorted" = none) (W_State : CF_State K mg) : CalM P w K mg base (He.fAd K ("State", some "set_stakes")) 4 ["self", "rows"] [] (sp_State_set_stakes P w K) :=
  ⟨fd, F.bindsN fun _ _ _ _ _ _ us hl => match us, hl with | [_, _], _ => rfl, fn_State_set_stakes F C_State__change z_tuple z_sorted W_State, [], .nil, F.bindsN fun _ _ _ _ _ _ us hl => match us, hl with | [_, _], _ => rfl⟩

theorem fn_State_use {fd : FuncData} (F : FunD K "use" "State.use" (defArgs s_State_use) (defBody s_State_use) (defScope s_State_use) [] [] (He.fAd K ("State", some "use")) fd) (C_State_is_used : CalM P w K mg base (He.fAd K ("State", some "is_used")) 1 ["self", "number"] [] (sp_State_is_used P w K)) (C_KeptError___init : CalM P w K mg base (He.fAd K ("KeptError", some "__init__")) 1 ["self", "what"] [V.non] (sp_KeptError___init P w K)) (C_State__change : CalM P w K mg base (He.fAd K ("State", some "_change")) 3 ["self", "kind", "item", "before", "after"] [] (sp_State__change P w K))  (W_State : CF_State K mg) (W_errs : StErr EN_ K mg) : FnOk P w K mg base (L2.CX P w) 4 (He.fAd K ("State", some "use")) fd ["self", "number"] (sp_State_use P w K) := by
  obtain ⟨fd_State_is_used, b_State_is_used, G_State_is_used, ds_State_is_used, dr_State_is_used, db_State_is_used⟩ := C_State_is_used.ex
  obtain ⟨fd_KeptError___init, b_KeptError___init, G_KeptError___init, ds_KeptError___init, dr_KeptError___init, db_KeptError___init⟩ := C_KeptError___init.ex
  obtain ⟨fd_State__change, b_State__change, G_State__change, ds_State__change, dr_State__change, db_State__change⟩ := C_State__change.ex
  have cf_State := W_State
  have cfc_State := cf_State.cls
  have We := W_errs
  refine F.ok sc_State_use (fun vs H Q E h => ?_) (fun cdv A outer s H vs Q E hr h => ?_)
  · obtain ⟨A, S, B, n, rfl, _⟩ := h; rfl
  · obtain ⟨A, S, B, n, rfl, hS, hn, kE, k⟩ := h
    refine ⟨_, (pss_cons (ps_if (pt_val (pe_meth (pv 0) cf_State.cls cf_State.mt_is_used G_State_is_used (hr.mono (by decide)) b_State_is_used .nil pass0 (pa_cons (pv 1) pa_nil))) (pss_one (ps_raise rfl (takes_of rfl rfl rfl rfl) (pmk_oex (We.x "Present" (by decide +kernel)).o (We.x "Present" (by decide +kernel)).iC (We.x "Present" (by decide +kernel)).tI G_KeptError___init (hr.mono (by decide)) b_KeptError___init .nil pass0 (by rfl) (We.m "Present" (by decide +kernel)) (pa_cons (pv 1) pa_nil)))) pss_nil)
      (pss_one (ps_expr (pe_meth (pv 0) cf_State.cls cf_State.mt__change G_State__change (hr.mono (by decide)) b_State__change .nil pass0 (pa_cons pe_str (pa_cons (pv 1) (pa_cons pe_bl (pa_cons pe_bl pa_nil)))))))), ?_⟩
    try simp only [Rd.cxK, Re.cxP, Re.cxW, lit_9]
    have ht := hS.t
    walk_at "rn"
    refine ⟨A, S, B, _, rfl, hS, ?_⟩
    refine ⟨_, rfl, ?_⟩
    by_cases c : n ∈ S.used
    · rw [if_pos (decide_eq_true c)]
      exact raiseE We (by decide +kernel) rfl (kE c)
    · rw [if_neg (by simpa using c)]
      walk_at "rn"
      refine ⟨A, S, B, .use n true, _, _, _, rfl, hS, ⟨rfl, rfl⟩, ⟨rfl, rfl⟩, c, ⟨by omega, by omega, hn.2.2⟩, fun H2 A2 B2 f2 u2 st2 => ?_⟩
      exact k c H2 A2 B2 f2 u2 st2
theorem ok_State_use {fd : FuncData} (F : FunD K "use" "State.use" (defArgs s_State_use) (defBody s_State_use) (defScope s_State_use) [] [] (He.fAd K ("State", some "use")) fd) (C_State_is_used : CalM P w K mg base (He.fAd K ("State", some "is_used")) 1 ["self", "number"] [] (sp_State_is_used P w K)) (C_KeptError___init : CalM P w K mg base (He.fAd K ("KeptError", some "__init__")) 1 ["self", "what"] [V.non] (sp_KeptError___init P w K)) (C_State__change : CalM P w K mg base (He.fAd K ("State", some "_change")) 3 ["self", "kind", "item", "before", "after"] [] (sp_State__change P w K))  (W_State : CF_State K mg) (W_errs : StErr EN_ K mg) : CalMX P w K mg base (He.fAd K ("State", some "use")) 4 ["self", "number"] [] (sp_State_use P w K) :=
  ⟨fd, F.bindsN fun _ _ _ _ _ _ us hl => match us, hl with | [_, _], _ => rfl, fn_State_use F C_State_is_used C_KeptError___init C_State__change W_State W_errs, [], .nil, F.bindsN fun _ _ _ _ _ _ us hl => match us, hl with | [_, _], _ => rfl⟩

theorem fn_law_pot_step {f : Addr} {fd : FuncData} (F : FnP K "_law_pot_step" s_law_pot_step f fd) (C_State_set_pot : CalMX P w K mg base (He.fAd K ("State", some "set_pot")) 4 ["self", "pot", "amount"] [] (sp_State_set_pot P w K)) (z_int : mg "int" = none) (W_errs : StErr EN_ K mg) (W_State : CF_State K mg) : FnOk P w K mg base CX0 5 f fd ["state", "model", "numbers"] (sp_law_pot_step P w K) := by
  obtain ⟨fd_State_set_pot, b_State_set_pot, G_State_set_pot, ds_State_set_pot, dr_State_set_pot, db_State_set_pot⟩ := C_State_set_pot.ex
  have We := W_errs
  have cf_State := W_State
  have cfc_State := cf_State.cls
  refine F.ok sc_law_pot_step (fun vs H Q E h => ?_) (fun cdv A outer s H vs Q E hr h => ?_)
  · obtain ⟨A, S, M, B, D, b, ns, rfl, _⟩ := h; rfl
  · obtain ⟨A, S, M, B, D, b, ns, rfl, hL, hb, hn, k⟩ := h
    refine ⟨_, PSs.nox (pss_cons (ps_set (i := 3) sc_law_pot_step.nd rfl (by first | exact Or.inl rfl | exact Or.inr rfl) (pe_ix ix_list (pe_lst (pa_cons pe_str (pa_cons pe_str (pa_cons pe_str (pa_cons pe_str pa_nil))))) (pe_op op_mod (pe_ix ix_list (pv 2) pe_int (fun _ _ => rfl)) pe_int) (fun _ _ => rfl)))
      (pss_cons (ps_try_as (i := 4) rfl rfl sc_law_pot_step.nd rfl rfl ⟨rfl, by decide, .inl (We.m "NoPot" (by decide +kernel))⟩ takes0 (fun W pn xe tk _ => (pss_one (ps_expr (Bd.pe_methS (pv 0) cf_State.cls cf_State.mt_set_pot G_State_set_pot (hr.mono (by decide)) b_State_set_pot (fun σ => passAt tk σ) (pa_cons (pv 3) (pa_cons (pe_ix (Rb.ix_listK (K := K) rfl) (pv 2) pe_int (fun _ _ => rfl)) pa_nil))))))
      (fun a oe cls d pn hz hf => (pss_one (ps_ret (pe_op op_sub (pe_callTy call_int1 (by rfl) z_int boot_int (pa_cons (pe_and (pe_cmpR op_eq (pv 3) pe_str (nomark _)) (pe_one (pe_cmpR op_eq (Bd.pe_xg hz hf (pv 4)) (pv 3) (nomark _)))) pa_nil)) pe_int)))))
      (pss_cons (ps_if (pt_cmpR op_eq (pv 3) pe_str (nomark _)) (pss_one (ps_ret (pe_un un_neg pe_int))) pss_nil)
      (pss_cons (ps_asg (pe_ix ix_list (pv 2) pe_int (fun _ _ => rfl)) (pg_sub (L2.pe_dget (hu_of hr) (pv 1) pe_str (fun _ _ => rfl)) (pe_op op_mod (pe_ix ix_list (pv 2) pe_int (fun _ _ => rfl)) pe_int) set_list))
      (pss_one (ps_ret pe_int)))))), ?_⟩
    try simp only [Rd.cxK, Re.cxP, Re.cxW, lit_19, lit_20, lit_3, lit_4, lit_5]
    obtain ⟨hbl, hb3, hnl, hbV⟩ := hb
    have v1b := B3.at hb3 (m := 1) (by omega)
    generalize e1 : ns.getD 1 0 = v1 at v1b
    generalize e2 : ns.getD 2 0 = v2
    clear hb3
    walk_at "rn"
    rename_i p hp
    have s1 : Same H (upd H p (.lst [V.str (Rd.S [102, 101, 101, 115]), V.str (Rd.S [114, 101, 115, 101, 114, 118, 101]), V.str (Rd.S [116, 114, 101, 97, 115, 117, 114, 121]), V.str (Rd.S [112, 117, 114, 115, 101])])) := Rd.same_new hp
    have hp1 : SqL K (upd H p (.lst [V.str (Rd.S [102, 101, 101, 115]), V.str (Rd.S [114, 101, 115, 101, 114, 118, 101]), V.str (Rd.S [116, 114, 101, 97, 115, 117, 114, 121]), V.str (Rd.S [112, 117, 114, 115, 101])])) p [V.str (Rd.S [102, 101, 101, 115]), V.str (Rd.S [114, 101, 115, 101, 114, 118, 101]), V.str (Rd.S [116, 114, 101, 97, 115, 117, 114, 121]), V.str (Rd.S [112, 117, 114, 115, 101])] := SqL.of upd_same
    generalize upd H p (.lst [V.str (Rd.S [102, 101, 101, 115]), V.str (Rd.S [114, 101, 115, 101, 114, 118, 101]), V.str (Rd.S [116, 114, 101, 97, 115, 117, 114, 121]), V.str (Rd.S [112, 117, 114, 115, 101])]) = H1 at *
    have hL1 := hL.keep s1
    have hb1 := s1 _ _ hbl
    have ht := hL1.st.t
    rw [show ns.getD (Int.toNat 1) 0 = v1 from e1]
    obtain ⟨j, hj, ej⟩ : ∃ j : Nat, j < 4 ∧ v1 % 4 = (j : Int) := ⟨(v1 % 4).toNat, by omega, by omega⟩
    rw [ej]
    refine Rd.ixL hp1 (potN_at hj) ?_
    refine Rd.seq ?_
    refine Bd.tryMeth (Rd.var rfl ⟨A.t, A.dx, _, rfl, ht, by rfl, ?_⟩)
    walk_at "rn"
    rw [show ns.getD (Int.toNat 2) 0 = v2 from e2]
    refine ⟨A, S, B, j, potN j, v2, rfl, hL1.st, potN_is hj, hn, fun e3 d H2 s2 hd hd2 => ?_, fun h3 H2 A2 B2 f2 u2 st2 => ?_⟩
    · refine ⟨true, (We.kit "NoPot" "NoPot" (by decide +kernel) (by decide +kernel)).2, fun _ a ha => ?_, fun q => nomatch q⟩
      walk_at "rn"
      · refine Rd.var rfl ⟨rfl, He.ga K "NoPot", d, [("what", V.str (potN j))], V.str (potN j), rfl, rfl, Bd.ExcC.xf (We.x "NoPot" (by decide +kernel)).x, (We.x "NoPot" (by decide +kernel)).nw, hd2, rfl, ?_⟩
        walk_at "rn"
        rw [if_pos (decide_eq_true rfl)]
        exact k 0 H2 A B S D M (.no hL (s1.trans s2))
      · exact absurd ((potN_purse hj).mpr e3) (by assumption)
    · have hb2 := f2.keep _ _ (fun q => hbV (SA.oV _ q)) hb1
      have hM2 := hL1.md.sta hL1.st hL1.z f2
      walk_at "rn"
      · exact absurd ((potN_purse hj).mp (by assumption)) (by omega)
      rw [show ns.getD (Int.toNat 2) 0 = v2 from e2, show ns.getD (Int.toNat 1) 0 = v1 from e1, ej]
      refine ⟨D.pt, _, j, j, rfl, rfl, hM2.pots, pot_ix h3, ?_⟩
      rw [pot_set h3]
      obtain ⟨g1, g2⟩ := hM2.upP hL1.nd (M' := putPot M v2 j) pot_same
      walk_at "rn"
      exact k 1 _ A2 B2 _ D _ (.yes hL1 s1 f2 u2 st2 g1 (fun x hx => by rw [List.mem_singleton.mp hx]; simp [MA.O]) (fun x hx => by rw [List.mem_singleton.mp hx, upd_same]; exact fun q => by cases q) g2 hL1.eq.pot (by rw [pot_same.1]; exact hL1.ok) pot_keys)
theorem ok_law_pot_step {f : Addr} {fd : FuncData} (mf : mg "_law_pot_step" = some (.ref f)) (F : FnP K "_law_pot_step" s_law_pot_step f fd) (C_State_set_pot : CalMX P w K mg base (He.fAd K ("State", some "set_pot")) 4 ["self", "pot", "amount"] [] (sp_State_set_pot P w K)) (z_int : mg "int" = none) (W_errs : StErr EN_ K mg) (W_State : CF_State K mg) : Cal P w K mg base "_law_pot_step" 5 ["state", "model", "numbers"] (sp_law_pot_step P w K) :=
  ⟨f, fd, mf, F.kp, F.bindsN fun _ _ _ _ _ _ us hl => match us, hl with | [_, _, _], _ => rfl, fn_law_pot_step F C_State_set_pot z_int W_errs W_State⟩

theorem fn_law_use_step {f : Addr} {fd : FuncData} (F : FnP K "_law_use_step" s_law_use_step f fd) (C_State_use : CalMX P w K mg base (He.fAd K ("State", some "use")) 4 ["self", "number"] [] (sp_State_use P w K)) (z_int : mg "int" = none) (W_errs : StErr EN_ K mg) (W_State : CF_State K mg) : FnOk P w K mg base CX0 5 f fd ["state", "model", "numbers"] (sp_law_use_step P w K) := by
  obtain ⟨fd_State_use, b_State_use, G_State_use, ds_State_use, dr_State_use, db_State_use⟩ := C_State_use.ex
  have We := W_errs
  have cf_State := W_State
  have cfc_State := cf_State.cls
  refine F.ok sc_law_use_step (fun vs H Q E h => ?_) (fun cdv A outer s H vs Q E hr h => ?_)
  · obtain ⟨A, S, M, B, D, b, ns, rfl, _⟩ := h; rfl
  · obtain ⟨A, S, M, B, D, b, ns, rfl, hL, hb, hn, k⟩ := h
    refine ⟨_, PSs.nox (pss_cons (ps_set (i := 3) sc_law_use_step.nd rfl (by first | exact Or.inl rfl | exact Or.inr rfl) (pe_op op_add pe_int (pe_op op_mod (pe_ix ix_list (pv 2) pe_int (fun _ _ => rfl)) pe_int)))
      (pss_cons (ps_if (pt_cmpR op_eq (pe_op op_mod (pe_ix ix_list (pv 2) pe_int (fun _ _ => rfl)) pe_int) pe_int (nomark _)) (pss_one (ps_set (i := 3) sc_law_use_step.nd rfl (by first | exact Or.inl rfl | exact Or.inr rfl) (pe_op op_sub (pe_op op_pow pe_int pe_int) (pe_op op_mod (pe_ix ix_list (pv 2) pe_int (fun _ _ => rfl)) pe_int)))) pss_nil)
      (pss_cons (ps_try_as (i := 4) rfl rfl sc_law_use_step.nd rfl rfl ⟨rfl, by decide, .inl (We.m "Present" (by decide +kernel))⟩ takes0 (fun W pn xe tk _ => (pss_one (ps_expr (Bd.pe_methS (pv 0) cf_State.cls cf_State.mt_use G_State_use (hr.mono (by decide)) b_State_use (fun σ => passAt tk σ) (pa_cons (pv 3) pa_nil)))))
      (fun a oe cls d pn hz hf => (pss_one (ps_ret (pe_op op_sub (pe_callTy call_int1 (by rfl) z_int boot_int (pa_cons (pe_and (pe_cmpR (Bd.op_in_seqK (K := K) rfl) (pv 3) (L2.pe_dget (have hu := hu_of hr; hu) (pv 1) pe_str (fun _ _ => rfl)) (by rfl)) (pe_one (pe_cmpR op_eq (Bd.pe_xg hz hf (pv 4)) (pv 3) (nomark _)))) pa_nil)) pe_int)))))
      (pss_cons (ps_if (pt_cmpR op_in_seq (pv 3) (L2.pe_dget (hu_of hr) (pv 1) pe_str (fun _ _ => rfl)) (by rfl)) (pss_one (ps_ret (pe_un un_neg pe_int))) pss_nil)
      (pss_cons (ps_expr (pe_bm PySem.F.plainAttrs_list PySem.F.slot_list_append PySem.F.type_list_append mt_append (L2.pe_dget (hu_of hr) (pv 1) pe_str (fun _ _ => rfl)) (pa_cons (pv 3) pa_nil)))
      (pss_one (ps_ret pe_int))))))), ?_⟩
    try simp only [Rd.cxK, Re.cxP, Re.cxW, lit_9]
    obtain ⟨hbl, hb3, hnl, hbV⟩ := hb
    clear hb3
    have ht := hL.st.t
    have mu : ∀ n, n ∈ S.used ↔ n ∈ M.used := fun n => hL.eq.used.symm.mem_iff
    walk_at "rnj"
    refine Rd.join (fun σ' H' => ∃ n : Int, σ' = [some (.ref A.t), some (.ref D.m), some (.ref b), some (.int n), none] ∧ H' = H) ?_ ?_
    · intro N hN
      walk_at "rn"
      all_goals exact hN _ _ ⟨_, rfl, rfl⟩
    rintro σ' H' ⟨n, rfl, rfl⟩
    refine Rd.seq ?_
    refine Bd.tryMeth (Rd.var rfl ⟨A.t, A.dx, _, rfl, ht, by rfl, ?_⟩)
    walk_at "rn"
    refine ⟨A, S, B, n, rfl, hL.st, hn, fun e3 d H2 s2 hd hd2 => ?_, fun h3 H2 A2 B2 f2 u2 st2 => ?_⟩
    · refine ⟨true, (We.kit "Present" "Present" (by decide +kernel) (by decide +kernel)).2, fun _ a ha => ?_, fun q => nomatch q⟩
      have hL2 := hL.keep s2
      have hM2 := hL2.md
      walk_at "rn"
      refine inI hM2.used ⟨_, rfl, ?_⟩
      rw [if_pos (decide_eq_true ((mu n).mp e3))]
      walk_at "rn"
      refine Rd.var rfl ⟨rfl, He.ga K "Present", d, [("what", V.int n)], V.int n, rfl, rfl, Bd.ExcC.xf (We.x "Present" (by decide +kernel)).x, (We.x "Present" (by decide +kernel)).nw, hd2, rfl, ?_⟩
      walk_at "rn"
      rw [if_pos (decide_eq_true rfl)]
      exact k 0 H2 A B S D M (.no hL s2)
    · have hM2 := hL.md.sta hL.st hL.z f2
      have hnm : n ∉ M.used := fun q => h3 ((mu n).mpr q)
      walk_at "rn"
      refine inI hM2.used ⟨_, rfl, ?_⟩
      rw [if_neg (by simpa using hnm)]
      have hul := hM2.used
      walk_at "rn"
      obtain ⟨g1, g2⟩ := hM2.upU hL.nd (nd_snoc hM2.und hnm)
      have e3 : M.used.map V.int ++ [V.int n] = (M.used ++ [n]).map V.int := by rw [List.map_append]; rfl
      refine ⟨D.us, _, V.int n, rfl, rfl, hul, Nat.lt_of_le_of_lt (show (M.used.map V.int).length ≤ 1000 by rw [List.length_map, hL.eq.used.length_eq]; exact hn.2.2.2.2) (by decide), ?_⟩
      rw [e3]
      walk_at "rn"
      exact k 1 _ A2 B2 _ D _ (.yes hL (.refl _) f2 u2 st2 g1 (fun x hx => by rw [List.mem_singleton.mp hx]; simp [MA.O]) (fun x hx => by rw [List.mem_singleton.mp hx, upd_same]; exact fun q => by cases q) g2 hL.eq.use hL.ok fun _ h => .inl h)
theorem ok_law_use_step {f : Addr} {fd : FuncData} (mf : mg "_law_use_step" = some (.ref f)) (F : FnP K "_law_use_step" s_law_use_step f fd) (C_State_use : CalMX P w K mg base (He.fAd K ("State", some "use")) 4 ["self", "number"] [] (sp_State_use P w K)) (z_int : mg "int" = none) (W_errs : StErr EN_ K mg) (W_State : CF_State K mg) : Cal P w K mg base "_law_use_step" 5 ["state", "model", "numbers"] (sp_law_use_step P w K) :=
  ⟨f, fd, mf, F.kp, F.bindsN fun _ _ _ _ _ _ us hl => match us, hl with | [_, _, _], _ => rfl, fn_law_use_step F C_State_use z_int W_errs W_State⟩

theorem fn_State___init {fd : FuncData} (F : FunD K "__init__" "State.__init__" (defArgs s_State___init) (defBody s_State___init) (defScope s_State___init) [] [] (He.fAd K ("State", some "__init__")) fd) (C_Books___init : CalM P w K mg base (He.fAd K ("Books", some "__init__")) 1 ["self"] [] (sp_Books___init P w K)) (C_put_output : Cal P w K mg base "_put_output" 2 ["state", "ref", "output"] (sp_put_output P w K)) (C_Output___init : CalM P w K mg base (He.fAd K ("Output", some "__init__")) 4 ["self", "address", "bundle", "datum"] [V.ref (He.dflAt ("Output", some "__init__") 0 K)] (sp_Output___init P w K)) (C_Bundle_of_coin : CalM P w K mg base (Bd.sAd K "Bundle" "of_coin") 4 ["quantity"] [] (sp_Bundle_of_coin P w K)) (z_enumerate : mg "enumerate" = none) (W_State : CF_State K mg) (W_Books : CF_Books K mg) (W_DFL : DflF K) (W_Output : CF_Output K mg) (W_Bundle : CF_Bundle K mg) : FnOk P w K mg base CX0 6 (He.fAd K ("State", some "__init__")) fd ["self", "grants", "reserve"] (sp_State___init P w K) := by
  obtain ⟨fd_Books___init, b_Books___init, G_Books___init, ds_Books___init, dr_Books___init, db_Books___init⟩ := C_Books___init.ex
  obtain ⟨f_put_output, fd_put_output, m_put_output, k_put_output, b_put_output, G_put_output⟩ := C_put_output.ex
  obtain ⟨fd_Output___init, b_Output___init, G_Output___init, ds_Output___init, dr_Output___init, db_Output___init⟩ := C_Output___init.ex
  obtain ⟨fd_Bundle_of_coin, b_Bundle_of_coin, G_Bundle_of_coin, ds_Bundle_of_coin, dr_Bundle_of_coin, db_Bundle_of_coin⟩ := C_Bundle_of_coin.ex
  have cf_State := W_State
  have cfc_State := cf_State.cls
  have cfn_State__accounts := cf_State.n__accounts
  have cfn_State__changes := cf_State.n__changes
  have cfn_State__forgotten := cf_State.n__forgotten
  have cfn_State__outputs := cf_State.n__outputs
  have cfn_State__stakes := cf_State.n__stakes
  have cfn_State__used := cf_State.n__used
  have cfn_State_books := cf_State.n_books
  have cfn_State_epoch := cf_State.n_epoch
  have cfn_State_fees := cf_State.n_fees
  have cfn_State_reserve := cf_State.n_reserve
  have cfn_State_slot := cf_State.n_slot
  have cfn_State_treasury := cf_State.n_treasury
  have cf_Books := W_Books
  have h_dflO := W_DFL.o
  have cf_Output := W_Output
  have cf_Bundle := W_Bundle
  refine F.ok sc_State___init (fun vs H Q E h => ?_) (fun cdv A outer s H vs Q E hr h => ?_)
  · obtain ⟨t, dx, a, res, xs, G, rfl, _⟩ := h; rfl
  · obtain ⟨t, dx, a, res, xs, G, rfl, hb, hx, hX, hG, hl, k⟩ := h
    refine ⟨_, PSs.nox (pss_cons (ps_fld (pv 0) pe_int rfl)
      (pss_cons (ps_fld (pv 0) (pv 2) rfl)
      (pss_cons (ps_fld (pv 0) pe_int rfl)
      (pss_cons (ps_fld (pv 0) pe_int rfl)
      (pss_cons (ps_fld (pv 0) pe_int rfl)
      (pss_cons (ps_fld (pv 0) (pe_make0 cf_Books.mkr G_Books___init (hr.mono (by decide)) (by rfl) cf_Books.m db_Books___init dr_Books___init pass0) rfl)
      (pss_cons (ps_fld (pv 0) Es.pe_dnewX rfl)
      (pss_cons (ps_fld (pv 0) pe_dnewK rfl)
      (pss_cons (ps_fld (pv 0) (pe_tup pa_nil) rfl)
      (pss_cons (ps_fld (pv 0) pe_dnewK rfl)
      (pss_cons (ps_fld (pv 0) (pe_lst pa_nil) rfl)
      (pss_cons (ps_fld (pv 0) pe_int rfl)
      (pss_one (ps_for PassesOwn.never rfl (pi_enum (by rfl) z_enumerate (pa_cons (pv 1) pa_nil)) (pg_tup (n := 2) rfl (pgs_cons (pg_name (i := 3) sc_State___init.nd rfl (by first | exact Or.inl rfl | exact Or.inr rfl)) (pgs_cons (pg_tup (n := 2) rfl (pgs_cons (pg_name (i := 4) sc_State___init.nd rfl (by first | exact Or.inl rfl | exact Or.inr rfl)) (pgs_cons (pg_name (i := 5) sc_State___init.nd rfl (by first | exact Or.inl rfl | exact Or.inr rfl)) pgs_nil))) pgs_nil))) (pss_one (ps_expr (pe_call G_put_output (hr.mono (by decide)) (by rfl) m_put_output k_put_output b_put_output .nil pass0 (pa_cons (pv 0) (pa_cons (pe_tup (pa_cons pe_int (pa_cons (pv 3) pa_nil))) (pa_cons (pe_make cf_Output.mkr G_Output___init (hr.mono (by decide)) (by rfl) cf_Output.m db_Output___init dr_Output___init pass0 (pa_cons (pe_tup (pa_cons pe_str (pa_cons (pv 4) pa_nil))) (pa_cons (Bd.pe_static (pe_glob (v := .ref (He.ga K "Bundle")) (by rfl) cf_Bundle.m rfl) cf_Bundle.st_of_coin G_Bundle_of_coin (hr.mono (by decide)) b_Bundle_of_coin pass0 (pa_cons (pv 5) pa_nil)) pa_nil))) pa_nil)))))))))))))))))))), ?_⟩
    try simp only [Rd.cxK, Re.cxP, Re.cxW, lit_0]
    have n0 : ∀ {x : Addr}, H x = none → x ≠ t := fun hx e => by subst e; rw [hx] at hb; cases hb
    have bes0 : Beside t H H := fun _ _ _ e => e
    refine Rd.seq (Rb.sfld ?_)
    walk_at "rn"
    refine ⟨t, _, dx, _, rfl, hb, cfc_State, cfn_State_fees, by show 0 < 1000; decide, ?_⟩
    rw [show putF (Str.ofString "fees") (V.int 0) [] = [(("fees" : Str), V.int 0)] from rfl]
    have b0 : Beside t H (upd H t (.ins (He.ga K "State") dx [(("fees" : Str), V.int 0)])) := fun a o h e => (upd_ne h).trans e
    have t0 : upd H t (.ins (He.ga K "State") dx [(("fees" : Str), V.int 0)]) t = _ := upd_same
    have bes1 : Beside t H _ := fun a o h e => b0 a o h (bes0 a o h e)
    generalize upd H t (.ins (He.ga K "State") dx [(("fees" : Str), V.int 0)]) = F0 at *
    have bes1_free : ∀ {x : Addr}, F0 x = none → H x = none := fun {x} hx => by
      cases q : H x with
      | none => rfl
      | some o =>
        by_cases e : x = t
        · subst e; rw [t0] at hx; cases hx
        · have := bes1 x o e q; rw [hx] at this; cases this
    clear bes0  b0
    refine Rd.seq (Rb.sfld ?_)
    walk_at "rn"
    refine ⟨t, _, dx, _, rfl, t0, cfc_State, cfn_State_reserve, by show 1 < 1000; decide, ?_⟩
    rw [show putF (Str.ofString "reserve") (V.int res) [(("fees" : Str), V.int 0)] = [(("fees" : Str), V.int 0), (("reserve" : Str), V.int res)] from rfl]
    have b1 : Beside t F0 (upd F0 t (.ins (He.ga K "State") dx [(("fees" : Str), V.int 0), (("reserve" : Str), V.int res)])) := fun a o h e => (upd_ne h).trans e
    have t1 : upd F0 t (.ins (He.ga K "State") dx [(("fees" : Str), V.int 0), (("reserve" : Str), V.int res)]) t = _ := upd_same
    have bes2 : Beside t H _ := fun a o h e => b1 a o h (bes1 a o h e)
    generalize upd F0 t (.ins (He.ga K "State") dx [(("fees" : Str), V.int 0), (("reserve" : Str), V.int res)]) = F1 at *
    have bes2_free : ∀ {x : Addr}, F1 x = none → H x = none := fun {x} hx => by
      cases q : H x with
      | none => rfl
      | some o =>
        by_cases e : x = t
        · subst e; rw [t1] at hx; cases hx
        · have := bes2 x o e q; rw [hx] at this; cases this
    clear bes1 t0 b1
    refine Rd.seq (Rb.sfld ?_)
    walk_at "rn"
    refine ⟨t, _, dx, _, rfl, t1, cfc_State, cfn_State_treasury, by show 2 < 1000; decide, ?_⟩
    rw [show putF (Str.ofString "treasury") (V.int 0) [(("fees" : Str), V.int 0), (("reserve" : Str), V.int res)] = [(("fees" : Str), V.int 0), (("reserve" : Str), V.int res), (("treasury" : Str), V.int 0)] from rfl]
    have b2 : Beside t F1 (upd F1 t (.ins (He.ga K "State") dx [(("fees" : Str), V.int 0), (("reserve" : Str), V.int res), (("treasury" : Str), V.int 0)])) := fun a o h e => (upd_ne h).trans e
    have t2 : upd F1 t (.ins (He.ga K "State") dx [(("fees" : Str), V.int 0), (("reserve" : Str), V.int res), (("treasury" : Str), V.int 0)]) t = _ := upd_same
    have bes3 : Beside t H _ := fun a o h e => b2 a o h (bes2 a o h e)
    generalize upd F1 t (.ins (He.ga K "State") dx [(("fees" : Str), V.int 0), (("reserve" : Str), V.int res), (("treasury" : Str), V.int 0)]) = F2 at *
    have bes3_free : ∀ {x : Addr}, F2 x = none → H x = none := fun {x} hx => by
      cases q : H x with
      | none => rfl
      | some o =>
        by_cases e : x = t
        · subst e; rw [t2] at hx; cases hx
        · have := bes3 x o e q; rw [hx] at this; cases this
    clear bes2 t1 b2
    refine Rd.seq (Rb.sfld ?_)
    walk_at "rn"
    refine ⟨t, _, dx, _, rfl, t2, cfc_State, cfn_State_slot, by show 3 < 1000; decide, ?_⟩
    rw [show putF (Str.ofString "slot") (V.int 0) [(("fees" : Str), V.int 0), (("reserve" : Str), V.int res), (("treasury" : Str), V.int 0)] = [(("fees" : Str), V.int 0), (("reserve" : Str), V.int res), (("treasury" : Str), V.int 0), (("slot" : Str), V.int 0)] from rfl]
    have b3 : Beside t F2 (upd F2 t (.ins (He.ga K "State") dx [(("fees" : Str), V.int 0), (("reserve" : Str), V.int res), (("treasury" : Str), V.int 0), (("slot" : Str), V.int 0)])) := fun a o h e => (upd_ne h).trans e
    have t3 : upd F2 t (.ins (He.ga K "State") dx [(("fees" : Str), V.int 0), (("reserve" : Str), V.int res), (("treasury" : Str), V.int 0), (("slot" : Str), V.int 0)]) t = _ := upd_same
    have bes4 : Beside t H _ := fun a o h e => b3 a o h (bes3 a o h e)
    generalize upd F2 t (.ins (He.ga K "State") dx [(("fees" : Str), V.int 0), (("reserve" : Str), V.int res), (("treasury" : Str), V.int 0), (("slot" : Str), V.int 0)]) = F3 at *
    have bes4_free : ∀ {x : Addr}, F3 x = none → H x = none := fun {x} hx => by
      cases q : H x with
      | none => rfl
      | some o =>
        by_cases e : x = t
        · subst e; rw [t3] at hx; cases hx
        · have := bes4 x o e q; rw [hx] at this; cases this
    clear bes3 t2 b3
    refine Rd.seq (Rb.sfld ?_)
    walk_at "rn"
    refine ⟨t, _, dx, _, rfl, t3, cfc_State, cfn_State_epoch, by show 4 < 1000; decide, ?_⟩
    rw [show putF (Str.ofString "epoch") (V.int 0) [(("fees" : Str), V.int 0), (("reserve" : Str), V.int res), (("treasury" : Str), V.int 0), (("slot" : Str), V.int 0)] = [(("fees" : Str), V.int 0), (("reserve" : Str), V.int res), (("treasury" : Str), V.int 0), (("slot" : Str), V.int 0), (("epoch" : Str), V.int 0)] from rfl]
    have b4 : Beside t F3 (upd F3 t (.ins (He.ga K "State") dx [(("fees" : Str), V.int 0), (("reserve" : Str), V.int res), (("treasury" : Str), V.int 0), (("slot" : Str), V.int 0), (("epoch" : Str), V.int 0)])) := fun a o h e => (upd_ne h).trans e
    have t4 : upd F3 t (.ins (He.ga K "State") dx [(("fees" : Str), V.int 0), (("reserve" : Str), V.int res), (("treasury" : Str), V.int 0), (("slot" : Str), V.int 0), (("epoch" : Str), V.int 0)]) t = _ := upd_same
    have bes5 : Beside t H _ := fun a o h e => b4 a o h (bes4 a o h e)
    generalize upd F3 t (.ins (He.ga K "State") dx [(("fees" : Str), V.int 0), (("reserve" : Str), V.int res), (("treasury" : Str), V.int 0), (("slot" : Str), V.int 0), (("epoch" : Str), V.int 0)]) = F4 at *
    have bes5_free : ∀ {x : Addr}, F4 x = none → H x = none := fun {x} hx => by
      cases q : H x with
      | none => rfl
      | some o =>
        by_cases e : x = t
        · subst e; rw [t4] at hx; cases hx
        · have := bes5 x o e q; rw [hx] at this; cases this
    clear bes4 t3 b4
    refine Rd.seq (Rb.sfld ?_)
    walk_at "rn"
    refine mkBk fun G5 b d s5 hbn hdn hBk => ?_
    obtain ⟨bdx, bkv, hbb, hbd, _, _, hbp⟩ := hBk
    cases hbp
    obtain ⟨_, bxs, hbd, hbr⟩ := hbd
    cases hbr
    have n_b : b ≠ t := fun e => by subst e; rw [hbn] at t4; cases t4
    have n_d : d ≠ t := fun e => by subst e; rw [hdn] at t4; cases t4
    have n_bd : b ≠ d := fun e => ins_dX hbb (by rw [e]; exact hbd)
    have h0_b := bes5_free hbn
    have h0_d := bes5_free hdn
    replace t4 := s5 _ _ t4
    refine Rd.var rfl ⟨t, _, dx, _, rfl, t4, cfc_State, cfn_State_books, by show 5 < 1000; decide, ?_⟩
    rw [show putF (Str.ofString "books") (V.ref b) [(("fees" : Str), V.int 0), (("reserve" : Str), V.int res), (("treasury" : Str), V.int 0), (("slot" : Str), V.int 0), (("epoch" : Str), V.int 0)] = [(("fees" : Str), V.int 0), (("reserve" : Str), V.int res), (("treasury" : Str), V.int 0), (("slot" : Str), V.int 0), (("epoch" : Str), V.int 0), (("books" : Str), V.ref b)] from rfl]
    have b5 : Beside t G5 (upd G5 t (.ins (He.ga K "State") dx [(("fees" : Str), V.int 0), (("reserve" : Str), V.int res), (("treasury" : Str), V.int 0), (("slot" : Str), V.int 0), (("epoch" : Str), V.int 0), (("books" : Str), V.ref b)])) := fun a o h e => (upd_ne h).trans e
    have t5 : upd G5 t (.ins (He.ga K "State") dx [(("fees" : Str), V.int 0), (("reserve" : Str), V.int res), (("treasury" : Str), V.int 0), (("slot" : Str), V.int 0), (("epoch" : Str), V.int 0), (("books" : Str), V.ref b)]) t = _ := upd_same
    replace hbb := b5 _ _ n_b hbb
    replace hbd := b5 _ _ n_d hbd
    have bes6 : Beside t H _ := fun a o h e => b5 a o h (s5 _ _ (bes5 a o h e))
    generalize upd G5 t (.ins (He.ga K "State") dx [(("fees" : Str), V.int 0), (("reserve" : Str), V.int res), (("treasury" : Str), V.int 0), (("slot" : Str), V.int 0), (("epoch" : Str), V.int 0), (("books" : Str), V.ref b)]) = F5 at *
    have bes6_free : ∀ {x : Addr}, F5 x = none → H x = none := fun {x} hx => by
      cases q : H x with
      | none => rfl
      | some o =>
        by_cases e : x = t
        · subst e; rw [t5] at hx; cases hx
        · have := bes6 x o e q; rw [hx] at this; cases this
    clear bes5 t4 b5
    refine Rd.seq (Rb.sfld ?_)
    walk_at "rn"
    refine Re.dnewX fun od hn_od _ => ?_
    have s6 := Rd.same_new (o := dX P w od []) hn_od
    have n_od : od ≠ t := fun e => by subst e; rw [hn_od] at t5; cases t5
    have n_bod : b ≠ od := ne_of_none hbb hn_od
    have n_dod : d ≠ od := ne_of_none hbd hn_od
    have h0_od := bes6_free hn_od
    have h_od : upd F5 od (dX P w od []) od = some (dX P w od []) := upd_same
    replace hbb := s6 _ _ hbb
    replace hbd := s6 _ _ hbd
    generalize upd F5 od (dX P w od []) = G6 at *
    replace t5 := s6 _ _ t5
    refine Rd.var rfl ⟨t, _, dx, _, rfl, t5, cfc_State, cfn_State__outputs, by show 6 < 1000; decide, ?_⟩
    rw [show putF (Str.ofString "_outputs") (V.ref od) [(("fees" : Str), V.int 0), (("reserve" : Str), V.int res), (("treasury" : Str), V.int 0), (("slot" : Str), V.int 0), (("epoch" : Str), V.int 0), (("books" : Str), V.ref b)] = [(("fees" : Str), V.int 0), (("reserve" : Str), V.int res), (("treasury" : Str), V.int 0), (("slot" : Str), V.int 0), (("epoch" : Str), V.int 0), (("books" : Str), V.ref b), (("_outputs" : Str), V.ref od)] from rfl]
    have b6 : Beside t G6 (upd G6 t (.ins (He.ga K "State") dx [(("fees" : Str), V.int 0), (("reserve" : Str), V.int res), (("treasury" : Str), V.int 0), (("slot" : Str), V.int 0), (("epoch" : Str), V.int 0), (("books" : Str), V.ref b), (("_outputs" : Str), V.ref od)])) := fun a o h e => (upd_ne h).trans e
    have t6 : upd G6 t (.ins (He.ga K "State") dx [(("fees" : Str), V.int 0), (("reserve" : Str), V.int res), (("treasury" : Str), V.int 0), (("slot" : Str), V.int 0), (("epoch" : Str), V.int 0), (("books" : Str), V.ref b), (("_outputs" : Str), V.ref od)]) t = _ := upd_same
    replace hbb := b6 _ _ n_b hbb
    replace hbd := b6 _ _ n_d hbd
    replace h_od := b6 _ _ n_od h_od
    have bes7 : Beside t H _ := fun a o h e => b6 a o h (s6 _ _ (bes6 a o h e))
    generalize upd G6 t (.ins (He.ga K "State") dx [(("fees" : Str), V.int 0), (("reserve" : Str), V.int res), (("treasury" : Str), V.int 0), (("slot" : Str), V.int 0), (("epoch" : Str), V.int 0), (("books" : Str), V.ref b), (("_outputs" : Str), V.ref od)]) = F6 at *
    have bes7_free : ∀ {x : Addr}, F6 x = none → H x = none := fun {x} hx => by
      cases q : H x with
      | none => rfl
      | some o =>
        by_cases e : x = t
        · subst e; rw [t6] at hx; cases hx
        · have := bes7 x o e q; rw [hx] at this; cases this
    clear bes6 t5 b6
    refine Rd.seq (Rb.sfld ?_)
    walk_at "rn"
    refine fun ad hn_ad => ?_
    have s7 := Rd.same_new (o := .dK []) hn_ad
    have n_ad : ad ≠ t := fun e => by subst e; rw [hn_ad] at t6; cases t6
    have n_bad : b ≠ ad := ne_of_none hbb hn_ad
    have n_dad : d ≠ ad := ne_of_none hbd hn_ad
    have n_odad : od ≠ ad := ne_of_none h_od hn_ad
    have h0_ad := bes7_free hn_ad
    have h_ad : upd F6 ad (.dK []) ad = some (.dK []) := upd_same
    replace hbb := s7 _ _ hbb
    replace hbd := s7 _ _ hbd
    replace h_od := s7 _ _ h_od
    generalize upd F6 ad (.dK []) = G7 at *
    replace t6 := s7 _ _ t6
    refine Rd.var rfl ⟨t, _, dx, _, rfl, t6, cfc_State, cfn_State__accounts, by show 7 < 1000; decide, ?_⟩
    rw [show putF (Str.ofString "_accounts") (V.ref ad) [(("fees" : Str), V.int 0), (("reserve" : Str), V.int res), (("treasury" : Str), V.int 0), (("slot" : Str), V.int 0), (("epoch" : Str), V.int 0), (("books" : Str), V.ref b), (("_outputs" : Str), V.ref od)] = [(("fees" : Str), V.int 0), (("reserve" : Str), V.int res), (("treasury" : Str), V.int 0), (("slot" : Str), V.int 0), (("epoch" : Str), V.int 0), (("books" : Str), V.ref b), (("_outputs" : Str), V.ref od), (("_accounts" : Str), V.ref ad)] from rfl]
    have b7 : Beside t G7 (upd G7 t (.ins (He.ga K "State") dx [(("fees" : Str), V.int 0), (("reserve" : Str), V.int res), (("treasury" : Str), V.int 0), (("slot" : Str), V.int 0), (("epoch" : Str), V.int 0), (("books" : Str), V.ref b), (("_outputs" : Str), V.ref od), (("_accounts" : Str), V.ref ad)])) := fun a o h e => (upd_ne h).trans e
    have t7 : upd G7 t (.ins (He.ga K "State") dx [(("fees" : Str), V.int 0), (("reserve" : Str), V.int res), (("treasury" : Str), V.int 0), (("slot" : Str), V.int 0), (("epoch" : Str), V.int 0), (("books" : Str), V.ref b), (("_outputs" : Str), V.ref od), (("_accounts" : Str), V.ref ad)]) t = _ := upd_same
    replace hbb := b7 _ _ n_b hbb
    replace hbd := b7 _ _ n_d hbd
    replace h_od := b7 _ _ n_od h_od
    replace h_ad := b7 _ _ n_ad h_ad
    have bes8 : Beside t H _ := fun a o h e => b7 a o h (s7 _ _ (bes7 a o h e))
    generalize upd G7 t (.ins (He.ga K "State") dx [(("fees" : Str), V.int 0), (("reserve" : Str), V.int res), (("treasury" : Str), V.int 0), (("slot" : Str), V.int 0), (("epoch" : Str), V.int 0), (("books" : Str), V.ref b), (("_outputs" : Str), V.ref od), (("_accounts" : Str), V.ref ad)]) = F7 at *
    have bes8_free : ∀ {x : Addr}, F7 x = none → H x = none := fun {x} hx => by
      cases q : H x with
      | none => rfl
      | some o =>
        by_cases e : x = t
        · subst e; rw [t7] at hx; cases hx
        · have := bes8 x o e q; rw [hx] at this; cases this
    clear bes7 t6 b7
    refine Rd.seq (Rb.sfld ?_)
    walk_at "rn"
    rename_i sk hn_sk
    have s8 := Rd.same_new (o := .tup []) hn_sk
    have n_sk : sk ≠ t := fun e => by subst e; rw [hn_sk] at t7; cases t7
    have n_bsk : b ≠ sk := ne_of_none hbb hn_sk
    have n_dsk : d ≠ sk := ne_of_none hbd hn_sk
    have n_odsk : od ≠ sk := ne_of_none h_od hn_sk
    have n_adsk : ad ≠ sk := ne_of_none h_ad hn_sk
    have h0_sk := bes8_free hn_sk
    have h_sk : upd F7 sk (.tup []) sk = some (.tup []) := upd_same
    replace hbb := s8 _ _ hbb
    replace hbd := s8 _ _ hbd
    replace h_od := s8 _ _ h_od
    replace h_ad := s8 _ _ h_ad
    generalize upd F7 sk (.tup []) = G8 at *
    replace t7 := s8 _ _ t7
    refine ⟨t, _, dx, _, rfl, t7, cfc_State, cfn_State__stakes, by show 8 < 1000; decide, ?_⟩
    rw [show putF (Str.ofString "_stakes") (V.ref sk) [(("fees" : Str), V.int 0), (("reserve" : Str), V.int res), (("treasury" : Str), V.int 0), (("slot" : Str), V.int 0), (("epoch" : Str), V.int 0), (("books" : Str), V.ref b), (("_outputs" : Str), V.ref od), (("_accounts" : Str), V.ref ad)] = [(("fees" : Str), V.int 0), (("reserve" : Str), V.int res), (("treasury" : Str), V.int 0), (("slot" : Str), V.int 0), (("epoch" : Str), V.int 0), (("books" : Str), V.ref b), (("_outputs" : Str), V.ref od), (("_accounts" : Str), V.ref ad), (("_stakes" : Str), V.ref sk)] from rfl]
    have b8 : Beside t G8 (upd G8 t (.ins (He.ga K "State") dx [(("fees" : Str), V.int 0), (("reserve" : Str), V.int res), (("treasury" : Str), V.int 0), (("slot" : Str), V.int 0), (("epoch" : Str), V.int 0), (("books" : Str), V.ref b), (("_outputs" : Str), V.ref od), (("_accounts" : Str), V.ref ad), (("_stakes" : Str), V.ref sk)])) := fun a o h e => (upd_ne h).trans e
    have t8 : upd G8 t (.ins (He.ga K "State") dx [(("fees" : Str), V.int 0), (("reserve" : Str), V.int res), (("treasury" : Str), V.int 0), (("slot" : Str), V.int 0), (("epoch" : Str), V.int 0), (("books" : Str), V.ref b), (("_outputs" : Str), V.ref od), (("_accounts" : Str), V.ref ad), (("_stakes" : Str), V.ref sk)]) t = _ := upd_same
    replace hbb := b8 _ _ n_b hbb
    replace hbd := b8 _ _ n_d hbd
    replace h_od := b8 _ _ n_od h_od
    replace h_ad := b8 _ _ n_ad h_ad
    replace h_sk := b8 _ _ n_sk h_sk
    have bes9 : Beside t H _ := fun a o h e => b8 a o h (s8 _ _ (bes8 a o h e))
    generalize upd G8 t (.ins (He.ga K "State") dx [(("fees" : Str), V.int 0), (("reserve" : Str), V.int res), (("treasury" : Str), V.int 0), (("slot" : Str), V.int 0), (("epoch" : Str), V.int 0), (("books" : Str), V.ref b), (("_outputs" : Str), V.ref od), (("_accounts" : Str), V.ref ad), (("_stakes" : Str), V.ref sk)]) = F8 at *
    have bes9_free : ∀ {x : Addr}, F8 x = none → H x = none := fun {x} hx => by
      cases q : H x with
      | none => rfl
      | some o =>
        by_cases e : x = t
        · subst e; rw [t8] at hx; cases hx
        · have := bes9 x o e q; rw [hx] at this; cases this
    clear bes8 t7 b8
    refine Rd.seq (Rb.sfld ?_)
    walk_at "rn"
    refine fun ud hn_ud => ?_
    have s9 := Rd.same_new (o := .dK []) hn_ud
    have n_ud : ud ≠ t := fun e => by subst e; rw [hn_ud] at t8; cases t8
    have n_bud : b ≠ ud := ne_of_none hbb hn_ud
    have n_dud : d ≠ ud := ne_of_none hbd hn_ud
    have n_odud : od ≠ ud := ne_of_none h_od hn_ud
    have n_adud : ad ≠ ud := ne_of_none h_ad hn_ud
    have n_skud : sk ≠ ud := ne_of_none h_sk hn_ud
    have h0_ud := bes9_free hn_ud
    have h_ud : upd F8 ud (.dK []) ud = some (.dK []) := upd_same
    replace hbb := s9 _ _ hbb
    replace hbd := s9 _ _ hbd
    replace h_od := s9 _ _ h_od
    replace h_ad := s9 _ _ h_ad
    replace h_sk := s9 _ _ h_sk
    generalize upd F8 ud (.dK []) = G9 at *
    replace t8 := s9 _ _ t8
    refine Rd.var rfl ⟨t, _, dx, _, rfl, t8, cfc_State, cfn_State__used, by show 9 < 1000; decide, ?_⟩
    rw [show putF (Str.ofString "_used") (V.ref ud) [(("fees" : Str), V.int 0), (("reserve" : Str), V.int res), (("treasury" : Str), V.int 0), (("slot" : Str), V.int 0), (("epoch" : Str), V.int 0), (("books" : Str), V.ref b), (("_outputs" : Str), V.ref od), (("_accounts" : Str), V.ref ad), (("_stakes" : Str), V.ref sk)] = [(("fees" : Str), V.int 0), (("reserve" : Str), V.int res), (("treasury" : Str), V.int 0), (("slot" : Str), V.int 0), (("epoch" : Str), V.int 0), (("books" : Str), V.ref b), (("_outputs" : Str), V.ref od), (("_accounts" : Str), V.ref ad), (("_stakes" : Str), V.ref sk), (("_used" : Str), V.ref ud)] from rfl]
    have b9 : Beside t G9 (upd G9 t (.ins (He.ga K "State") dx [(("fees" : Str), V.int 0), (("reserve" : Str), V.int res), (("treasury" : Str), V.int 0), (("slot" : Str), V.int 0), (("epoch" : Str), V.int 0), (("books" : Str), V.ref b), (("_outputs" : Str), V.ref od), (("_accounts" : Str), V.ref ad), (("_stakes" : Str), V.ref sk), (("_used" : Str), V.ref ud)])) := fun a o h e => (upd_ne h).trans e
    have t9 : upd G9 t (.ins (He.ga K "State") dx [(("fees" : Str), V.int 0), (("reserve" : Str), V.int res), (("treasury" : Str), V.int 0), (("slot" : Str), V.int 0), (("epoch" : Str), V.int 0), (("books" : Str), V.ref b), (("_outputs" : Str), V.ref od), (("_accounts" : Str), V.ref ad), (("_stakes" : Str), V.ref sk), (("_used" : Str), V.ref ud)]) t = _ := upd_same
    replace hbb := b9 _ _ n_b hbb
    replace hbd := b9 _ _ n_d hbd
    replace h_od := b9 _ _ n_od h_od
    replace h_ad := b9 _ _ n_ad h_ad
    replace h_sk := b9 _ _ n_sk h_sk
    replace h_ud := b9 _ _ n_ud h_ud
    have bes10 : Beside t H _ := fun a o h e => b9 a o h (s9 _ _ (bes9 a o h e))
    generalize upd G9 t (.ins (He.ga K "State") dx [(("fees" : Str), V.int 0), (("reserve" : Str), V.int res), (("treasury" : Str), V.int 0), (("slot" : Str), V.int 0), (("epoch" : Str), V.int 0), (("books" : Str), V.ref b), (("_outputs" : Str), V.ref od), (("_accounts" : Str), V.ref ad), (("_stakes" : Str), V.ref sk), (("_used" : Str), V.ref ud)]) = F9 at *
    have bes10_free : ∀ {x : Addr}, F9 x = none → H x = none := fun {x} hx => by
      cases q : H x with
      | none => rfl
      | some o =>
        by_cases e : x = t
        · subst e; rw [t9] at hx; cases hx
        · have := bes10 x o e q; rw [hx] at this; cases this
    clear bes9 t8 b9
    refine Rd.seq (Rb.sfld ?_)
    walk_at "rn"
    rename_i cl hn_cl
    have s10 := Rd.same_new (o := .lst []) hn_cl
    have n_cl : cl ≠ t := fun e => by subst e; rw [hn_cl] at t9; cases t9
    have n_bcl : b ≠ cl := ne_of_none hbb hn_cl
    have n_dcl : d ≠ cl := ne_of_none hbd hn_cl
    have n_odcl : od ≠ cl := ne_of_none h_od hn_cl
    have n_adcl : ad ≠ cl := ne_of_none h_ad hn_cl
    have n_skcl : sk ≠ cl := ne_of_none h_sk hn_cl
    have n_udcl : ud ≠ cl := ne_of_none h_ud hn_cl
    have h0_cl := bes10_free hn_cl
    have h_cl : upd F9 cl (.lst []) cl = some (.lst []) := upd_same
    replace hbb := s10 _ _ hbb
    replace hbd := s10 _ _ hbd
    replace h_od := s10 _ _ h_od
    replace h_ad := s10 _ _ h_ad
    replace h_sk := s10 _ _ h_sk
    replace h_ud := s10 _ _ h_ud
    generalize upd F9 cl (.lst []) = G10 at *
    replace t9 := s10 _ _ t9
    refine ⟨t, _, dx, _, rfl, t9, cfc_State, cfn_State__changes, by show 10 < 1000; decide, ?_⟩
    rw [show putF (Str.ofString "_changes") (V.ref cl) [(("fees" : Str), V.int 0), (("reserve" : Str), V.int res), (("treasury" : Str), V.int 0), (("slot" : Str), V.int 0), (("epoch" : Str), V.int 0), (("books" : Str), V.ref b), (("_outputs" : Str), V.ref od), (("_accounts" : Str), V.ref ad), (("_stakes" : Str), V.ref sk), (("_used" : Str), V.ref ud)] = [(("fees" : Str), V.int 0), (("reserve" : Str), V.int res), (("treasury" : Str), V.int 0), (("slot" : Str), V.int 0), (("epoch" : Str), V.int 0), (("books" : Str), V.ref b), (("_outputs" : Str), V.ref od), (("_accounts" : Str), V.ref ad), (("_stakes" : Str), V.ref sk), (("_used" : Str), V.ref ud), (("_changes" : Str), V.ref cl)] from rfl]
    have b10 : Beside t G10 (upd G10 t (.ins (He.ga K "State") dx [(("fees" : Str), V.int 0), (("reserve" : Str), V.int res), (("treasury" : Str), V.int 0), (("slot" : Str), V.int 0), (("epoch" : Str), V.int 0), (("books" : Str), V.ref b), (("_outputs" : Str), V.ref od), (("_accounts" : Str), V.ref ad), (("_stakes" : Str), V.ref sk), (("_used" : Str), V.ref ud), (("_changes" : Str), V.ref cl)])) := fun a o h e => (upd_ne h).trans e
    have t10 : upd G10 t (.ins (He.ga K "State") dx [(("fees" : Str), V.int 0), (("reserve" : Str), V.int res), (("treasury" : Str), V.int 0), (("slot" : Str), V.int 0), (("epoch" : Str), V.int 0), (("books" : Str), V.ref b), (("_outputs" : Str), V.ref od), (("_accounts" : Str), V.ref ad), (("_stakes" : Str), V.ref sk), (("_used" : Str), V.ref ud), (("_changes" : Str), V.ref cl)]) t = _ := upd_same
    replace hbb := b10 _ _ n_b hbb
    replace hbd := b10 _ _ n_d hbd
    replace h_od := b10 _ _ n_od h_od
    replace h_ad := b10 _ _ n_ad h_ad
    replace h_sk := b10 _ _ n_sk h_sk
    replace h_ud := b10 _ _ n_ud h_ud
    replace h_cl := b10 _ _ n_cl h_cl
    have bes11 : Beside t H _ := fun a o h e => b10 a o h (s10 _ _ (bes10 a o h e))
    generalize upd G10 t (.ins (He.ga K "State") dx [(("fees" : Str), V.int 0), (("reserve" : Str), V.int res), (("treasury" : Str), V.int 0), (("slot" : Str), V.int 0), (("epoch" : Str), V.int 0), (("books" : Str), V.ref b), (("_outputs" : Str), V.ref od), (("_accounts" : Str), V.ref ad), (("_stakes" : Str), V.ref sk), (("_used" : Str), V.ref ud), (("_changes" : Str), V.ref cl)]) = F10 at *
    have bes11_free : ∀ {x : Addr}, F10 x = none → H x = none := fun {x} hx => by
      cases q : H x with
      | none => rfl
      | some o =>
        by_cases e : x = t
        · subst e; rw [t10] at hx; cases hx
        · have := bes11 x o e q; rw [hx] at this; cases this
    clear bes10 t9 b10
    refine Rd.seq (Rb.sfld ?_)
    walk_at "rn"
    refine ⟨t, _, dx, _, rfl, t10, cfc_State, cfn_State__forgotten, by show 11 < 1000; decide, ?_⟩
    rw [show putF (Str.ofString "_forgotten") (V.int 0) [(("fees" : Str), V.int 0), (("reserve" : Str), V.int res), (("treasury" : Str), V.int 0), (("slot" : Str), V.int 0), (("epoch" : Str), V.int 0), (("books" : Str), V.ref b), (("_outputs" : Str), V.ref od), (("_accounts" : Str), V.ref ad), (("_stakes" : Str), V.ref sk), (("_used" : Str), V.ref ud), (("_changes" : Str), V.ref cl)] = [(("fees" : Str), V.int 0), (("reserve" : Str), V.int res), (("treasury" : Str), V.int 0), (("slot" : Str), V.int 0), (("epoch" : Str), V.int 0), (("books" : Str), V.ref b), (("_outputs" : Str), V.ref od), (("_accounts" : Str), V.ref ad), (("_stakes" : Str), V.ref sk), (("_used" : Str), V.ref ud), (("_changes" : Str), V.ref cl), (("_forgotten" : Str), V.int 0)] from rfl]
    have b11 : Beside t F10 (upd F10 t (.ins (He.ga K "State") dx [(("fees" : Str), V.int 0), (("reserve" : Str), V.int res), (("treasury" : Str), V.int 0), (("slot" : Str), V.int 0), (("epoch" : Str), V.int 0), (("books" : Str), V.ref b), (("_outputs" : Str), V.ref od), (("_accounts" : Str), V.ref ad), (("_stakes" : Str), V.ref sk), (("_used" : Str), V.ref ud), (("_changes" : Str), V.ref cl), (("_forgotten" : Str), V.int 0)])) := fun a o h e => (upd_ne h).trans e
    have t11 : upd F10 t (.ins (He.ga K "State") dx [(("fees" : Str), V.int 0), (("reserve" : Str), V.int res), (("treasury" : Str), V.int 0), (("slot" : Str), V.int 0), (("epoch" : Str), V.int 0), (("books" : Str), V.ref b), (("_outputs" : Str), V.ref od), (("_accounts" : Str), V.ref ad), (("_stakes" : Str), V.ref sk), (("_used" : Str), V.ref ud), (("_changes" : Str), V.ref cl), (("_forgotten" : Str), V.int 0)]) t = _ := upd_same
    replace hbb := b11 _ _ n_b hbb
    replace hbd := b11 _ _ n_d hbd
    replace h_od := b11 _ _ n_od h_od
    replace h_ad := b11 _ _ n_ad h_ad
    replace h_sk := b11 _ _ n_sk h_sk
    replace h_ud := b11 _ _ n_ud h_ud
    replace h_cl := b11 _ _ n_cl h_cl
    have bes12 : Beside t H _ := fun a o h e => b11 a o h (bes11 a o h e)
    generalize upd F10 t (.ins (He.ga K "State") dx [(("fees" : Str), V.int 0), (("reserve" : Str), V.int res), (("treasury" : Str), V.int 0), (("slot" : Str), V.int 0), (("epoch" : Str), V.int 0), (("books" : Str), V.ref b), (("_outputs" : Str), V.ref od), (("_accounts" : Str), V.ref ad), (("_stakes" : Str), V.ref sk), (("_used" : Str), V.ref ud), (("_changes" : Str), V.ref cl), (("_forgotten" : Str), V.int 0)]) = F11 at *
    have bes12_free : ∀ {x : Addr}, F11 x = none → H x = none := fun {x} hx => by
      cases q : H x with
      | none => rfl
      | some o =>
        by_cases e : x = t
        · subst e; rw [t11] at hx; cases hx
        · have := bes12 x o e q; rw [hx] at this; cases this
    clear bes11 t10 b11
    have L0 : StAt P w K F11 ⟨t, dx, b, od, ad, ud, cl, d, [], sk, []⟩ { stZ G res with outs := (stZ G res).outs.take 0, n := 0 } [] := {
      nd := by
        simp only [SA.O, List.nodup_cons, List.mem_cons, List.not_mem_nil, or_false, not_or, not_false_eq_true, List.nodup_nil, and_true]
        exact ⟨⟨n_b.symm, n_od.symm, n_ad.symm, n_ud.symm, n_cl.symm, n_d.symm⟩, ⟨n_bod, n_bad, n_bud, n_bcl, n_bd⟩, ⟨n_odad, n_odud, n_odcl, n_dod.symm⟩, ⟨n_adud, n_adcl, n_dad.symm⟩, ⟨n_udcl, n_dud.symm⟩, n_dcl.symm⟩
      t := t11
      bk := ⟨bdx, [], hbb, ⟨Nat.zero_le _, [], hbd, .nil⟩, rfl, by simp, Paired.nil⟩
      bm := BM.nil
      lb := Nat.zero_le _
      lo := Nat.zero_le _
      od := ⟨[], ⟨Nat.zero_le _, [], h_od, .nil⟩, Paired.nil⟩
      ond := List.nodup_nil
      ad := ⟨[], h_ad, Paired.nil⟩
      and_ := List.nodup_nil
      sk := ⟨[], SqT.of h_sk, .nil⟩
      ud := h_ud
      und := List.nodup_nil
      cl := ⟨[], h_cl, Paired.nil⟩
      zl := fun _ h => by cases h }
    have O0 : ∀ x ∈ (⟨t, dx, b, od, ad, ud, cl, d, [], sk, []⟩ : SA).O, x = t ∨ H x = none := fun x hx => by
      simp only [SA.O, List.mem_cons, List.not_mem_nil, or_false] at hx
      rcases hx with rfl | rfl | rfl | rfl | rfl | rfl | rfl
      · exact .inl rfl
      · exact .inr h0_b
      · exact .inr h0_od
      · exact .inr h0_ad
      · exact .inr h0_ud
      · exact .inr h0_cl
      · exact .inr h0_d
    have hxl : xs.length = G.length := by have := Rd.dpAll_len hX; rwa [List.length_map] at this
    clear hbb hbd h_od h_ad h_sk h_ud h_cl t11 n_b n_d n_bd n_od n_bod n_dod n_ad n_bad n_dad n_odad n_ud n_bud n_dud n_odud n_adud n_skud n_cl n_bcl n_dcl n_odcl n_adcl n_udcl
    walk_at "rn"
    refine Re.forEn (fun i σ' H' => ∃ A B, ∃ c3 c4 c5,  σ' = [some (.ref t), some (.ref a), some (.int res), c3, c4, c5] ∧ A.t = t ∧ Beside t H H' ∧ (∀ x ∈ A.O, x = t ∨ H x = none) ∧ StAt P w K H' A { stZ G res with outs := (stZ G res).outs.take i, n := i } B) (bes12.sqL hb hx) ⟨_, _, _, _, _,  rfl, rfl, bes12, O0, L0⟩ (fun i σ' H' _ ⟨_, _, c3, c4, c5,  _, _, h, _⟩ => h.sqL hb hx) ?_ ?_
    · rintro i x σ' H1 T hi ⟨A, B, c3, c4, c5,  rfl, hA, bs, hO, L⟩ hT
      obtain ⟨g0, hg0, hdp⟩ := dpAll_at hX hi
      obtain ⟨g, hg, rfl⟩ := map_at hg0
      obtain ⟨z, rfl, hz0⟩ := dpRef hdp
      have hz := bs.sqT hb hz0
      have hg2 : 0 < g.2 := hG g (List.mem_of_getElem? hg)
      have sT := Rd.same_new (o := .tup [.int (i : Int), .ref z]) hT
      have L1 := L.keep sT
      have hiG : i < G.length := (List.getElem?_eq_some_iff.mp hg).1
      refine Re.enp (SqT.of upd_same) (Rd.same_tup sT hz) ?_
      generalize upd H1 T (.tup [.int (i : Int), .ref z]) = H2 at *
      walk_at "rn"
      rename_i r1 hr1 q1 hq1
      have s3 := (Rd.same_new (o := .tup [V.int 0, V.int (i : Int)]) hr1).trans (Rd.same_new (o := .tup [V.str (Rd.S [107, 101, 121]), V.int g.1]) hq1)
      refine ⟨_, rfl, fun H3 cb N3 s4 hc3 nm3 tt3 bd3 => ?_⟩
      obtain ⟨bxs, hown, hbrows⟩ := BdS.own bd3
      have hq2 : SqT K H3 q1 (([Sum.inr (Rd.S [107, 101, 121]), Sum.inl g.1] : List Key).map kV) := Rd.same_tup s4 (SqT.of upd_same)
      have hr2 : SqT K H3 r1 [.int ((0 : Int), (i : Int)).1, .int ((0 : Int), (i : Int)).2] := Rd.same_tup s4 (SqT.of (Rd.nh hq1 upd_same))
      have L3 := L1.keep (s3.trans s4)
      walk_at "rn"
      refine mkOn (ws := ([] : List Int).map V.int) hq2 (.inr hown) hbrows (Nat.le_trans (nm3.len tt3) (by show 1 ≤ 1000; decide)) (.inr (h_dflO _)) fun H4 ob odx c dd N s5 hob hc hOb nm tt bd hw hfr => ?_
      have eN : N = [((Rd.S [], 0), g.2)] := nm.uniq (nrm1 hg2) fun p => (tt p).trans (tt3 p)
      subst eN
      have L4 := L3.keep s5
      have ou := OuAt.new L3 hob hc hfr hOb (Rd.same_tup s5 hq2) bd hw
      have hno : ((0 : Int), (i : Int)) ∉ ((stZ G res).outs.take i).map (·.1) := fun q => by
        have nd := ((List.take_sublist (i + 1) (stZ G res).outs).map (·.1)).nodup mapIdx_nd
        rw [show (stZ G res).outs.take (i + 1) = _ from mapIdx_take hg, List.map_append, List.nodup_append] at nd
        exact nd.2.2 _ q _ (List.mem_singleton.mpr rfl) rfl
      have hlb := L.lb
      have hlo := L.lo
      walk_at "rn"
      refine ⟨A, _, B, r1, ((0 : Int), (i : Int)), .ref ob, some ⟨[Sum.inr (Rd.S [107, 101, 121]), Sum.inl g.1], [((Rd.S [], 0), g.2)], []⟩, by rw [hA], L4.upto (m := i + 1) (Nat.le_succ i), Rd.same_tup s5 hr2, .inr ⟨_, rfl, ou, hno, by show 1 ≤ 3; decide⟩, ⟨Nat.succ_le_succ hlb, Nat.succ_le_succ hlo, by show i + 1 ≤ 300; omega⟩, fun H5 ds' B' fr hds L5 => ?_⟩
      have sA := sT.trans ((s3.trans s4).trans s5)
      have fin : ∀ x ∈ ({ A with ds := ds' } : SA).O, x = t ∨ H x = none := fun x hx => by
        have : x ∈ A.O ∨ H4 x = none := by
          simp only [SA.O, List.mem_cons] at hx ⊢
          rcases hx with hx | hx | hx | hx | hx | hx | hx | hx
          · simp [hx]
          · simp [hx]
          · simp [hx]
          · simp [hx]
          · simp [hx]
          · simp [hx]
          · simp [hx]
          · exact (hds x hx).imp (fun z => by simp [z]) id
        refine this.elim (hO x) fun z => ?_
        cases q : H x with
        | none => exact .inr rfl
        | some o =>
          by_cases e : x = t
          · exact .inl e
          · have := sA _ _ (bs x o e q); rw [z] at this; cases this
      refine ⟨{ A with ds := ds' }, B', _, _, _,  rfl, hA, fun a o h e => fr.keep a o (fun q => (hO a q).elim h fun z => by rw [z] at e; cases e) (sA _ _ (bs a o h e)), fin, ?_⟩
      rw [show (stZ G res).outs.take (i + 1) = _ from mapIdx_take hg]
      exact L5
    rintro σ' H' ⟨A, B, c3, c4, c5,  rfl, hA, bs, hO, L⟩
    rw [hxl, show (stZ G res).outs.take G.length = (stZ G res).outs from List.take_of_length_le (by show (G.mapIdx _).length ≤ _; rw [List.length_mapIdx]; exact Nat.le_refl _)] at L
    exact k H' A B hA bs hO L
theorem ok_State___init {fd : FuncData} (F : FunD K "__init__" "State.__init__" (defArgs s_State___init) (defBody s_State___init) (defScope s_State___init) [] [] (He.fAd K ("State", some "__init__")) fd) (C_Books___init : CalM P w K mg base (He.fAd K ("Books", some "__init__")) 1 ["self"] [] (sp_Books___init P w K)) (C_put_output : Cal P w K mg base "_put_output" 2 ["state", "ref", "output"] (sp_put_output P w K)) (C_Output___init : CalM P w K mg base (He.fAd K ("Output", some "__init__")) 4 ["self", "address", "bundle", "datum"] [V.ref (He.dflAt ("Output", some "__init__") 0 K)] (sp_Output___init P w K)) (C_Bundle_of_coin : CalM P w K mg base (Bd.sAd K "Bundle" "of_coin") 4 ["quantity"] [] (sp_Bundle_of_coin P w K)) (z_enumerate : mg "enumerate" = none) (W_State : CF_State K mg) (W_Books : CF_Books K mg) (W_DFL : DflF K) (W_Output : CF_Output K mg) (W_Bundle : CF_Bundle K mg) : CalM P w K mg base (He.fAd K ("State", some "__init__")) 6 ["self", "grants", "reserve"] [] (sp_State___init P w K) :=
  ⟨fd, F.bindsN fun _ _ _ _ _ _ us hl => match us, hl with | [_, _, _], _ => rfl, fn_State___init F C_Books___init C_put_output C_Output___init C_Bundle_of_coin z_enumerate W_State W_Books W_DFL W_Output W_Bundle, [], .nil, F.bindsN fun _ _ _ _ _ _ us hl => match us, hl with | [_, _, _], _ => rfl⟩

theorem fn_law_outputs_step {f : Addr} {fd : FuncData} (F : FnP K "_law_outputs_step" s_law_outputs_step f fd) (C_law_output : Cal P w K mg base "_law_output" 1 ["numbers", "at"] (sp_law_output P w K)) (C_State_add_output : CalMX P w K mg base (He.fAd K ("State", some "add_output")) 4 ["self", "ref", "output"] [] (sp_State_add_output P w K)) (C_Output___init : CalM P w K mg base (He.fAd K ("Output", some "__init__")) 4 ["self", "address", "bundle", "datum"] [V.ref (He.dflAt ("Output", some "__init__") 0 K)] (sp_Output___init P w K)) (C_State_remove_output : CalMX P w K mg base (He.fAd K ("State", some "remove_output")) 4 ["self", "ref"] [] (sp_State_remove_output P w K)) (C_Output_picture : CalM P w K mg base (He.fAd K ("Output", some "picture")) 1 ["self"] [] (sp_Output_picture P w K)) (z_sorted : mg "sorted" = none) (z_list : mg "list" = none) (z_len : mg "len" = none) (z_isinstance : mg "isinstance" = none) (z_int : mg "int" = none) (W_errs : StErr EN_ K mg) (W_State : CF_State K mg) (W_Output : CF_Output K mg) : FnOk P w K mg base CX0 6 f fd ["state", "model", "numbers"] (sp_law_outputs_step P w K) := by
  obtain ⟨f_law_output, fd_law_output, m_law_output, k_law_output, b_law_output, G_law_output⟩ := C_law_output.ex
  obtain ⟨fd_State_add_output, b_State_add_output, G_State_add_output, ds_State_add_output, dr_State_add_output, db_State_add_output⟩ := C_State_add_output.ex
  obtain ⟨fd_Output___init, b_Output___init, G_Output___init, ds_Output___init, dr_Output___init, db_Output___init⟩ := C_Output___init.ex
  obtain ⟨fd_State_remove_output, b_State_remove_output, G_State_remove_output, ds_State_remove_output, dr_State_remove_output, db_State_remove_output⟩ := C_State_remove_output.ex
  obtain ⟨fd_Output_picture, b_Output_picture, G_Output_picture, ds_Output_picture, dr_Output_picture, db_Output_picture⟩ := C_Output_picture.ex
  have We := W_errs
  have cf_State := W_State
  have cfc_State := cf_State.cls
  have cf_Output := W_Output
  have cfc_Output := cf_Output.cls
  refine F.ok sc_law_outputs_step (fun vs H Q E h => ?_) (fun cdv A outer s H vs Q E hr h => ?_)
  · obtain ⟨A, S, M, B, D, b, ns, rfl, _⟩ := h; rfl
  · obtain ⟨A, S, M, B, D, b, ns, rfl, hL, hb, hn, k⟩ := h
    refine ⟨_, PSs.nox (pss_cons (ps_set (i := 3) sc_law_outputs_step.nd rfl (by first | exact Or.inl rfl | exact Or.inr rfl) (pe_tup (pa_cons (pe_op op_mod (pe_ix ix_list (pv 2) pe_int (fun _ _ => rfl)) pe_int) (pa_cons (pe_op op_mod (pe_ix ix_list (pv 2) pe_int (fun _ _ => rfl)) pe_int) pa_nil))))
      (pss_cons (ps_set (i := 4) sc_law_outputs_step.nd rfl (by first | exact Or.inl rfl | exact Or.inr rfl) (pe_callB Es.cr_sortedLI (by rfl) z_sorted boot_sorted (pa_cons (pe_callTy (Es.cr_listX rfl) (by rfl) z_list boot_list (pa_cons (L2.pe_dget (hu_of hr) (pv 1) pe_str (fun _ _ => rfl)) pa_nil)) pa_nil)))
      (pss_cons (ps_if (PW.pt (pw_and (pt_cmpR op_eq (pe_op op_mod (pe_ix ix_list (pv 2) pe_int (fun _ _ => rfl)) pe_int) pe_int (nomark _)) (pw_and (pt_cmpR (op_neD hr.units) (pv 4) (pe_lst pa_nil) (nomark _)) (pw_and1 (pt_cmpR op_ne (pe_op op_mod (pe_ix ix_list (pv 2) pe_int (fun _ _ => rfl)) pe_int) pe_int (nomark _)))))) (pss_one (ps_set (i := 3) sc_law_outputs_step.nd rfl (by first | exact Or.inl rfl | exact Or.inr rfl) (pe_ix ix_list (pv 4) (pe_op op_mod (pe_ix ix_list (pv 2) pe_int (fun _ _ => rfl)) (pe_callB call_len_seq (by rfl) z_len boot_len (pa_cons (pv 4) pa_nil))) (fun _ _ => rfl)))) pss_nil)
      (pss_cons (ps_try_as (i := 5) rfl rfl sc_law_outputs_step.nd rfl rfl ⟨rfl, by decide, .inl (We.m "StateError" (by decide +kernel))⟩ takes0 (fun W pn xe tk _ => (pss_cons (ps_if (pt_cmpR op_lt (pe_op op_mod (pe_ix (Rb.ix_listK (K := K) rfl) (pv 2) pe_int (fun _ _ => rfl)) pe_int) pe_int (nomark _)) (pss_cons (ps_set (i := 7) sc_law_outputs_step.nd rfl (by first | exact Or.inl rfl | exact Or.inr rfl) (pe_call G_law_output (hr.mono (by decide)) (by rfl) m_law_output k_law_output b_law_output .nil pass0 (pa_cons (pv 2) (pa_cons pe_int pa_nil))))
      (pss_cons (ps_expr (Bd.pe_methS (pv 0) cf_State.cls cf_State.mt_add_output G_State_add_output (hr.mono (by decide)) b_State_add_output (fun σ => passAt tk σ) (pa_cons (pv 3) (pa_cons (pe_make cf_Output.mkr G_Output___init (hr.mono (by decide)) (by rfl) cf_Output.m b_Output___init .nil pass0 (pa_cons (pe_ix (Rb.ix_tupK (K := K) rfl) (pv 7) pe_int (fun _ _ => rfl)) (pa_cons (pe_callTy (Rb.call_lstK (K := K) rfl) (by rfl) z_list boot_list (pa_cons (pe_ix (Rb.ix_tupK (K := K) rfl) (pv 7) pe_int (fun _ _ => rfl)) pa_nil)) (pa_cons (pe_ix (Rb.ix_tupK (K := K) rfl) (pv 7) pe_int (fun _ _ => rfl)) pa_nil)))) pa_nil))))
      (pss_cons (ps_if (pt_cmp (Es.pc_dinXK (P := P) (w := w) (K := K) rfl rfl rfl (hu_of hr) (pv 3) (L2.pe_dget (hu_of hr) (pv 1) pe_str (fun _ _ => rfl))) (by rfl)) (pss_one (ps_ret (pe_un un_neg pe_int))) pss_nil)
      (pss_cons (Es.ps_dputXK (P := P) (w := w) (K := K) rfl rfl rfl (hu_of hr) (L2.pe_dget (hu_of hr) (pv 1) pe_str (fun _ _ => rfl)) (pv 3) (pv 7) rfl)
      (pss_one (ps_ret pe_int)))))) pss_nil)
      (pss_cons (ps_set (i := 6) sc_law_outputs_step.nd rfl (by first | exact Or.inl rfl | exact Or.inr rfl) (Bd.pe_methS (pv 0) cf_State.cls cf_State.mt_remove_output G_State_remove_output (hr.mono (by decide)) b_State_remove_output (fun σ => passAt tk σ) (pa_cons (pv 3) pa_nil)))
      (pss_cons (ps_if (pt_cmp (Es.pc_dnotinXK (P := P) (w := w) (K := K) rfl rfl rfl (hu_of hr) (pv 3) (L2.pe_dget (hu_of hr) (pv 1) pe_str (fun _ _ => rfl))) (by rfl)) (pss_one (ps_ret (pe_un un_neg pe_int))) pss_nil)
      (pss_one (ps_if (pt_cmpR (Rb.op_neDK (K := K) rfl hr.units) (pe_meth0 (pv 6) cf_Output.cls cf_Output.mt_picture G_Output_picture (hr.mono (by decide)) b_Output_picture .nil pass0) (Es.pe_dpopXK (P := P) (w := w) (K := K) rfl rfl rfl (hu_of hr) (L2.pe_dget (hu_of hr) (pv 1) pe_str (fun _ _ => rfl)) (pv 3) ⟨rfl, rfl, rfl, rfl⟩) (nomark _)) (pss_one (ps_ret (pe_un un_neg pe_int))) pss_nil))))))
      (fun a oe cls d pn hz hf => (pss_cons (ps_if (PW.pt (pw_or (pt_not (pt_val (pe_callB (Bd.call_isG hz hf) (by rfl) z_isinstance boot_isinstance (pa_cons (pv 5) (pa_cons (pe_glob (v := .ref (He.ga K "KeptError")) (by rfl) (We.m "KeptError" (by decide +kernel)) rfl) pa_nil))))) (pw_or1 (pt_cmpR (Rb.op_neDK (K := K) rfl (have hu := hr.units; hu)) (Bd.pe_xg hz hf (pv 5)) (pv 3) (nomark _))))) (pss_one (ps_ret (pe_un un_neg pe_int))) pss_nil)
      (pss_cons (ps_if (pt_cmpR op_lt (pe_op op_mod (pe_ix (Rb.ix_listK (K := K) rfl) (pv 2) pe_int (fun _ _ => rfl)) pe_int) pe_int (nomark _)) (pss_one (ps_ret (pe_op op_sub (pe_callTy call_int1 (by rfl) z_int boot_int (pa_cons (pe_and (pe_cmp (Es.pc_dinXK (P := P) (w := w) (K := K) rfl rfl rfl (have hu := hu_of hr; hu) (pv 3) (L2.pe_dget (have hu := hu_of hr; hu) (pv 1) pe_str (fun _ _ => rfl))) (by rfl)) (pe_and (pe_callB (Bd.call_isG hz hf) (by rfl) z_isinstance boot_isinstance (pa_cons (pv 5) (pa_cons (pe_glob (v := .ref (He.ga K "Present")) (by rfl) (We.m "Present" (by decide +kernel)) rfl) pa_nil))) (pe_one (pe_not (pe_callB (Bd.call_isG hz hf) (by rfl) z_isinstance boot_isinstance (pa_cons (pv 5) (pa_cons (pe_glob (v := .ref (He.ga K "Absent")) (by rfl) (We.m "Absent" (by decide +kernel)) rfl) pa_nil))))))) pa_nil)) pe_int))) pss_nil)
      (pss_one (ps_ret (pe_op op_sub (pe_callTy call_int1 (by rfl) z_int boot_int (pa_cons (pe_and (pe_cmp (Es.pc_dnotinXK (P := P) (w := w) (K := K) rfl rfl rfl (have hu := hu_of hr; hu) (pv 3) (L2.pe_dget (have hu := hu_of hr; hu) (pv 1) pe_str (fun _ _ => rfl))) (by rfl)) (pe_and (pe_callB (Bd.call_isG hz hf) (by rfl) z_isinstance boot_isinstance (pa_cons (pv 5) (pa_cons (pe_glob (v := .ref (He.ga K "Absent")) (by rfl) (We.m "Absent" (by decide +kernel)) rfl) pa_nil))) (pe_one (pe_not (pe_callB (Bd.call_isG hz hf) (by rfl) z_isinstance boot_isinstance (pa_cons (pv 5) (pa_cons (pe_glob (v := .ref (He.ga K "Present")) (by rfl) (We.m "Present" (by decide +kernel)) rfl) pa_nil))))))) pa_nil)) pe_int)))))))
      (pss_one (ps_ret pe_int)))))), ?_⟩
    try simp only [Rd.cxK, Re.cxP, Re.cxW, lit_17]
    obtain ⟨hbl, hb3, hnl, hbV⟩ := hb
    have v0b := B3.at hb3 (m := 0) (by omega)
    have v1b := B3.at hb3 (m := 1) (by omega)
    have v2b := B3.at hb3 (m := 2) (by omega)
    generalize e0 : ns.getD 0 0 = v0 at v0b
    generalize e1 : ns.getD 1 0 = v1 at v1b
    generalize e2 : ns.getD 2 0 = v2 at v2b
    have g0 := (show ns.getD (Int.toNat 0) 0 = v0 from e0)
    have g1 := (show ns.getD (Int.toNat 1) 0 = v1 from e1)
    have g2 := (show ns.getD (Int.toNat 2) 0 = v2 from e2)
    have hb3k : B3 ns ∧ True := ⟨hb3, trivial⟩
    clear hb3
    walk_at "rn"
    rename_i r0 hr0
    rw [g1, g2]
    have s1 := Rd.same_new (o := .tup [V.int (v1 % 5), V.int (v2 % 3)]) hr0
    have hr1 : SqT K (upd H r0 (.tup [V.int (v1 % 5), V.int (v2 % 3)])) r0 [V.int (v1 % 5), V.int (v2 % 3)] := SqT.of upd_same
    generalize upd H r0 (.tup [V.int (v1 % 5), V.int (v2 % 3)]) = H1 at *
    have hL1 := hL.keep s1
    have hM1 := hL1.md
    obtain ⟨kv, hDo, hPo⟩ := hM1.outs
    have hbl1 := s1 _ _ hbl
    walk_at "rn"
    refine ⟨D.o, kv, rfl, hDo, fun ps l hps hl0 => ?_⟩
    have hKD := keysR (R := M.outs.map (·.1)) hps (mo_keys hPo)
    have t1 := Rd.same_new (o := .lst (ps.map V.ref)) hl0
    walk_at "rn"
    refine ⟨l, ps.map V.ref, M.outs.map (·.1), rfl, SqL.of upd_same, dpAll_same t1 hKD, fun R ys q hRp hRs hq hys => ?_⟩
    have t2 := Rd.same_new (o := .lst ys) hq
    have s2 := s1.trans (t1.trans t2)
    have hys1 := dpAll_same t2 hys
    have hqy : SqL K (upd (upd H1 l (.lst (ps.map V.ref))) q (.lst ys)) q ys := SqL.of upd_same
    have hr2 := Rd.same_tup (t1.trans t2) hr1
    have hbl2 := (t1.trans t2) _ _ hbl1
    replace hL1 := hL1.keep (t1.trans t2)
    generalize upd (upd H1 l (.lst (ps.map V.ref))) q (.lst ys) = H2 at *
    clear hM1 hDo hPo hr1 hbl1 t1 t2 hys hKD s1
    have hyl : ys.length = R.length := by have := Rd.dpAll_len hys1; rwa [List.length_map] at this
    refine Rd.join (fun σ' H' => ∃ (r : Addr) (p : Rf),  σ' = [some (.ref A.t), some (.ref D.m), some (.ref b), some (.ref r), some (.ref q), none, none, none] ∧ Same H2 H' ∧ SqT K H' r [.int p.1, .int p.2] ∧ (p ∈ S.outs.map (·.1) ∨ p.1 < 5)) ?_ ?_
    · intro N hN
      walk_at "rn"
      · rename_i z hz
        refine neNilL (.lst (Rd.nl hz hqy) (dpAll_same (Rd.same_new hz) hys1)) (SqL.of upd_same) ((Sh.list fun d hd => by obtain ⟨x, _, rfl⟩ := List.mem_map.mp hd; exact encP2_sh1 x 1).shaped (by decide)) ?_
        rw [List.isEmpty_map]
        have hbl3 := Rd.nh hz hbl2 (o := .lst [])
        have hr3 := Rd.nt hz hr2 (o := .lst [])
        have hq3 := Rd.nl hz hqy (o := .lst [])
        have hy3 := dpAll_same (Rd.same_new (o := .lst []) hz) hys1
        have s3 := Rd.same_new (o := .lst []) hz
        generalize upd H2 z (.lst []) = H3 at *
        cases R with
        | nil =>
          rw [show (!([] : List (Int × Int)).isEmpty) = false from rfl]
          walk_at "rn"
          all_goals exact hN _ _ ⟨r0, (v1 % 5, v2 % 3),  rfl, s3, hr3, .inr (by show v1 % 5 < 5; omega)⟩
        | cons x R =>
          have hyl2 : ys.length = R.length + 1 := hyl
          rw [show (!(x :: R).isEmpty) = true from rfl]
          walk_at "rn"
          · rw [g2]
            refine p2Ix hq3 hy3 (Int.emod_nonneg _ (by omega)) (Int.emod_lt_of_pos _ (by omega)) fun z2 p2 hm2 hz2 => ?_
            exact hN _ _ ⟨z2, p2,  rfl, s3, hz2, .inl ((hL.eq.outs.map _).subset (hRp.subset hm2))⟩
          · exact hN _ _ ⟨r0, (v1 % 5, v2 % 3),  rfl, s3, hr3, .inr (by show v1 % 5 < 5; omega)⟩
      · exact hN _ _ ⟨r0, (v1 % 5, v2 % 3),  rfl, Same.refl _, hr2, .inr (by show v1 % 5 < 5; omega)⟩
    rintro σ' H3 ⟨r, p,  rfl, s3, hr3, hpk⟩
    have hbl3 := s3 _ _ hbl2
    have hL3 := hL1.keep s3
    have s4 := s2.trans s3
    clear hqy hys1 hyl hL1 hbl2 hr2 hq hl0 hps hRs hRp hbl hr0 s2 s3
    have ht := hL3.st.t
    have hM3 := hL3.md
    refine Rd.seq ?_
    refine Rd.seq (Rd.ifS ?_)
    walk_at "rn"
    · -- an output is added
      rename_i hv0
      rw [g0] at hv0
      refine ⟨_, ns, 3, rfl, hbl3, hb3k.1, hnl, rfl, fun tz t H4 s4' htz okt nrt => ?_⟩
      obtain ⟨tz', z1, rw1, dt1, ez, htz0, hz1, ⟨rs, hrs, hrsD⟩, es, hes, hesD⟩ := encTr_of htz
      cases ez
      rw [ints_of hesD] at hes
      clear hesD
      have ht4 := s4' _ _ ht
      refine Bd.meS (Rd.var rfl ⟨A.t, A.dx, _, rfl, ht4, by rfl, ?_⟩)
      walk_at "rn"
      rename_i l hl
      have sA := Rd.same_new (o := .lst rs) hl
      refine mkOn (kk := t.ad) (Rd.same_tup sA hz1) (.inl (.inl (SqL.of upd_same))) (dpAll_same sA hrsD) (Nat.le_trans okt.2.1 (by decide)) (.inr (Rd.same_tup sA hes)) fun H5 ob odx c dd N s5 hob hc hOb nm tt bd hw hfr => ?_
      obtain rfl : N = t.rw := nm.uniq nrt tt
      have L4 := (hL3.keep s4').keep sA
      have ou := OuAt.new L4.st hob hc hfr hOb (Rd.same_tup s5 (Rd.same_tup sA hz1)) bd hw
      have s6 : Same H4 H5 := sA.trans s5
      have htz5 := Rd.dp_same s6 htz
      have s7 : Same H3 H5 := s4'.trans s6
      have hL5 := hL3.keep s7
      have hr5 := Rd.same_tup s7 hr3
      have hbl5 := s7 _ _ hbl3
      have s8 := s4.trans s7
      clear L4 s5 sA htz0 hz1 hrs hrsD hes hw bd hOb htz ht4 hl hr3 hbl3 hL3 s7 s6 s4' s4 ht hM3 hob hc hfr
      walk_at "rn"
      refine ⟨A, S, B, r, p, .ref ob, t, rfl, hL5.st, hr5, ou, okt.2.1, hn, fun hin d H6 s6 hd hd2 => ?_, fun hno H6 A2 B2 f2 u2 st2 => ?_⟩
      · refine ⟨true, (We.kit "Present" "StateError" (by decide +kernel) (by decide +kernel)).2, fun _ a ha => ?_, fun q => nomatch q⟩
        have hM6 := hL5.md.keep s6
        have hbl6 := s6 _ _ hbl5
        have hr6 := Rd.same_tup s6 hr5
        have hin2 : p ∈ M.outs.map (·.1) := (hL.eq.outs.map _).symm.subset hin
        obtain ⟨kv6, hD6, hP6⟩ := hM6.outs
        walk_at "rn"
        refine isiE We (by decide +kernel) (by decide +kernel) true (by decide +kernel) hd2 ?_
        walk_at "rn"
        refine xgE We (by decide +kernel) rfl hd2 ?_
        walk_at "rn"
        refine neSame (d := encP2 p) (.tup hr6 (.cons (.int _) (.cons (.int _) .nil))) (.tup hr6 (.cons (.int _) (.cons (.int _) .nil))) rfl ((encP2_sh1 p 1).shaped (by decide)) ?_
        walk_at "rn"
        refine Re.dinX ?_
        walk_at "rn"
        obtain ⟨o6, ho6, hc6⟩ := hM6.look hr6
        rcases hc6 with ⟨_, t6, v6, _, rfl, _⟩ | ⟨hc6, _⟩
        · refine ⟨D.o, _, rfl, ho6, true, rfl, ?_⟩
          rw [if_pos rfl]
          walk_at "rn"
          refine isiE We (by decide +kernel) (by decide +kernel) true (by decide +kernel) hd2 ?_
          walk_at "rn"
          refine isiE We (by decide +kernel) (by decide +kernel) false (by decide +kernel) hd2 ?_
          walk_at "rn"
          exact k 0 H6 A B S D M (.no hL (s8.trans s6))
        · exact absurd hin2 hc6
      · have hM6 := hL5.md.sta hL5.st hL5.z f2
        have hr6 := f2.tup _ _ hr5
        have htz6 := f2.dp (encTr_nl _) htz5
        have hno2 : p ∉ M.outs.map (·.1) := fun q => hno ((hL.eq.outs.map _).subset q)
        walk_at "rn"
        refine Re.dinX ?_
        walk_at "rn"
        obtain ⟨o6, ho6, hc6⟩ := hM6.look hr6
        rcases hc6 with ⟨hc6, _⟩ | ⟨_, rfl⟩
        · exact absurd hc6 hno2
        refine ⟨D.o, _, rfl, ho6, false, rfl, ?_⟩
        rw [if_neg (by decide)]
        walk_at "rn"
        refine Re.dputX ?_
        walk_at "rn"
        obtain ⟨kv6, hD6, hP6⟩ := hM6.outs
        have hkl : kv6.length = M.outs.length := Paired.length hP6
        have hpl := hL.eq.outs.length_eq
        have hvm : valV kv6 (eR p) = none := by
          rcases mo_look (p := p) hP6 with ⟨u, v, h1, _⟩ | ⟨_, h2⟩
          · exact absurd (List.mem_map_of_mem (f := (·.1)) (lookM_in h1)) hno2
          · exact h2
        refine ⟨D.o, kv6, eR p, r, rfl, rfl, hD6, Nat.lt_of_le_of_lt (show kv6.length ≤ 100000 by omega) (by decide), hr6, fun ys d2 => ?_⟩
        rw [putK_abs hvm] at d2
        obtain ⟨g1, g2⟩ := hM6.upO hL.nd d2 (Paired.snoc hP6 ⟨rfl, htz6⟩) (L := M.outs ++ [(p, t)]) (by
          rw [List.map_append, List.nodup_append]
          exact ⟨hM6.ond, by simp, fun a ha b hb => by rw [List.mem_singleton.mp hb]; exact fun e => hno2 (by rw [show p = a from e.symm]; exact ha)⟩)
        walk_at "rn"
        exact k 1 _ A2 B2 _ D _ (.yes hL5 s8 f2 u2 st2 g1 (fun x hx => by rw [List.mem_singleton.mp hx]; simp [MA.O]) (fun x hx => by rw [List.mem_singleton.mp hx, upd_same]; exact fun q => by cases q) g2 hL.eq.out (fun e he => by
          rcases List.mem_append.mp he with h | h
          · exact hL.ok e h
          · rw [List.mem_singleton.mp h]; exact ⟨okt.1, okt.2.2.2.1⟩) fun x hx => by
          rw [show (doA S (.out p (some t))).outs = S.outs ++ [(p, t)] from rfl, List.map_append] at hx
          rcases List.mem_append.mp hx with h | h
          · exact .inl h
          · rw [List.mem_singleton.mp h]; exact hpk)
    · -- an output is taken away
      rename_i hv0
      rw [g0] at hv0
      refine Bd.meS (Rd.var rfl ⟨A.t, A.dx, _, rfl, ht, by rfl, ?_⟩)
      walk_at "rn"
      refine ⟨A, S, B, r, p, rfl, hL3.st, hr3, hn, fun hni d H6 s6 hd hd2 => ?_, fun t v hlk hou H6 A2 B2 f2 u2 st2 => ?_⟩
      · refine ⟨true, (We.kit "Absent" "StateError" (by decide +kernel) (by decide +kernel)).2, fun _ a ha => ?_, fun q => nomatch q⟩
        have hM6 := hL3.md.keep s6
        have hbl6 := s6 _ _ hbl3
        have hr6 := Rd.same_tup s6 hr3
        have hni2 : p ∉ M.outs.map (·.1) := fun q => hni ((hL.eq.outs.map _).subset q)
        walk_at "rn"
        refine isiE We (by decide +kernel) (by decide +kernel) true (by decide +kernel) hd2 ?_
        walk_at "rn"
        refine xgE We (by decide +kernel) rfl hd2 ?_
        walk_at "rn"
        refine neSame (d := encP2 p) (.tup hr6 (.cons (.int _) (.cons (.int _) .nil))) (.tup hr6 (.cons (.int _) (.cons (.int _) .nil))) rfl ((encP2_sh1 p 1).shaped (by decide)) ?_
        walk_at "rn"
        refine Re.dnotX ?_
        walk_at "rn"
        obtain ⟨o6, ho6, hc6⟩ := hM6.look hr6
        rcases hc6 with ⟨hc6, _⟩ | ⟨_, rfl⟩
        · exact absurd hc6 hni2
        refine ⟨D.o, _, rfl, ho6, true, rfl, ?_⟩
        rw [if_pos rfl]
        walk_at "rn"
        refine isiE We (by decide +kernel) (by decide +kernel) true (by decide +kernel) hd2 ?_
        walk_at "rn"
        refine isiE We (by decide +kernel) (by decide +kernel) false (by decide +kernel) hd2 ?_
        walk_at "rn"
        exact k 0 H6 A B S D M (.no hL (s4.trans s6))
      · have hM6 := hL3.md.sta hL3.st hL3.z f2
        have hr6 := f2.tup _ _ hr3
        have hou6 := hou.fr (f2.mono fun x q => SA.oV x q) (fun x q => .inl q)
        obtain ⟨o, odx, z, c, dd, rfl, nov, ho1, hrest⟩ := id hou6
        have hmt : lookM M.outs p = some t := (lookM_perm hL.eq.outs hM6.ond p).trans hlk
        walk_at "rn"
        refine Re.dnotX ?_
        walk_at "rn"
        obtain ⟨o6, ho6, hc6⟩ := hM6.look hr6
        rcases hc6 with ⟨hc6, t6, v6, hk6, rfl, hd6⟩ | ⟨hc6, _⟩
        rotate_left
        · exact absurd (List.mem_map_of_mem (f := (·.1)) (lookM_in hmt)) hc6
        cases hk6.symm.trans hmt
        refine ⟨D.o, _, rfl, ho6, false, rfl, ?_⟩
        rw [if_neg (by decide)]
        walk_at "rn"
        refine ⟨_, A.V, t, rfl, hou6, fun pz H7 s7 hpz hpd => ?_⟩
        have hM7 := hM6.keep s7
        have hr7 := Rd.same_tup s7 hr6
        obtain ⟨kv7, hD7, hP7⟩ := hM7.outs
        have hv7 : ∃ v7, valV kv7 (eR p) = some v7 ∧ Dp K H7 v7 (encTr t) := by
          rcases mo_look (p := p) hP7 with ⟨t7, v, h1, h2, h3⟩ | ⟨h1, _⟩
          · cases h1.symm.trans hmt
            exact ⟨v, h2, h3⟩
          · rw [hmt] at h1; cases h1
        obtain ⟨v7, hv7, hvd⟩ := hv7
        walk_at "rn"
        refine ⟨D.o, rfl, ⟨kv7, hD7⟩, ?_⟩
        walk_at "rn"
        refine ⟨kv7, eR p, r, v7, rfl, hD7, hr7, hv7, fun ys d2 => ?_⟩
        obtain ⟨g1, g2⟩ := hM7.upO hL.nd d2 (drop_mo hP7) (((List.filter_sublist (l := M.outs)).map _).nodup hM7.ond)
        have okt := hL.ok _ (lookM_in hmt)
        refine neSame (d := encTr t) (g1.dp (encTr_nl _) hpd) (g1.dp (encTr_nl _) hvd) (encTr_nd t) ((encTr_sh okt.1 okt.2).shaped (by decide)) ?_
        walk_at "rn"
        exact k 1 _ A2 B2 _ D _ (.yes hL3 s4 f2 u2 st2 ((Fr.of s7).trans g1) (fun x hx => by rw [List.mem_singleton.mp hx]; simp [MA.O]) (fun x hx => by rw [List.mem_singleton.mp hx, upd_same]; exact fun q => by cases q) g2 hL.eq.rem (fun e he => hL.ok e (List.mem_filter.mp he).1) fun x hx => .inl (((List.filter_sublist (l := S.outs)).map _).subset hx))
theorem ok_law_outputs_step {f : Addr} {fd : FuncData} (mf : mg "_law_outputs_step" = some (.ref f)) (F : FnP K "_law_outputs_step" s_law_outputs_step f fd) (C_law_output : Cal P w K mg base "_law_output" 1 ["numbers", "at"] (sp_law_output P w K)) (C_State_add_output : CalMX P w K mg base (He.fAd K ("State", some "add_output")) 4 ["self", "ref", "output"] [] (sp_State_add_output P w K)) (C_Output___init : CalM P w K mg base (He.fAd K ("Output", some "__init__")) 4 ["self", "address", "bundle", "datum"] [V.ref (He.dflAt ("Output", some "__init__") 0 K)] (sp_Output___init P w K)) (C_State_remove_output : CalMX P w K mg base (He.fAd K ("State", some "remove_output")) 4 ["self", "ref"] [] (sp_State_remove_output P w K)) (C_Output_picture : CalM P w K mg base (He.fAd K ("Output", some "picture")) 1 ["self"] [] (sp_Output_picture P w K)) (z_sorted : mg "sorted" = none) (z_list : mg "list" = none) (z_len : mg "len" = none) (z_isinstance : mg "isinstance" = none) (z_int : mg "int" = none) (W_errs : StErr EN_ K mg) (W_State : CF_State K mg) (W_Output : CF_Output K mg) : Cal P w K mg base "_law_outputs_step" 6 ["state", "model", "numbers"] (sp_law_outputs_step P w K) :=
  ⟨f, fd, mf, F.kp, F.bindsN fun _ _ _ _ _ _ us hl => match us, hl with | [_, _, _], _ => rfl, fn_law_outputs_step F C_law_output C_State_add_output C_Output___init C_State_remove_output C_Output_picture z_sorted z_list z_len z_isinstance z_int W_errs W_State W_Output⟩

theorem fn_law_step {f : Addr} {fd : FuncData} (F : FnP K "_law_step" s_law_step f fd) (C_law_outputs_step : Cal P w K mg base "_law_outputs_step" 6 ["state", "model", "numbers"] (sp_law_outputs_step P w K)) (C_State_set_account : CalM P w K mg base (He.fAd K ("State", some "set_account")) 4 ["self", "key", "pair"] [] (sp_State_set_account P w K)) (C_law_pot_step : Cal P w K mg base "_law_pot_step" 5 ["state", "model", "numbers"] (sp_law_pot_step P w K)) (C_State_set_clock : CalM P w K mg base (He.fAd K ("State", some "set_clock")) 4 ["self", "slot", "epoch"] [] (sp_State_set_clock P w K)) (C_State_set_stakes : CalM P w K mg base (He.fAd K ("State", some "set_stakes")) 4 ["self", "rows"] [] (sp_State_set_stakes P w K)) (C_law_use_step : Cal P w K mg base "_law_use_step" 5 ["state", "model", "numbers"] (sp_law_use_step P w K)) (z_int : mg "int" = none) (z_range : mg "range" = none) (z_tuple : mg "tuple" = none) (W_State : CF_State K mg) : FnOk P w K mg base CX0 7 f fd ["state", "model", "numbers"] (sp_law_step P w K) := by
  obtain ⟨f_law_outputs_step, fd_law_outputs_step, m_law_outputs_step, k_law_outputs_step, b_law_outputs_step, G_law_outputs_step⟩ := C_law_outputs_step.ex
  obtain ⟨fd_State_set_account, b_State_set_account, G_State_set_account, ds_State_set_account, dr_State_set_account, db_State_set_account⟩ := C_State_set_account.ex
  obtain ⟨f_law_pot_step, fd_law_pot_step, m_law_pot_step, k_law_pot_step, b_law_pot_step, G_law_pot_step⟩ := C_law_pot_step.ex
  obtain ⟨fd_State_set_clock, b_State_set_clock, G_State_set_clock, ds_State_set_clock, dr_State_set_clock, db_State_set_clock⟩ := C_State_set_clock.ex
  obtain ⟨fd_State_set_stakes, b_State_set_stakes, G_State_set_stakes, ds_State_set_stakes, dr_State_set_stakes, db_State_set_stakes⟩ := C_State_set_stakes.ex
  obtain ⟨f_law_use_step, fd_law_use_step, m_law_use_step, k_law_use_step, b_law_use_step, G_law_use_step⟩ := C_law_use_step.ex
  have cf_State := W_State
  have cfc_State := cf_State.cls
  refine F.ok sc_law_step (fun vs H Q E h => ?_) (fun cdv A outer s H vs Q E hr h => ?_)
  · obtain ⟨A, S, M, B, D, b, ns, rfl, _⟩ := h; rfl
  · obtain ⟨A, S, M, B, D, b, ns, rfl, hL, hb, hn, k⟩ := h
    refine ⟨_, PSs.nox (pss_cons (ps_set (i := 3) sc_law_step.nd rfl (by first | exact Or.inl rfl | exact Or.inr rfl) (pe_op op_mod (pe_ix ix_list (pv 2) pe_int (fun _ _ => rfl)) pe_int))
      (pss_cons (ps_if (pt_cmpR op_lt (pv 3) pe_int (nomark _)) (pss_one (ps_ret (pe_call G_law_outputs_step (hr.mono (by decide)) (by rfl) m_law_outputs_step k_law_outputs_step b_law_outputs_step .nil pass0 (pa_cons (pv 0) (pa_cons (pv 1) (pa_cons (pv 2) pa_nil)))))) pss_nil)
      (pss_cons (ps_if (pt_cmpR op_eq (pv 3) pe_int (nomark _)) (pss_cons (ps_set (i := 4) sc_law_step.nd rfl (by first | exact Or.inl rfl | exact Or.inr rfl) (pe_ix ix_list (pe_lst (pa_cons pe_int (pa_cons pe_int (pa_cons pe_int (pa_cons pe_int (pa_cons pe_int (pa_cons (pe_op op_pow pe_int pe_int) pa_nil))))))) (pe_op op_mod (pe_ix ix_list (pv 2) pe_int (fun _ _ => rfl)) pe_int) (fun _ _ => rfl)))
      (pss_cons (ps_set (i := 5) sc_law_step.nd rfl (by first | exact Or.inl rfl | exact Or.inr rfl) (pe_tup (pa_cons (pe_ix ix_list (pv 2) pe_int (fun _ _ => rfl)) (pa_cons (pe_ix ix_list (pv 2) pe_int (fun _ _ => rfl)) pa_nil))))
      (pss_cons (ps_if (pt_cmpR op_eq (pe_op op_mod (pe_ix ix_list (pv 2) pe_int (fun _ _ => rfl)) pe_int) pe_int (nomark _)) (pss_cons (ps_expr (pe_meth (pv 0) cf_State.cls cf_State.mt_set_account G_State_set_account (hr.mono (by decide)) b_State_set_account .nil pass0 (pa_cons (pv 4) (pa_cons pe_non pa_nil))))
      (pss_one (ps_expr (L2.pe_dpop2 (L2.pe_dget (hu_of hr) (pv 1) pe_str (fun _ _ => rfl)) (pv 4) pe_non ⟨rfl, rfl, rfl, rfl⟩)))) (pss_cons (ps_expr (pe_meth (pv 0) cf_State.cls cf_State.mt_set_account G_State_set_account (hr.mono (by decide)) b_State_set_account .nil pass0 (pa_cons (pv 4) (pa_cons (pv 5) pa_nil))))
      (pss_one (L2.ps_dput (hu_of hr) (L2.pe_dget (hu_of hr) (pv 1) pe_str (fun _ _ => rfl)) (pv 4) (pv 5) rfl))))
      (pss_one (ps_ret pe_int))))) pss_nil)
      (pss_cons (ps_if (pt_cmpR op_eq (pv 3) pe_int (nomark _)) (pss_one (ps_ret (pe_call G_law_pot_step (hr.mono (by decide)) (by rfl) m_law_pot_step k_law_pot_step b_law_pot_step .nil pass0 (pa_cons (pv 0) (pa_cons (pv 1) (pa_cons (pv 2) pa_nil)))))) pss_nil)
      (pss_cons (ps_if (pt_cmpR op_eq (pv 3) pe_int (nomark _)) (pss_cons (ps_expr (pe_meth (pv 0) cf_State.cls cf_State.mt_set_clock G_State_set_clock (hr.mono (by decide)) b_State_set_clock .nil pass0 (pa_cons (pe_op op_add (pe_op op_mul (pe_ix ix_list (pv 2) pe_int (fun _ _ => rfl)) pe_int) (pe_ix ix_list (pv 2) pe_int (fun _ _ => rfl))) (pa_cons (pe_ix ix_list (pv 2) pe_int (fun _ _ => rfl)) pa_nil))))
      (pss_cons (L2.ps_dput (hu_of hr) (pv 1) pe_str (pe_tup (pa_cons (pe_op op_add (pe_op op_mul (pe_ix ix_list (pv 2) pe_int (fun _ _ => rfl)) pe_int) (pe_ix ix_list (pv 2) pe_int (fun _ _ => rfl))) (pa_cons (pe_ix ix_list (pv 2) pe_int (fun _ _ => rfl)) pa_nil))) rfl)
      (pss_one (ps_ret pe_int)))) pss_nil)
      (pss_cons (ps_if (pt_cmpR op_eq (pv 3) pe_int (nomark _)) (pss_cons (ps_set (i := 6) sc_law_step.nd rfl (by first | exact Or.inl rfl | exact Or.inr rfl) (pe_lst (pa_cons pe_int (pa_cons pe_int (pa_cons pe_int (pa_cons pe_int (pa_cons pe_int (pa_cons pe_int (pa_cons (pe_op op_pow pe_int pe_int) pa_nil)))))))))
      (pss_cons (ps_setLc (i := 7) (own := [("k", 9)]) (g := gName 9) (tt := tYes) rfl sc_law_step.nd rfl rfl (sw_true rfl rfl rfl (by decide +kernel)) (pi_range1 (by rfl) z_range (pa_cons (pe_op op_mod (pe_ix ix_list (pv 2) pe_int (fun _ _ => rfl)) pe_int) pa_nil)) (blkOk_by (N := N_law_step) (sc := defScope s_law_step) (by decide +kernel)) (fun _ _ _ _ _ => pg_name (i := 9) sc_law_step.nd rfl (by first | exact Or.inl rfl | exact Or.inr rfl)) (fun _ _ _ _ _ => pts_nil) (fun _ _ _ _ _ => (pe_tup (pa_cons (pe_ix (Rb.ix_listK (K := K) rfl) (pv 6) (pv 9) (fun _ _ => rfl)) (pa_cons (pe_ix (Rb.ix_listK (K := K) rfl) (pv 2) (pe_op op_mod (pe_callTy call_int1 (by rfl) z_int boot_int (pa_cons (pe_op op_add pe_int (pv 9)) pa_nil)) pe_int) (fun _ _ => rfl)) pa_nil)))))
      (pss_cons (ps_set (i := 8) sc_law_step.nd rfl (by first | exact Or.inl rfl | exact Or.inr rfl) (pe_revL (pv 7)))
      (pss_cons (ps_expr (pe_meth (pv 0) cf_State.cls cf_State.mt_set_stakes G_State_set_stakes (hr.mono (by decide)) b_State_set_stakes .nil pass0 (pa_cons (pv 8) pa_nil)))
      (pss_cons (ps_if (pt_cmpR (op_neD hr.units) (pv 8) (pe_revL (pv 7)) (nomark _)) (pss_one (ps_ret (pe_un un_neg pe_int))) pss_nil)
      (pss_cons (ps_expr (pe_bm PySem.F.plainAttrs_list PySem.F.slot_list_append PySem.F.type_list_append mt_append (pv 8) (pa_cons (pe_tup (pa_cons pe_int (pa_cons pe_int pa_nil))) pa_nil)))
      (pss_cons (L2.ps_dput (hu_of hr) (pv 1) pe_str (pe_callTy call_tuple_of (by rfl) z_tuple boot_tuple (pa_cons (pv 7) pa_nil)) rfl)
      (pss_one (ps_ret pe_int))))))))) pss_nil)
      (pss_one (ps_ret (pe_call G_law_use_step (hr.mono (by decide)) (by rfl) m_law_use_step k_law_use_step b_law_use_step .nil pass0 (pa_cons (pv 0) (pa_cons (pv 1) (pa_cons (pv 2) pa_nil)))))))))))), ?_⟩
    try simp only [Rd.cxK, Re.cxP, Re.cxW, lit_18, lit_7, lit_8]
    obtain ⟨hbl, hb3, hnl, hbV⟩ := id hb
    have v0b := B3.at hb3 (m := 0) (by omega)
    have v1b := B3.at hb3 (m := 1) (by omega)
    have v2b := B3.at hb3 (m := 2) (by omega)
    have v3b := B3.at hb3 (m := 3) (by omega)
    have g0 := (show ns.getD (Int.toNat 0) 0 = ns.getD 0 0 from rfl)
    have g1 := (show ns.getD (Int.toNat 1) 0 = ns.getD 1 0 from rfl)
    have g2 := (show ns.getD (Int.toNat 2) 0 = ns.getD 2 0 from rfl)
    have g3 := (show ns.getD (Int.toNat 3) 0 = ns.getD 3 0 from rfl)
    generalize ns.getD 0 0 = v0 at *
    generalize ns.getD 1 0 = v1 at *
    generalize ns.getD 2 0 = v2 at *
    generalize ns.getD 3 0 = v3 at *
    have hb3k : B3 ns ∧ True := ⟨hb3, trivial⟩
    clear hb3
    have ht := hL.st.t
    have hOl := hL.st.liveO
    have hDv := hL.md.live
    walk_at "rn"
    · refine ⟨A, S, M, B, D, _, ns, rfl, hL, hb, hn, fun z H' A' B' S' D' M' st => ?_⟩
      exact k z H' A' B' S' D' M' st
    · rename_i p hp
      refine ixAll (fun v => ∃ y, v = V.int y) (SqL.of upd_same) (by omega) (by simp only [List.length_cons, List.length_nil]; omega) (by
        intro v hv
        simp only [List.mem_cons, List.not_mem_nil, or_false] at hv
        rcases hv with rfl | rfl | rfl | rfl | rfl | rfl <;> exact ⟨_, rfl⟩) ?_
      rintro v ⟨y, rfl⟩
      have s1 : Same H (upd H p (HO.lst [V.int 0, V.int 1, V.int 9, V.int 10, V.int 100, V.int 1000000000])) := Rd.same_new hp
      generalize upd H p (HO.lst [V.int 0, V.int 1, V.int 9, V.int 10, V.int 100, V.int 1000000000]) = H1 at *
      have hbl1 := s1 _ _ hbl
      walk_at "rnj"
      rename_i p2 hp2
      rw [g2, g3]
      have s2 := Rd.same_new (o := .tup [V.int v2, V.int v3]) hp2
      have hp3 : P2At K (upd H1 p2 (.tup [V.int v2, V.int v3])) (.ref p2) (v2, v3) := ⟨p2, rfl, SqT.of upd_same⟩
      have s3 := s1.trans s2
      have hbl2 := s2 _ _ hbl1
      generalize upd H1 p2 (.tup [V.int v2, V.int v3]) = H2 at *
      have hL2 := hL.keep s3
      have ht2 := hL2.st.t
      walk_at "rn"
      · refine ⟨A, S, B, _, _, none, rfl, hL2.st, ⟨rfl, rfl⟩, hn, fun H4 A4 B4 f4 u4 st4 => ?_⟩
        have hM4 := hL2.md.sta hL2.st hL2.z f4
        obtain ⟨av, hA4, hP4⟩ := hM4.accs
        walk_at "rn"
        refine ⟨D.ac, rfl, isDK hA4, ?_⟩
        walk_at "rn"
        refine ⟨av, .inl y, hA4, rfl, fun v hv => ?_, fun hv => ?_⟩
        · obtain ⟨q1, q2⟩ := hM4.upA hL.nd (drop_accs (k := y) hP4) (setA_keys hM4.and_)
          walk_at "rn"
          exact k 1 _ A4 B4 _ D _ (.yes hL2 s3 f4 u4 st4 q1 (fun x hx => by rw [List.mem_singleton.mp hx]; simp [MA.O]) (fun x hx => by rw [List.mem_singleton.mp hx, upd_same]; exact fun q => by cases q) q2 (hL.eq.acc hM4.and_) hL.ok fun _ h => .inl h)
        · have e0 : lookA M.accs y = none := by
            rcases accs_look (k := y) hP4 with ⟨t, v, _, h2, _⟩ | ⟨h1, _⟩
            · rw [hv] at h2; cases h2
            · exact h1
          walk_at "rn"
          exact k 1 _ A4 B4 _ D _ (.yes hL2 s3 f4 u4 st4 (U := []) .refl (by simp) (by simp) hM4 (by have := hL.eq.acc (k := y) (o := none) hM4.and_; rwa [lookA_no e0] at this) hL.ok fun _ h => .inl h)
      · refine ⟨A, S, B, _, _, some (v2, v3), rfl, hL2.st, ⟨rfl, hp3⟩, hn, fun H4 A4 B4 f4 u4 st4 => ?_⟩
        have hM4 := hL2.md.sta hL2.st hL2.z f4
        obtain ⟨av, hA4, hP4⟩ := hM4.accs
        have hv4 : P2At K H4 (.ref p2) (v2, v3) := by obtain ⟨z, e, hz⟩ := hp3; exact ⟨z, e, f4.tup _ _ hz⟩
        have hkl : av.length = M.accs.length := Paired.length hP4
        have hal := hL.eq.accs.length_eq
        walk_at "rn"
        refine ⟨D.ac, _, rfl, DPut.k (k := .inl y) hA4 (Nat.lt_of_le_of_lt (show av.length ≤ 1000 by omega) (by decide)), ?_⟩
        obtain ⟨q1, q2⟩ := hM4.upA hL.nd (put_accs (k := y) hP4 hv4) (setA_keys hM4.and_)
        walk_at "rn"
        exact k 1 _ A4 B4 _ D _ (.yes hL2 s3 f4 u4 st4 q1 (fun x hx => by rw [List.mem_singleton.mp hx]; simp [MA.O]) (fun x hx => by rw [List.mem_singleton.mp hx, upd_same]; exact fun q => by cases q) q2 (hL.eq.acc hM4.and_) hL.ok fun _ h => .inl h)
    · refine ⟨A, S, M, B, D, _, ns, rfl, hL, hb, hn, fun z H' A' B' S' D' M' st => ?_⟩
      exact k z H' A' B' S' D' M' st
    · rw [g1, g2, g3]
      refine ⟨A, S, B, v1 * 1000 + v2, v3, rfl, hL.st, hn, fun H4 A4 B4 f4 u4 st4 => ?_⟩
      have hbl4 := f4.keep _ _ (fun q => hbV (SA.oV _ q)) hbl
      have hM4 := hL.md.sta hL.st hL.z f4
      walk_at "rn"
      rename_i z hz
      rw [g1, g2, g3]
      have s5 := Rd.same_new (o := .tup [V.int (v1 * 1000 + v2), V.int v3]) hz
      have hz5 : SqT K (upd H4 z (.tup [V.int (v1 * 1000 + v2), V.int v3])) z [V.int (v1 * 1000 + v2), V.int v3] := SqT.of upd_same
      have hM5 := hM4.keep s5
      generalize upd H4 z (.tup [V.int (v1 * 1000 + v2), V.int v3]) = H5 at *
      refine ⟨D.m, _, rfl, DPut.k (k := kC) hM5.m (Nat.le_of_ble_eq_true rfl), ?_⟩
      rw [putM_clk]
      obtain ⟨q1, q2⟩ := hM5.upM (D' := { D with ck := z }) (M' := { M with slot := v1 * 1000 + v2, epo := v3 }) hL.nd ⟨rfl, rfl, rfl, rfl, rfl⟩ ⟨rfl, rfl, rfl, rfl, rfl, rfl⟩ hM5.stk hz5
      have st5 := st4.keep s5
      have z4 : ∀ x ∈ D.O, x ∈ A4.z := fun x hx => by rw [u4.z.1]; exact hL.z x hx
      have st6 := st5.mdl hM5 z4 q1 (fun x hx => by rw [List.mem_singleton.mp hx]; simp [MA.O]) (fun x hx => by rw [List.mem_singleton.mp hx, upd_same]; exact fun q => by cases q)
      walk_at "rn"
      refine k 1 _ A4 B4 _ _ _ (.yes2 hL (.refl _) u4 ⟨st6, q2, hL.eq.clk, z4, hL.nd, hL.ok⟩ rfl ((f4.mono fun x hx => List.mem_append_left _ hx).trans ((Fr.of s5).trans (q1.mono fun x hx => List.mem_append_right _ (by rw [List.mem_singleton.mp hx]; simp [MA.O])))) fun _ h => .inl h)
    · rename_i ka hka
      rw [g1]
      have s1 : Same H (upd H ka (HO.lst [V.int 2, V.int 9, V.int 10, V.int 33, V.int 100, V.int 1000, V.int 1000000000])) := Rd.same_new hka
      have hk1 : upd H ka (HO.lst [V.int 2, V.int 9, V.int 10, V.int 33, V.int 100, V.int 1000, V.int 1000000000]) ka = some (.lst (stK.map V.int)) := upd_same
      generalize upd H ka (HO.lst [V.int 2, V.int 9, V.int 10, V.int 33, V.int 100, V.int 1000, V.int 1000000000]) = H1 at *
      refine Rd.lcR1 (fun D i acc H' => ∃ rows : List (Int × Int), DpAll K H' acc (rows.map encP2) ∧ rows.map (·.1) = stK.take i) (by omega) (fun D H' _ _ _ => ⟨[], .nil, rfl⟩) ?_ ?_
      · rintro i acc DD H' hD s hi hl2 hDl ⟨R2, h1, h2⟩
        have hk2 := s _ _ hk1
        have hbl2 := s _ _ (s1 _ _ hbl)
        have hb3 := hb3k.1
        have hi7 : (i : Int) < ((stK.map V.int).length : Int) := by show (i : Int) < 7; omega
        walk_at "rn"
        refine ixG hk2 rfl (by show i < 7; omega) ?_
        walk_at "rn"
        rename_i v9 hv8 hv9 t ht
        refine Rd.lcE hD (Rd.same_new ht _ _ hDl) (s.trans (Rd.same_new ht)) hl2 (by omega) ⟨R2 ++ [(stK.getD i 0, v9)], ?_, ?_⟩
        · rw [List.map_append]
          exact push h1 (nlMap encP2_nl) (Rd.same_new ht) (Rd.same_new ht _ _ hDl) (.tup (ds := [.int (stK.getD i 0), .int v9]) (SqT.of upd_same) (.cons (.int _) (.cons (.int _) .nil))) (encP2_nl _)
        · have hi6 : i < stK.length := by show i < 7; omega
          rw [List.map_append, h2, List.take_add_one, List.getElem?_eq_getElem hi6, List.getD_eq_getElem?_getD, List.getElem?_eq_getElem hi6]
          rfl
      rintro pD acc H2 hpD s2 hDl hal ⟨R, hR, hRk⟩
      have hRl : R.length ≤ 7 := by
        have := congrArg List.length hRk
        rw [List.length_map, List.length_take] at this
        exact Nat.le_trans (Nat.le_of_eq this) (Nat.le_trans (Nat.min_le_right _ _) (by decide))
      have s3 := s1.trans s2
      have hpD0 : H pD = none := s1.free hpD
      walk_at "rn"
      rename_i pa hpa
      have s4 := Rd.same_new (o := .lst acc.reverse) hpa
      have hpl : upd H2 pa (.lst acc.reverse) pa = some (.lst acc.reverse) := upd_same
      have hDl4 := s4 _ _ hDl
      have hR4 := dpAll_same s4 hR
      have hpa0 : H pa = none := s3.free hpa
      have s5 := s3.trans s4
      have hpp : pa ≠ pD := fun e => by rw [e, hDl] at hpa; cases hpa
      generalize upd H2 pa (.lst acc.reverse) = H4 at *
      have hL4 := hL.keep s5
      have hRr : DpAll K H4 acc.reverse (R.reverse.map encP2) := by rw [List.map_reverse]; exact dpAll_rev hR4
      have ht4 := hL4.st.t
      walk_at "rn"
      refine ⟨A, S, B, _, acc.reverse, R.reverse, rfl, hL4.st, (SqL.of hpl), hRr, (by rw [List.length_reverse]; omega), hn, fun T hTp hTs H6 A6 B6 f6 u6 st6 => ?_⟩
      obtain rfl : T = R := srt_uniq hTs (stk_srt hRk) (hTp.trans (List.reverse_perm R))
      have nO : ∀ {x : Addr}, H x = none → x ∉ A.O := fun e q => hOl _ q e
      have nD : ∀ {x : Addr}, H x = none → x ∉ D.O := fun e q => hDv _ q e
      have hp6 := f6.keep _ _ (nO hpa0) hpl
      have hD6 := f6.keep _ _ (nO hpD0) hDl4
      have hR6 := f6.dpAll (nlMap encP2_nl) hR4
      have hM6 := hL4.md.sta hL4.st hL4.z f6
      have z6 : ∀ x ∈ D.O, x ∈ A6.z := fun x hx => by rw [u6.z.1]; exact hL.z x hx
      have n6 : pa ∉ A6.O := fun q => (u6.sub _ q).elim (nO hpa0) fun e => by rw [hpl] at e; cases e
      walk_at "rn"
      rename_i px hpx
      have sx := Rd.same_new (o := .lst acc.reverse) hpx
      have hx7 : upd H6 px (.lst acc.reverse) px = some (.lst acc.reverse) := upd_same
      have hp7 := sx _ _ hp6
      have hD7 := sx _ _ hD6
      have hR7 := dpAll_same sx hR6
      have hM7 := hM6.keep sx
      have st7 := st6.keep sx
      have f7 := f6.trans (.of sx)
      generalize upd H6 px (.lst acc.reverse) = H7 at *
      have hRr7 : DpAll K H7 acc.reverse (T.reverse.map encP2) := by rw [List.map_reverse]; exact dpAll_rev hR7
      refine neSame (.lst (SqL.of hp7) hRr7) (.lst (SqL.of hx7) hRr7) (by simp only [nd]; exact ndMap fun _ => rfl) ((Sh.list fun d hd => by obtain ⟨x, _, rfl⟩ := List.mem_map.mp hd; exact encP2_sh1 x 1).shaped (by decide)) ?_
      clear hp6 hD6 hR6 hM6 st6 f6 sx hx7 hR4 hRr hpx
      walk_at "rn"
      rename_i pt hpt
      have sy := Rd.same_new (o := .tup [V.int 99, V.int 9]) hpt
      have hp8 := sy _ _ hp7
      have hD8 := sy _ _ hD7
      have hR8 := dpAll_same sy hR7
      refine Rd.appd (xs := acc.reverse) hp8 (by rw [List.length_reverse]; omega) ?_
      have hM8 := (hM7.keep sy).list (o := .lst (acc.reverse ++ [V.ref pt])) hp8 (nD hpa0)
      have st8 := (st7.keep sy).list (l' := acc.reverse ++ [V.ref pt]) hp8 n6
      have fl : Fr K [pa] (upd H7 pt (.tup [V.int 99, V.int 9])) (upd (upd H7 pt (.tup [V.int 99, V.int 9])) pa (.lst (acc.reverse ++ [V.ref pt]))) := Fr.list hp8 (List.mem_singleton.mpr rfl)
      have hD9 := fl.keep _ _ (fun q => hpp (List.mem_singleton.mp q).symm) hD8
      have hR9 := fl.dpAll (nlMap encP2_nl) hR8
      have f9 := (f7.trans (.of sy)).mono (O' := pa :: A.O) (fun x hx => List.mem_cons_of_mem _ hx) |>.trans (fl.mono (O' := pa :: A.O) fun x hx => by rw [List.mem_singleton.mp hx]; exact List.mem_cons_self)
      generalize upd (upd H7 pt (.tup [V.int 99, V.int 9])) pa (.lst (acc.reverse ++ [V.ref pt])) = H9 at *
      clear hp7 hp8 hD7 hD8 hR7 hR8 hM7 st7 f7 sy fl hpt hRr7
      walk_at "rn"
      rename_i tp htp
      have sz := Rd.same_new (o := .tup acc) htp
      have hM10 := hM8.keep sz
      have st10 := st8.keep sz
      have ht10 : SqT K (upd H9 tp (.tup acc)) tp acc := SqT.of upd_same
      have hR10 := dpAll_same sz hR9
      have f10 := f9.trans (.of sz)
      generalize upd H9 tp (.tup acc) = H10 at *
      refine ⟨D.m, _, rfl, DPut.k (k := kS) hM10.m (Nat.le_of_ble_eq_true rfl), ?_⟩
      rw [putM_stk]
      obtain ⟨q1, q2⟩ := hM10.upM (D' := { D with sk := tp }) (M' := { M with stk := T }) hL.nd ⟨rfl, rfl, rfl, rfl, rfl⟩ ⟨rfl, rfl, rfl, rfl, rfl, rfl⟩ ⟨acc, ht10, hR10⟩ hM10.clk
      have st11 := st10.mdl hM10 z6 q1 (fun x hx => by rw [List.mem_singleton.mp hx]; simp [MA.O]) (fun x hx => by rw [List.mem_singleton.mp hx, upd_same]; exact fun q => by cases q)
      walk_at "rn"
      have fin : Fr K (A.O ++ D.O) H (upd H10 D.m (.dK (mdKv { D with sk := tp }))) := Fr.shrink (O' := pa :: (A.O ++ D.O)) ((Fr.of s5).trans ((f10.mono fun x hx => by
        rcases List.mem_cons.mp hx with h | h
        · rw [h]; exact List.mem_cons_self
        · exact List.mem_cons_of_mem _ (List.mem_append_left _ h)).trans (q1.mono fun x hx => by rw [List.mem_singleton.mp hx]; simp [MA.O]))) fun x hx => by
        rcases List.mem_cons.mp hx with h | h
        · rw [h]; exact .inr hpa0
        · exact .inl h
      exact k 1 _ A6 B6 _ _ _ ⟨⟨st11, q2, hL.eq.stk_, z6, hL.nd, hL.ok⟩, u6.back (K := K) (O := A.O) (.of s5) hL4.st.liveO, ⟨u6.z.2, rfl⟩, fin, .inr ⟨rfl, _, rfl⟩, fun _ h => .inl h⟩
    · refine ⟨A, S, M, B, D, _, ns, rfl, hL, hb, hn, fun z H' A' B' S' D' M' st => ?_⟩
      exact k z H' A' B' S' D' M' st
theorem ok_law_step {f : Addr} {fd : FuncData} (mf : mg "_law_step" = some (.ref f)) (F : FnP K "_law_step" s_law_step f fd) (C_law_outputs_step : Cal P w K mg base "_law_outputs_step" 6 ["state", "model", "numbers"] (sp_law_outputs_step P w K)) (C_State_set_account : CalM P w K mg base (He.fAd K ("State", some "set_account")) 4 ["self", "key", "pair"] [] (sp_State_set_account P w K)) (C_law_pot_step : Cal P w K mg base "_law_pot_step" 5 ["state", "model", "numbers"] (sp_law_pot_step P w K)) (C_State_set_clock : CalM P w K mg base (He.fAd K ("State", some "set_clock")) 4 ["self", "slot", "epoch"] [] (sp_State_set_clock P w K)) (C_State_set_stakes : CalM P w K mg base (He.fAd K ("State", some "set_stakes")) 4 ["self", "rows"] [] (sp_State_set_stakes P w K)) (C_law_use_step : Cal P w K mg base "_law_use_step" 5 ["state", "model", "numbers"] (sp_law_use_step P w K)) (z_int : mg "int" = none) (z_range : mg "range" = none) (z_tuple : mg "tuple" = none) (W_State : CF_State K mg) : Cal P w K mg base "_law_step" 7 ["state", "model", "numbers"] (sp_law_step P w K) :=
  ⟨f, fd, mf, F.kp, F.bindsN fun _ _ _ _ _ _ us hl => match us, hl with | [_, _, _], _ => rfl, fn_law_step F C_law_outputs_step C_State_set_account C_law_pot_step C_State_set_clock C_State_set_stakes C_law_use_step z_int z_range z_tuple W_State⟩

theorem fn_law {f : Addr} {fd : FuncData} (F : FnP K "law" s_law f fd) (C_law_numbers : Cal P w K mg base "_law_numbers" 1 ["cell", "many"] (sp_law_numbers P w K)) (C_law_cell : Cal P w K mg base "_law_cell" 1 ["script", "k"] (sp_law_cell P w K)) (C_law_grants : Cal P w K mg base "_law_grants" 1 ["numbers"] (sp_law_grants P w K)) (C_State___init : CalM P w K mg base (He.fAd K ("State", some "__init__")) 6 ["self", "grants", "reserve"] [] (sp_State___init P w K)) (C_law_first : Cal P w K mg base "_law_first" 1 ["grants", "reserve"] (sp_law_first P w K)) (C_law_step : Cal P w K mg base "_law_step" 7 ["state", "model", "numbers"] (sp_law_step P w K)) (C_State_picture : CalM P w K mg base (He.fAd K ("State", some "picture")) 2 ["self"] [] (sp_State_picture P w K)) (C_law_picture : Cal P w K mg base "_law_picture" 1 ["model"] (sp_law_picture P w K)) (C_State_mark : CalM P w K mg base (He.fAd K ("State", some "mark")) 1 ["self"] [] (sp_State_mark P w K)) (C_Output_picture : CalM P w K mg base (He.fAd K ("Output", some "picture")) 1 ["self"] [] (sp_Output_picture P w K)) (C_State_output : CalM P w K mg base (He.fAd K ("State", some "output")) 1 ["self", "ref"] [] (sp_State_output P w K)) (C_State_account : CalM P w K mg base (He.fAd K ("State", some "account")) 1 ["self", "key"] [] (sp_State_account P w K)) (C_State_keys_joined : CalM P w K mg base (He.fAd K ("State", some "keys_joined")) 1 ["self"] [] (sp_State_keys_joined P w K)) (C_State_unspent : CalM P w K mg base (He.fAd K ("State", some "unspent")) 1 ["self"] [] (sp_State_unspent P w K)) (C_State_is_used : CalM P w K mg base (He.fAd K ("State", some "is_used")) 1 ["self", "number"] [] (sp_State_is_used P w K)) (C_State_stakes : CalM P w K mg base (He.fAd K ("State", some "stakes")) 1 ["self"] [] (sp_State_stakes P w K)) (z_range : mg "range" = none) (z_min : mg "min" = none) (z_max : mg "max" = none) (z_len : mg "len" = none) (z_sorted : mg "sorted" = none) (z_list : mg "list" = none) (W_State : CF_State K mg) (W_Output : CF_Output K mg) : FnOk P w K mg base CX0 8 f fd ["script"] (sp_law P w K) := by
  obtain ⟨f_law_numbers, fd_law_numbers, m_law_numbers, k_law_numbers, b_law_numbers, G_law_numbers⟩ := C_law_numbers.ex
  obtain ⟨f_law_cell, fd_law_cell, m_law_cell, k_law_cell, b_law_cell, G_law_cell⟩ := C_law_cell.ex
  obtain ⟨f_law_grants, fd_law_grants, m_law_grants, k_law_grants, b_law_grants, G_law_grants⟩ := C_law_grants.ex
  obtain ⟨fd_State___init, b_State___init, G_State___init, ds_State___init, dr_State___init, db_State___init⟩ := C_State___init.ex
  obtain ⟨f_law_first, fd_law_first, m_law_first, k_law_first, b_law_first, G_law_first⟩ := C_law_first.ex
  obtain ⟨f_law_step, fd_law_step, m_law_step, k_law_step, b_law_step, G_law_step⟩ := C_law_step.ex
  obtain ⟨fd_State_picture, b_State_picture, G_State_picture, ds_State_picture, dr_State_picture, db_State_picture⟩ := C_State_picture.ex
  obtain ⟨f_law_picture, fd_law_picture, m_law_picture, k_law_picture, b_law_picture, G_law_picture⟩ := C_law_picture.ex
  obtain ⟨fd_State_mark, b_State_mark, G_State_mark, ds_State_mark, dr_State_mark, db_State_mark⟩ := C_State_mark.ex
  obtain ⟨fd_Output_picture, b_Output_picture, G_Output_picture, ds_Output_picture, dr_Output_picture, db_Output_picture⟩ := C_Output_picture.ex
  obtain ⟨fd_State_output, b_State_output, G_State_output, ds_State_output, dr_State_output, db_State_output⟩ := C_State_output.ex
  obtain ⟨fd_State_account, b_State_account, G_State_account, ds_State_account, dr_State_account, db_State_account⟩ := C_State_account.ex
  obtain ⟨fd_State_keys_joined, b_State_keys_joined, G_State_keys_joined, ds_State_keys_joined, dr_State_keys_joined, db_State_keys_joined⟩ := C_State_keys_joined.ex
  obtain ⟨fd_State_unspent, b_State_unspent, G_State_unspent, ds_State_unspent, dr_State_unspent, db_State_unspent⟩ := C_State_unspent.ex
  obtain ⟨fd_State_is_used, b_State_is_used, G_State_is_used, ds_State_is_used, dr_State_is_used, db_State_is_used⟩ := C_State_is_used.ex
  obtain ⟨fd_State_stakes, b_State_stakes, G_State_stakes, ds_State_stakes, dr_State_stakes, db_State_stakes⟩ := C_State_stakes.ex
  have cf_State := W_State
  have cfc_State := cf_State.cls
  have cfn_State_epoch := cf_State.n_epoch
  have cfn_State_fees := cf_State.n_fees
  have cfn_State_reserve := cf_State.n_reserve
  have cfn_State_slot := cf_State.n_slot
  have cfn_State_treasury := cf_State.n_treasury
  have cf_Output := W_Output
  have cfc_Output := cf_Output.cls
  refine F.ok sc_law (fun vs H Q E h => ?_) (fun cdv A outer s H vs Q E hr h => ?_)
  · obtain ⟨a, ns, rfl, _⟩ := h; rfl
  · obtain ⟨a, ns, rfl, hS, h63, k⟩ := h
    refine ⟨_, PSs.nox (pss_cons (ps_set (i := 1) sc_law.nd rfl (by first | exact Or.inl rfl | exact Or.inr rfl) (pe_call G_law_numbers (hr.mono (by decide)) (by rfl) m_law_numbers k_law_numbers b_law_numbers .nil pass0 (pa_cons (pe_call G_law_cell (hr.mono (by decide)) (by rfl) m_law_cell k_law_cell b_law_cell .nil pass0 (pa_cons (pv 0) (pa_cons pe_int pa_nil))) (pa_cons pe_int pa_nil))))
      (pss_cons (ps_set (i := 2) sc_law.nd rfl (by first | exact Or.inl rfl | exact Or.inr rfl) (pe_call G_law_grants (hr.mono (by decide)) (by rfl) m_law_grants k_law_grants b_law_grants .nil pass0 (pa_cons (pv 1) pa_nil)))
      (pss_cons (ps_set (i := 3) sc_law.nd rfl (by first | exact Or.inl rfl | exact Or.inr rfl) (pe_make cf_State.mkr G_State___init (hr.mono (by decide)) (by rfl) cf_State.m b_State___init .nil pass0 (pa_cons (pv 2) (pa_cons (pe_ix ix_list (pv 1) pe_int (fun _ _ => rfl)) pa_nil))))
      (pss_cons (ps_set (i := 4) sc_law.nd rfl (by first | exact Or.inl rfl | exact Or.inr rfl) (pe_call G_law_first (hr.mono (by decide)) (by rfl) m_law_first k_law_first b_law_first .nil pass0 (pa_cons (pv 2) (pa_cons (pe_ix ix_list (pv 1) pe_int (fun _ _ => rfl)) pa_nil))))
      (pss_cons (ps_set (i := 5) sc_law.nd rfl (by first | exact Or.inl rfl | exact Or.inr rfl) pe_int)
      (pss_cons (ps_for PassesOwn.never rfl (pi_range2 (by rfl) z_range (pa_cons pe_int (pa_cons (pe_callB (call_min2 rfl) (by rfl) z_min boot_min (pa_cons pe_int (pa_cons (pe_callB (call_max2 rfl) (by rfl) z_max boot_max (pa_cons pe_int (pa_cons (pe_callB call_len_seq (by rfl) z_len boot_len (pa_cons (pv 0) pa_nil)) pa_nil))) pa_nil))) pa_nil))) (pg_name (i := 6) sc_law.nd rfl (by first | exact Or.inl rfl | exact Or.inr rfl)) (pss_cons (ps_set (i := 1) sc_law.nd rfl (by first | exact Or.inl rfl | exact Or.inr rfl) (pe_call G_law_numbers (hr.mono (by decide)) (by rfl) m_law_numbers k_law_numbers b_law_numbers .nil pass0 (pa_cons (pe_call G_law_cell (hr.mono (by decide)) (by rfl) m_law_cell k_law_cell b_law_cell .nil pass0 (pa_cons (pv 0) (pa_cons (pv 6) pa_nil))) (pa_cons pe_int pa_nil))))
      (pss_cons (ps_set (i := 11) sc_law.nd rfl (by first | exact Or.inl rfl | exact Or.inr rfl) (pe_call G_law_step (hr.mono (by decide)) (by rfl) m_law_step k_law_step b_law_step .nil pass0 (pa_cons (pv 3) (pa_cons (pv 4) (pa_cons (pv 1) pa_nil)))))
      (pss_cons (ps_if (pt_cmpR op_lt (pv 11) pe_int (nomark _)) (pss_one (ps_ret pe_bl)) pss_nil)
      (pss_cons (ps_set (i := 5) sc_law.nd rfl (by first | exact Or.inl rfl | exact Or.inr rfl) (pe_op op_add (pv 5) (pv 11)))
      (pss_one (ps_if (PW.pt (pw_or (pt_cmpR op_ne (pe_meth0 (pv 3) cf_State.cls cf_State.mt_mark G_State_mark (hr.mono (by decide)) b_State_mark .nil pass0) (pv 5) (nomark _)) (pw_or1 (pt_cmpR (op_neD hr.units) (pe_meth0 (pv 3) cf_State.cls cf_State.mt_picture G_State_picture (hr.mono (by decide)) b_State_picture .nil pass0) (pe_call G_law_picture (hr.mono (by decide)) (by rfl) m_law_picture k_law_picture b_law_picture .nil pass0 (pa_cons (pv 4) pa_nil)) (nomark _))))) (pss_one (ps_ret pe_bl)) pss_nil)))))))
      (pss_cons (ps_lock (ps_for PassesOwn.never rfl (Es.pi_keysX (L2.pe_dget (hu_of hr) (pv 4) pe_str (fun _ _ => rfl))) (pg_name (i := 7) sc_law.nd rfl (by first | exact Or.inl rfl | exact Or.inr rfl)) (pss_one (ps_if (pt_cmpR (op_neD hr.units) (pe_meth0 (pe_meth (pv 3) cf_State.cls cf_State.mt_output G_State_output (hr.mono (by decide)) b_State_output .nil pass0 (pa_cons (pv 7) pa_nil)) cf_Output.cls cf_Output.mt_picture G_Output_picture (hr.mono (by decide)) b_Output_picture .nil pass0) (Es.pe_dgetR (P := P) (w := w) (K := K) rfl rfl rfl (hu_of hr) (L2.pe_dget (hu_of hr) (pv 4) pe_str (fun _ _ => rfl)) (pv 7) (fun _ _ => rfl)) (nomark _)) (pss_one (ps_ret pe_bl)) pss_nil))))
      (pss_cons (ps_for PassesOwn.never rfl (pi_list (pe_lst (pa_cons pe_int (pa_cons pe_int (pa_cons pe_int (pa_cons pe_int (pa_cons pe_int (pa_cons pe_int (pa_cons (pe_op op_pow pe_int pe_int) pa_nil))))))))) (pg_name (i := 8) sc_law.nd rfl (by first | exact Or.inl rfl | exact Or.inr rfl)) (pss_one (ps_if (pt_cmpR (op_neD hr.units) (pe_meth (pv 3) cf_State.cls cf_State.mt_account G_State_account (hr.mono (by decide)) b_State_account .nil pass0 (pa_cons (pv 8) pa_nil)) (L2.pe_dget1 (hu_of hr) (L2.pe_dget (hu_of hr) (pv 4) pe_str (fun _ _ => rfl)) (pv 8) ⟨rfl, rfl, rfl, rfl⟩) (nomark _)) (pss_one (ps_ret pe_bl)) pss_nil)))
      (pss_cons (ps_if (PW.pt (pw_or (pt_cmpR (op_neD hr.units) (pe_meth0 (pv 3) cf_State.cls cf_State.mt_unspent G_State_unspent (hr.mono (by decide)) b_State_unspent .nil pass0) (pe_callB Es.cr_sortedLI (by rfl) z_sorted boot_sorted (pa_cons (pe_callTy (Es.cr_listX rfl) (by rfl) z_list boot_list (pa_cons (L2.pe_dget (hu_of hr) (pv 4) pe_str (fun _ _ => rfl)) pa_nil)) pa_nil)) (nomark _)) (pw_or1 (pt_cmpR (op_neD hr.units) (pe_meth0 (pv 3) cf_State.cls cf_State.mt_keys_joined G_State_keys_joined (hr.mono (by decide)) b_State_keys_joined .nil pass0) (pe_callB cr_sortedI (by rfl) z_sorted boot_sorted (pa_cons (pe_callTy (call_listD rfl) (by rfl) z_list boot_list (pa_cons (L2.pe_dget (hu_of hr) (pv 4) pe_str (fun _ _ => rfl)) pa_nil)) pa_nil)) (nomark _))))) (pss_one (ps_ret pe_bl)) pss_nil)
      (pss_cons (ps_for PassesOwn.never rfl (pi_list (pe_lst (pa_cons pe_int (pa_cons pe_int (pa_cons pe_int (pa_cons pe_int (pa_cons pe_int (pa_cons pe_int (pa_cons pe_int (pa_cons (pe_op op_pow pe_int pe_int) (pa_cons (pe_op op_sub (pe_op op_pow pe_int pe_int) pe_int) (pa_cons (pe_op op_sub (pe_op op_pow pe_int pe_int) pe_int) pa_nil)))))))))))) (pg_name (i := 9) sc_law.nd rfl (by first | exact Or.inl rfl | exact Or.inr rfl)) (pss_one (ps_if (pt_cmpR op_ne (pe_meth (pv 3) cf_State.cls cf_State.mt_is_used G_State_is_used (hr.mono (by decide)) b_State_is_used .nil pass0 (pa_cons (pv 9) pa_nil)) (pe_cmpR op_in_seq (pv 9) (L2.pe_dget (hu_of hr) (pv 4) pe_str (fun _ _ => rfl)) (by rfl)) (nomark _)) (pss_one (ps_ret pe_bl)) pss_nil)))
      (pss_cons (ps_set (i := 10) sc_law.nd rfl (by first | exact Or.inl rfl | exact Or.inr rfl) (pe_tup (pa_cons (pe_fld (pv 3) rfl) (pa_cons (pe_fld (pv 3) rfl) (pa_cons (pe_fld (pv 3) rfl) (pa_cons (pe_fld (pv 3) rfl) (pa_cons (pe_fld (pv 3) rfl) pa_nil)))))))
      (pss_cons (ps_if (pt_cmpR (op_neD hr.units) (pv 10) (pe_op op_catA (pe_tup (pa_cons (pe_ix ix_list (L2.pe_dget (hu_of hr) (pv 4) pe_str (fun _ _ => rfl)) pe_int (fun _ _ => rfl)) (pa_cons (pe_ix ix_list (L2.pe_dget (hu_of hr) (pv 4) pe_str (fun _ _ => rfl)) pe_int (fun _ _ => rfl)) (pa_cons (pe_ix ix_list (L2.pe_dget (hu_of hr) (pv 4) pe_str (fun _ _ => rfl)) pe_int (fun _ _ => rfl)) pa_nil)))) (L2.pe_dget (hu_of hr) (pv 4) pe_str (fun _ _ => rfl))) (nomark _)) (pss_one (ps_ret pe_bl)) pss_nil)
      (pss_one (ps_ret (pe_and (pe_cmpR (op_eqD hr.units) (pe_meth0 (pv 3) cf_State.cls cf_State.mt_stakes G_State_stakes (hr.mono (by decide)) b_State_stakes .nil pass0) (pe_callTy call_list_of (by rfl) z_list boot_list (pa_cons (L2.pe_dget (hu_of hr) (pv 4) pe_str (fun _ _ => rfl)) pa_nil)) (nomark _)) (pe_one (pe_cmpR op_isN (pe_meth (pv 3) cf_State.cls cf_State.mt_output G_State_output (hr.mono (by decide)) b_State_output .nil pass0 (pa_cons (pe_tup (pa_cons pe_int (pa_cons pe_int pa_nil))) pa_nil)) pe_non (nomark _)))))))))))))))))), ?_⟩
    try simp only [Rd.cxK, Re.cxP, Re.cxW, lit_17, lit_18, lit_19, lit_7, lit_8, lit_9]
    walk_at "rn"
    refine ⟨_, ?u26_ns, _, rfl, ?u26_p0, ?u26_p1, fun z0 => ?_⟩
    case u26_p0 => walk_at "pre"
    case u26_p1 => walk_at "pre"
    walk_at "rn"
    refine ⟨_, _, rfl, ?u27_p0, fun pn nums H1 s1 hpn hn1 hnl hb3 => ?_⟩
    case u27_p0 => walk_at "pre"
    walk_at "rn"
    refine ⟨_, ?u28_ns, rfl, ?u28_p0, ?u28_p1, ?u28_p2, fun pg xs G H2 s2 hpg hg hG hG0 hGl => ?_⟩
    case u28_p0 => walk_at "pre"
    case u28_p1 => walk_at "pre"
    case u28_p2 => walk_at "pre"
    have hS2 := (s1.trans s2).seq hS
    have hn2 := s2 _ _ hn1
    have g7 := (show nums.getD (Int.toNat 7) 0 = nums.getD 7 0 from rfl)
    generalize nums.getD 7 0 = r7 at g7
    have hb3k : B3 nums ∧ True := ⟨hb3, trivial⟩
    clear hb3
    walk_at "rn"
    rw [g7]
    refine mkSt (xs := xs) (G := G) (SqL.of hg) hG hG0 (by omega) fun H4 A B s4 hO L => ?_
    have hg4 := s4 _ _ hg
    have hn4 := s4 _ _ hn2
    have hG4 := dpAll_same s4 hG
    walk_at "rn"
    rw [g7]
    refine ⟨_, xs, G, _, rfl, (SqL.of hg4), hG4, hGl, fun D H5 s5 hD0 hDn hM => ?_⟩
    have s04 : Same H H4 := (s1.trans s2).trans s4
    have hol : (stZ G r7).outs.length = G.length := by show (G.mapIdx _).length = _; rw [List.length_mapIdx]
    obtain ⟨A2, eA, L0, hV0⟩ := Lw.start (H0 := H) L (fun x hx => (s1.trans s2).free (hO x hx)) s5 hM hD0 hDn s04
    rw [eA]
    have hS5 := (s4.trans s5).seq hS2
    have s05 := (s1.trans s2).trans (s4.trans s5)
    clear hg4 hG4 hO L hM hD0 hDn hg hG hn1 hn2 hn4 hS2 s1 s2 s4 s5
    walk_at "rn"
    rename_i m1 hm0 hm1 hm2 m2 hm3 hm4 hm5
    refine Rd.rng2 (fun i σ' H' => ∃ A S B D' M, ∃ c1 c6 c7 c8 c9 c10 c11,  σ' = [some (.ref a), c1, some (.ref pg), some (.ref A2.t), some (.ref D.m), some (.int (S.chg.length : Int)), c6, c7, c8, c9, c10, c11] ∧ A.t = A2.t ∧ D'.m = D.m ∧ Lw P w K H' A S B D' M ∧ Same H H' ∧ (∀ x ∈ A.V, H x = none) ∧ S.n = 20 + 2 * i ∧ S.accs.length ≤ i ∧ S.used.length ≤ i ∧ S.fgt = 0 ∧ ∀ p ∈ S.outs.map (·.1), p.1 < 5) (by omega) ⟨A2, { stZ G r7 with n := 20 }, B, D, stZ G r7, _, _, _, _, _, _, _,  rfl, rfl, rfl, L0.upto hGl, s05, hV0, rfl, Nat.le_refl _, Nat.le_refl _, rfl, fun p hp => by have hp2 : p ∈ (stZ G r7).outs.map (·.1) := hp; rw [mapIdx_keys] at hp2; obtain ⟨j, _, rfl⟩ := List.mem_map.mp hp2; show (0 : Int) < 5; omega⟩ ?_ ?_
    · rintro i σ' H6 hi ⟨A, S, B, D', M, c1, c6, c7, c8, c9, c10, c11,  rfl, eAt, eDm, L, sH, hV, hn, hac, hus, hf, hk5⟩
      have hS6 := sH.seq hS
      rw [← eAt, ← eDm]
      walk_at "rn"
      refine ⟨_, ?u30_ns, _, rfl, ?u30_p0, ?u30_p1, fun cz => ?_⟩
      case u30_p0 => walk_at "pre"
      case u30_p1 => walk_at "pre"
      walk_at "rn"
      refine ⟨_, _, rfl, ?u31_p0, fun pb ns2 H7 s7 hpb hb1 hbl hb3 => ?_⟩
      case u31_p0 => walk_at "pre"
      obtain ⟨T, L7, tn, tf, tc, ta, tu, to, tr⟩ := (L.keep s7).room (m := 22 + 2 * i) (by omega)
      walk_at "rn"
      refine ⟨A, T, M, B, D', _, ns2, rfl, L7, ⟨hb1, hb3, by omega, fun q => (L.st.liveV _ q) hpb⟩, ⟨tr.1, tr.2, by omega, by rw [ta]; omega, by rw [tu]; omega⟩, fun z H8 A8 B8 S8 D8 M8 st8 => ?_⟩
      obtain ⟨sH8, hV8⟩ := st8.run (sH.trans s7) hV L7.z
      obtain ⟨q1, q2, q3, q4, q5, q6, q7⟩ := st8.len
      have L8 := st8.lw
      obtain ⟨t1, t2⟩ := st8.t
      have ht8 := L8.st.t
      rw [t1] at ht8
      rw [ta] at q1
      rw [tu] at q2
      rw [tn] at q3
      rw [tf, hf] at q4
      rw [tc] at q5
      have hk8 : ∀ p ∈ S8.outs.map (·.1), p.1 < 5 := fun p hp => (st8.ks p hp).elim (fun q => hk5 p (by rw [← to]; exact q)) id
      have h8o := L8.st.lo
      have h8m := L8.eq.outs.length_eq
      have h8a := L8.eq.accs.length_eq
      have h8u := L8.eq.used.length_eq
      clear st8 L7 L s7 hb1 hb3 hpb hS6 tr to q7 tn tf tc ta tu
      rw [← t1] at ht8
      rw [← t1, ← t2]
      walk_at "rn"
      refine ⟨A8, S8, B8, rfl, L8.st, (by omega), ?_⟩
      rw [show S8.fgt + (S8.chg.length : Int) = (S.chg.length : Int) + z by omega]
      walk_at "rn"
      refine ⟨A8, S8, B8, rfl, L8.st, ⟨by omega, by omega, by omega⟩, fun p1 d1 H9 s9 hp1 pc1 dp1 => ?_⟩
      walk_at "rn"
      refine ⟨D8, M8, rfl, (L8.md.keep s9), ⟨by omega, by omega, by omega⟩, fun p2 d2 H10 s10 pc2 dp2 => ?_⟩
      obtain ⟨ed, psh, pnd⟩ := lw_pic L8 pc1 pc2
      subst ed
      refine neSame (Rd.dp_same s10 dp1) dp2 pnd psh ?_
      walk_at "rn"
      rw [← q5]
      exact ⟨A8, S8, B8, D8, M8, _, _, _, _, _, _, _,  rfl, rfl, rfl, L8.keep (s9.trans s10), sH8.trans (s9.trans s10), hV8, by omega, by omega, by omega, q4, hk8⟩
    rintro σ' H6 ⟨A, S, B, D', M, c1, c6, c7, c8, c9, c10, c11,  rfl, eAt, eDm, L, sH, hV, hn, hac, hus, hf, hk5⟩
    rw [← eAt, ← eDm]
    have hj : (m2 - 1).toNat ≤ 62 := by omega
    generalize (m2 - 1).toNat = j at *
    have h6o := L.st.lo
    have h6m := L.eq.outs.length_eq
    have h6a := L.eq.accs.length_eq
    have h6u := L.eq.used.length_eq
    clear L0 hV0 s05 hS5 eA s04 hb3k g7 hm0 hm1 hm2 hm3 hm4 hm5 hpn hpg hnl hol eAt eDm
    obtain ⟨kv, hDo, hPo⟩ := L.md.outs
    obtain ⟨kx, hdx, rel, hDR⟩ := Re.DS.lock hDo
    have hnD := MA.ne L.nd
    have hmd : ∀ g, upd H6 D'.o (.frz g (dX P w D'.o kx)) D'.m = some (.dK (mdKv D')) := fun g => (upd_ne (Ne.symm hnD.2.2.2)).trans L.md.m
    have hmm := L.md.m
    have ht := L.st.t
    walk_at "rn"
    refine Re.lockS hdx Es.dX_mut fun g => ?_
    have fl : Fr K [D'.o] H6 (upd H6 D'.o (.frz g (dX P w D'.o kx))) := Fr.dict hdx (List.mem_singleton.mpr rfl)
    have stL := L.st.mdl L.md L.z fl (fun x hx => by rw [List.mem_singleton.mp hx]; simp [MA.O]) (fun x hx => by rw [List.mem_singleton.mp hx, upd_same]; exact fun q => by cases q)
    have hmL := hmd g
    have hRL := hDR g
    have relL : KTS K (upd H6 D'.o (.frz g (dX P w D'.o kx))) kv kx := rel.keeps fun q ys hq => fl.tup _ _ hq
    have hPL : Paired (MoR K (upd H6 D'.o (.frz g (dX P w D'.o kx)))) kv M.outs := Paired.mapP hPo fun _ _ ⟨e, q⟩ => ⟨e, fl.dp (encTr_nl _) q⟩
    have hfz : upd H6 D'.o (.frz g (dX P w D'.o kx)) D'.o = some (.frz g (dX P w D'.o kx)) := upd_same
    have sU : ∀ {H1 : Hp}, Same (upd H6 D'.o (.frz g (dX P w D'.o kx))) H1 → Same H6 (upd H1 D'.o (dX P w D'.o kx)) := fun s => Re.same_unlock hdx s
    clear hmd hDR
    generalize upd H6 D'.o (.frz g (dX P w D'.o kx)) = HL at *
    have htL := stL.t
    walk_at "rn"
    refine mdGO hmL ?_
    refine ⟨D'.o, g, kx, rfl, hfz, Re.forKeysX (fun i σ' H' => ∃ c1 c6 c7 c8 c9 c10 c11,  σ' = [some (.ref a), c1, some (.ref pg), some (.ref A.t), some (.ref D'.m), some (.int (S.chg.length : Int)), c6, c7, c8, c9, c10, c11] ∧ Same HL H') hfz ⟨_, _, _, _, _, _, _,  rfl, Same.refl _⟩ (fun i σ' H' _ ⟨c1, c6, c7, c8, c9, c10, c11,  _, s⟩ => s _ _ hfz) ?_ ?_⟩
    · rintro i e σ' H7 hi ⟨c1, c6, c7, c8, c9, c10, c11,  rfl, s⟩
      obtain ⟨x, hx, r1, r2, r3⟩ := paired_at2 relL hi
      obtain ⟨f, hf2, q1, q2⟩ := paired_at1 hPL hx
      have hfm := List.mem_of_getElem? hf2
      have st7 := stL.keep s
      have ht7 := st7.t
      have hm7 := s _ _ hmL
      have hr7 : SqT K H7 e.2.1 [.int f.1.1, .int f.1.2] := by have := Rd.same_tup s r2; rw [q1] at this; exact this
      have hlm : lookM M.outs f.1 = some f.2 := lookM_mem L.md.ond hfm
      have hls : lookM S.outs f.1 = some f.2 := (lookM_perm L.eq.outs L.md.ond f.1).symm.trans hlm
      have okf := L.ok f hfm
      walk_at "rn"
      refine ⟨A, S, B, e.2.1, f.1, rfl, st7, hr7, fun v hv => ?_⟩
      rcases hv with ⟨t, h1, ho⟩ | ⟨h1, _⟩
      rotate_left
      · rw [hls] at h1; cases h1
      obtain rfl : t = f.2 := Option.some.inj (h1.symm.trans hls)
      obtain ⟨o, odx, oz, oc, odd, rfl, hrest⟩ := id ho
      have ho1 := hrest.2.1
      walk_at "rn"
      refine ⟨o, A.V, f.2, rfl, ho, fun p1 H8 s8 hp1 hP1 => ?_⟩
      have hm8 := s8 _ _ hm7
      obtain ⟨v8, hv8, hvd⟩ : ∃ v, valV kv (eR f.1) = some v ∧ Dp K HL v (encTr f.2) := by
        rcases mo_look (p := f.1) hPL with ⟨t, v, g1, g2, g3⟩ | ⟨g1, _⟩
        · cases g1.symm.trans hlm
          exact ⟨v, g2, g3⟩
        · rw [hlm] at g1; cases g1
      walk_at "rn"
      refine Re.dgetR ?_
      walk_at "rn"
      refine mdGO hm8 ?_
      walk_at "rn"
      refine ⟨D'.o, v8, rfl, ⟨kv, eR f.1, e.2.1, DR.keep hRL (s.trans s8), rfl, Rd.same_tup s8 hr7, hv8.symm⟩, ?_⟩
      refine neSame hP1 (Rd.dp_same (s.trans s8) hvd) (encTr_nd _) ((encTr_sh okf.1 okf.2).shaped (by decide)) ?_
      walk_at "rn"
      exact ⟨_, _, _, _, _, _, _,  rfl, s.trans s8⟩
    rintro σ' H7 ⟨c1, c6, c7, c8, c9, c10, c11,  rfl, s⟩
    refine ⟨s _ _ hfz, ?_⟩
    have s7 := sU s
    generalize upd H7 D'.o (dX P w D'.o kx) = H8 at *
    have L8 := L.keep s7
    have sH8 := sH.trans s7
    clear stL hmL hRL relL hPL hfz sU htL s s7 L hDo hPo hdx rel hmm fl sH ht
    walk_at "rn"
    rename_i l2 hl2
    have hl3 : upd H8 l2 (.lst [V.int 0, V.int 1, V.int 2, V.int 9, V.int 10, V.int 100, V.int 1000000000]) l2 = some (.lst (([0, 1, 2, 9, 10, 100, 1000000000] : List Int).map V.int)) := upd_same
    have L9 := L8.keep (Rd.same_new (o := .lst [V.int 0, V.int 1, V.int 2, V.int 9, V.int 10, V.int 100, V.int 1000000000]) hl2)
    generalize upd H8 l2 (.lst [V.int 0, V.int 1, V.int 2, V.int 9, V.int 10, V.int 100, V.int 1000000000]) = H9 at *
    clear L8
    refine Rd.forL (fun i σ' H' => ∃ c1 c6 c7 c8 c9 c10 c11,  σ' = [some (.ref a), c1, some (.ref pg), some (.ref A.t), some (.ref D'.m), some (.int (S.chg.length : Int)), c6, c7, c8, c9, c10, c11] ∧ Same H9 H') (SqL.of hl3) ⟨_, _, _, _, _, _, _,  rfl, Same.refl _⟩ (fun i σ' H' _ ⟨c1, c6, c7, c8, c9, c10, c11,  _, s⟩ => SqL.of (s _ _ hl3)) ?_ ?_
    · rintro i x σ' H' hi ⟨c1, c6, c7, c8, c9, c10, c11,  rfl, s⟩
      rw [List.getElem?_map] at hi
      obtain ⟨y, _, rfl⟩ := Option.map_eq_some_iff.mp hi
      have L10 := L9.keep s
      have ht10 := L10.st.t
      have hM10 := L10.md
      walk_at "rn"
      refine ⟨A, S, B, y, rfl, L10.st, fun v hv => ?_⟩
      obtain ⟨av, d, hA, d1, d2, d3, d4⟩ := lw_acc L10 hv
      walk_at "rn"
      refine ⟨D'.ac, rfl, isDK hA, ?_⟩
      walk_at "rn"
      refine ⟨_, DGet.k (k := .inl y) hA, ?_⟩
      refine neSame d1 d2 d3 d4 ?_
      walk_at "rn"
      exact ⟨_, _, _, _, _, _, _,  rfl, s⟩
    rintro σ' H10 ⟨c1, c6, c7, c8, c9, c10, c11,  rfl, s⟩
    have L10 := L9.keep s
    have ht10 := L10.st.t
    have hM10 := L10.md
    clear L9 hl3
    walk_at "rn"
    refine ⟨A, S, B, rfl, L10.st, fun q ys R H11 s11 hq hqy hR hRs hRp => ?_⟩
    have hM11 := hM10.keep s11
    obtain ⟨kv, hDo, hPo⟩ := hM11.outs
    walk_at "rn"
    refine ⟨D'.o, kv, rfl, hDo, fun ps l hps hl0 => ?_⟩
    have hKD := keysR (R := M.outs.map (·.1)) hps (mo_keys hPo)
    have t1 := Rd.same_new (o := .lst (ps.map V.ref)) hl0
    walk_at "rn"
    refine ⟨l, ps.map V.ref, M.outs.map (·.1), rfl, SqL.of upd_same, dpAll_same t1 hKD, fun R2 ys2 q2 hRp2 hRs2 hq2 hys2 => ?_⟩
    have t2 := t1.trans (Rd.same_new (o := .lst ys2) hq2)
    have hys3 := dpAll_same (Rd.same_new (o := .lst ys2) hq2) hys2
    have hq3 : upd (upd H11 l (.lst (ps.map V.ref))) q2 (.lst ys2) q2 = some (.lst ys2) := upd_same
    generalize upd (upd H11 l (.lst (ps.map V.ref))) q2 (.lst ys2) = H12 at *
    obtain rfl : R = R2 := srt_uniq hRs hRs2 (hRp.trans ((L10.eq.outs.map _).symm.trans hRp2.symm))
    refine neSame (.lst (SqL.of (t2 _ _ hqy)) (dpAll_same t2 hR)) (.lst (SqL.of hq3) hys3) (p2s_nd R) (p2s_sh R) ?_
    have L12 := L10.keep (s11.trans t2)
    have ht12 := L12.st.t
    have hM12 := L12.md
    clear L10 ht10 hM10 hM11 hDo hPo t1 t2 hKD hys2 hys3 hq3 hqy hR hRs hRs2 hRp hRp2
    walk_at "rn"
    refine ⟨A, S, B, rfl, L12.st, (by omega), fun q2' ks H13 s13 hq2' hqk hks hkp => ?_⟩
    have hM13 := hM12.keep s13
    obtain ⟨av, hA, hAP⟩ := hM13.accs
    walk_at "rn"
    refine ⟨D'.ac, av, rfl, .inl hA, fun l2' hl2' => ?_⟩
    rw [show (av.map fun kv => kV kv.1) = (M.accs.map (·.1)).map V.int from by
      have := congrArg (List.map kV) (accs_keys hAP)
      rw [List.map_map, List.map_map, List.map_map] at this
      rw [List.map_map]
      exact this]
    walk_at "rn"
    refine ⟨l2', M.accs.map (·.1), rfl, SqL.of upd_same, fun ks2 q3' hkp2 hks2 hq3' => ?_⟩
    have t3 := (Rd.same_new (o := .lst ((M.accs.map (·.1)).map V.int)) hl2').trans (Rd.same_new (o := .lst (ks2.map V.int)) hq3')
    have hqk2 : upd (upd H13 l2' (.lst ((M.accs.map (·.1)).map V.int))) q3' (.lst (ks2.map V.int)) q3' = some (.lst (ks2.map V.int)) := upd_same
    generalize upd (upd H13 l2' (.lst ((M.accs.map (·.1)).map V.int))) q3' (.lst (ks2.map V.int)) = H14 at *
    obtain rfl : ks = ks2 := int_uniq hks hks2 (hkp.trans ((L12.eq.accs.map _).symm.trans hkp2.symm))
    refine neSame (.lst (SqL.of (t3 _ _ hqk)) dp_ints) (.lst (SqL.of hqk2) dp_ints) (ints_nd ks) (ints_sh ks) ?_
    have L14 := L12.keep (s13.trans t3)
    have ht14 := L14.st.t
    have hM14 := L14.md
    clear L12 ht12 hM12 hM13 hA hAP t3 hqk hqk2 hks hks2 hkp hkp2
    walk_at "rn"
    rename_i l4 hl4
    have hl5 : upd H14 l4 (.lst [V.int 1, V.int 2, V.int 3, V.int 4, V.int 5, V.int 6, V.int 7, V.int 1000000000, V.int (1000000000 - 1), V.int (1000000000 - 2)]) l4 = some (.lst (([1, 2, 3, 4, 5, 6, 7, 1000000000, 1000000000 - 1, 1000000000 - 2] : List Int).map V.int)) := upd_same
    have L15 := L14.keep (Rd.same_new (o := .lst [V.int 1, V.int 2, V.int 3, V.int 4, V.int 5, V.int 6, V.int 7, V.int 1000000000, V.int (1000000000 - 1), V.int (1000000000 - 2)]) hl4)
    generalize upd H14 l4 (.lst [V.int 1, V.int 2, V.int 3, V.int 4, V.int 5, V.int 6, V.int 7, V.int 1000000000, V.int (1000000000 - 1), V.int (1000000000 - 2)]) = H15 at *
    clear L14 ht14 hM14
    refine Rd.forL (fun i σ' H' => ∃ c1 c6 c7 c8 c9 c10 c11,  σ' = [some (.ref a), c1, some (.ref pg), some (.ref A.t), some (.ref D'.m), some (.int (S.chg.length : Int)), c6, c7, c8, c9, c10, c11] ∧ Same H15 H') (SqL.of hl5) ⟨_, _, _, _, _, _, _,  rfl, Same.refl _⟩ (fun i σ' H' _ ⟨c1, c6, c7, c8, c9, c10, c11,  _, s⟩ => SqL.of (s _ _ hl5)) ?_ ?_
    · rintro i x σ' H' hi ⟨c1, c6, c7, c8, c9, c10, c11,  rfl, s⟩
      rw [List.getElem?_map] at hi
      obtain ⟨y, _, rfl⟩ := Option.map_eq_some_iff.mp hi
      have L16 := L15.keep s
      have ht16 := L16.st.t
      have hM16 := L16.md
      walk_at "rn"
      refine ⟨A, S, B, y, rfl, L16.st, ?_⟩
      walk_at "rn"
      refine inI hM16.used ?_
      rw [show decide (y ∈ S.used) = decide (y ∈ M.used) from decide_eq_decide.mpr L16.eq.used.symm.mem_iff]
      refine Rd.neB ⟨_, rfl, ?_⟩
      rw [if_neg (by simp)]
      walk_at "rn"
      exact ⟨_, _, _, _, _, _, _,  rfl, s⟩
    rintro σ' H16 ⟨c1, c6, c7, c8, c9, c10, c11,  rfl, s⟩
    have L16 := L15.keep s
    have ht16 := L16.st.t
    have hM16 := L16.md
    clear L15 hl5
    walk_at "rn"
    rename_i t1 ht1
    have s1 := Rd.same_new (o := .tup [V.int S.fees, V.int S.res, V.int S.tre, V.int S.slot, V.int S.epo]) ht1
    have q1 : SqT K (upd H16 t1 (.tup [V.int S.fees, V.int S.res, V.int S.tre, V.int S.slot, V.int S.epo])) t1 [V.int S.fees, V.int S.res, V.int S.tre, V.int S.slot, V.int S.epo] := SqT.of upd_same
    have L17 := L16.keep s1
    generalize upd H16 t1 (.tup [V.int S.fees, V.int S.res, V.int S.tre, V.int S.slot, V.int S.epo]) = H17 at *
    have ht17 := L17.st.t
    have hM17 := L17.md
    have hp17 := hM17.pots
    clear L16 ht16 hM16
    walk_at "rn"
    rename_i t2 ht2
    have s2 := Rd.same_new (o := .tup [V.int M.fees, V.int M.res, V.int M.tre]) ht2
    have q2 : SqT K (upd H17 t2 (.tup [V.int M.fees, V.int M.res, V.int M.tre])) t2 [V.int M.fees, V.int M.res, V.int M.tre] := SqT.of upd_same
    have L18 := L17.keep s2
    have q12 := Rd.same_tup s2 q1
    generalize upd H17 t2 (.tup [V.int M.fees, V.int M.res, V.int M.tre]) = H18 at *
    have hM18 := L18.md
    clear L17 ht17 hM17 hp17 q1
    walk_at "rn"
    refine Rb.catA q2 hM18.clk (by simp) fun t3 H19 s3 h3 => ?_
    have L19 := L18.keep s3
    have q13 := Rd.same_tup s3 q12
    have eq := L19.eq
    refine neSame (d := .tuple [.int S.fees, .int S.res, .int S.tre, .int S.slot, .int S.epo]) (.tup q13 (.cons (.int _) (.cons (.int _) (.cons (.int _) (.cons (.int _) (.cons (.int _) .nil)))))) (.tup h3 (by rw [eq.fees, eq.res, eq.tre, eq.slot, eq.epo]; exact .cons (.int _) (.cons (.int _) (.cons (.int _) (.cons (.int _) (.cons (.int _) .nil)))))) rfl ((Sh.tuple (n := 1) fun d hd => by
      simp only [List.mem_cons, List.not_mem_nil, or_false] at hd
      rcases hd with rfl | rfl | rfl | rfl | rfl <;> exact .int _ _).shaped (by decide)) ?_
    have ht19 := L19.st.t
    have hM19 := L19.md
    clear L18 hM18 q2 q12 q13 h3
    walk_at "rn"
    refine ⟨A, S, B, rfl, L19.st, fun q5 sx H20 s20 hq5 hqs hsx => ?_⟩
    have L20 := L19.keep s20
    have hM20 := L20.md
    have ht20 := L20.st.t
    obtain ⟨mx, hmx, hmX⟩ := hM20.stk
    walk_at "rn"
    rename_i l6 hl6
    have s6 := Rd.same_new (o := .lst mx) hl6
    refine eqSame (.lst (SqL.of (s6 _ _ hqs)) (dpAll_same s6 hsx)) (.lst (SqL.of upd_same) (by rw [← eq.stk]; exact dpAll_same s6 hmX)) (p2s_nd _) (p2s_sh _) ?_
    have L21 := L20.keep s6
    have ht21 := L21.st.t
    clear L19 hM19 ht19 L20 hM20 ht20 hqs hsx hmx hmX
    generalize upd H20 l6 (.lst mx) = H21 at *
    walk_at "rn"
    rename_i t7 ht7
    have s7 := Rd.same_new (o := .tup [V.int 9, V.int 9]) ht7
    refine ⟨A, S, B, t7, ((9 : Int), (9 : Int)), rfl, (L21.st.keep s7), (SqT.of upd_same), fun v hv => ?_⟩
    rcases hv with ⟨t, h1, _⟩ | ⟨_, rfl⟩
    · have := hk5 _ (List.mem_map_of_mem (f := (·.1)) (lookM_in h1))
      exact absurd this (by show ¬ (9 : Int) < 5; omega)
    walk_at "rn"
    all_goals exact Rd.finT (k _) rfl
theorem ok_law {f : Addr} {fd : FuncData} (mf : mg "law" = some (.ref f)) (F : FnP K "law" s_law f fd) (C_law_numbers : Cal P w K mg base "_law_numbers" 1 ["cell", "many"] (sp_law_numbers P w K)) (C_law_cell : Cal P w K mg base "_law_cell" 1 ["script", "k"] (sp_law_cell P w K)) (C_law_grants : Cal P w K mg base "_law_grants" 1 ["numbers"] (sp_law_grants P w K)) (C_State___init : CalM P w K mg base (He.fAd K ("State", some "__init__")) 6 ["self", "grants", "reserve"] [] (sp_State___init P w K)) (C_law_first : Cal P w K mg base "_law_first" 1 ["grants", "reserve"] (sp_law_first P w K)) (C_law_step : Cal P w K mg base "_law_step" 7 ["state", "model", "numbers"] (sp_law_step P w K)) (C_State_picture : CalM P w K mg base (He.fAd K ("State", some "picture")) 2 ["self"] [] (sp_State_picture P w K)) (C_law_picture : Cal P w K mg base "_law_picture" 1 ["model"] (sp_law_picture P w K)) (C_State_mark : CalM P w K mg base (He.fAd K ("State", some "mark")) 1 ["self"] [] (sp_State_mark P w K)) (C_Output_picture : CalM P w K mg base (He.fAd K ("Output", some "picture")) 1 ["self"] [] (sp_Output_picture P w K)) (C_State_output : CalM P w K mg base (He.fAd K ("State", some "output")) 1 ["self", "ref"] [] (sp_State_output P w K)) (C_State_account : CalM P w K mg base (He.fAd K ("State", some "account")) 1 ["self", "key"] [] (sp_State_account P w K)) (C_State_keys_joined : CalM P w K mg base (He.fAd K ("State", some "keys_joined")) 1 ["self"] [] (sp_State_keys_joined P w K)) (C_State_unspent : CalM P w K mg base (He.fAd K ("State", some "unspent")) 1 ["self"] [] (sp_State_unspent P w K)) (C_State_is_used : CalM P w K mg base (He.fAd K ("State", some "is_used")) 1 ["self", "number"] [] (sp_State_is_used P w K)) (C_State_stakes : CalM P w K mg base (He.fAd K ("State", some "stakes")) 1 ["self"] [] (sp_State_stakes P w K)) (z_range : mg "range" = none) (z_min : mg "min" = none) (z_max : mg "max" = none) (z_len : mg "len" = none) (z_sorted : mg "sorted" = none) (z_list : mg "list" = none) (W_State : CF_State K mg) (W_Output : CF_Output K mg) : Cal P w K mg base "law" 8 ["script"] (sp_law P w K) :=
  ⟨f, fd, mf, F.kp, F.bindsN fun _ _ _ _ _ _ us hl => match us, hl with | [_], _ => rfl, fn_law F C_law_numbers C_law_cell C_law_grants C_State___init C_law_first C_law_step C_State_picture C_law_picture C_State_mark C_Output_picture C_State_output C_State_account C_State_keys_joined C_State_unspent C_State_is_used C_State_stakes z_range z_min z_max z_len z_sorted z_list W_State W_Output⟩

end
def d_Bundle___iter : He.DefD := ⟨("Bundle", some "__iter__"), "__iter__", "Bundle.__iter__", defArgs s_Bundle___iter, defBody s_Bundle___iter, defScope s_Bundle___iter, [], []⟩
def d_KeptError___init : He.DefD := ⟨("KeptError", some "__init__"), "__init__", "KeptError.__init__", defArgs s_KeptError___init, defBody s_KeptError___init, defScope s_KeptError___init, [.non], []⟩
def d_Books___init : He.DefD := ⟨("Books", some "__init__"), "__init__", "Books.__init__", defArgs s_Books___init, defBody s_Books___init, defScope s_Books___init, [], []⟩
def d_Books_added : He.DefD := ⟨("Books", some "added"), "added", "Books.added", defArgs s_Books_added, defBody s_Books_added, defScope s_Books_added, [], []⟩
def d_Books_removed : He.DefD := ⟨("Books", some "removed"), "removed", "Books.removed", defArgs s_Books_removed, defBody s_Books_removed, defScope s_Books_removed, [], []⟩
def d_Output_picture : He.DefD := ⟨("Output", some "picture"), "picture", "Output.picture", defArgs s_Output_picture, defBody s_Output_picture, defScope s_Output_picture, [], []⟩
def d_State_output : He.DefD := ⟨("State", some "output"), "output", "State.output", defArgs s_State_output, defBody s_State_output, defScope s_State_output, [], []⟩
def d_State_account : He.DefD := ⟨("State", some "account"), "account", "State.account", defArgs s_State_account, defBody s_State_account, defScope s_State_account, [], []⟩
def d_State_is_used : He.DefD := ⟨("State", some "is_used"), "is_used", "State.is_used", defArgs s_State_is_used, defBody s_State_is_used, defScope s_State_is_used, [], []⟩
def d_State_unspent : He.DefD := ⟨("State", some "unspent"), "unspent", "State.unspent", defArgs s_State_unspent, defBody s_State_unspent, defScope s_State_unspent, [], []⟩
def d_State_keys_joined : He.DefD := ⟨("State", some "keys_joined"), "keys_joined", "State.keys_joined", defArgs s_State_keys_joined, defBody s_State_keys_joined, defScope s_State_keys_joined, [], []⟩
def d_State_stakes : He.DefD := ⟨("State", some "stakes"), "stakes", "State.stakes", defArgs s_State_stakes, defBody s_State_stakes, defScope s_State_stakes, [], []⟩
def d_State_mark : He.DefD := ⟨("State", some "mark"), "mark", "State.mark", defArgs s_State_mark, defBody s_State_mark, defScope s_State_mark, [], []⟩
def d_put_account : He.DefD := ⟨("_put_account", none), "_put_account", "_put_account", defArgs s_put_account, defBody s_put_account, defScope s_put_account, [], []⟩
def d_put_pot : He.DefD := ⟨("_put_pot", none), "_put_pot", "_put_pot", defArgs s_put_pot, defBody s_put_pot, defScope s_put_pot, [], []⟩
def d_put_clock : He.DefD := ⟨("_put_clock", none), "_put_clock", "_put_clock", defArgs s_put_clock, defBody s_put_clock, defScope s_put_clock, [], []⟩
def d_put_stakes : He.DefD := ⟨("_put_stakes", none), "_put_stakes", "_put_stakes", defArgs s_put_stakes, defBody s_put_stakes, defScope s_put_stakes, [], []⟩
def d_put_used : He.DefD := ⟨("_put_used", none), "_put_used", "_put_used", defArgs s_put_used, defBody s_put_used, defScope s_put_used, [], []⟩
def d_law_cell : He.DefD := ⟨("_law_cell", none), "_law_cell", "_law_cell", defArgs s_law_cell, defBody s_law_cell, defScope s_law_cell, [], []⟩
def d_law_numbers : He.DefD := ⟨("_law_numbers", none), "_law_numbers", "_law_numbers", defArgs s_law_numbers, defBody s_law_numbers, defScope s_law_numbers, [], []⟩
def d_law_output : He.DefD := ⟨("_law_output", none), "_law_output", "_law_output", defArgs s_law_output, defBody s_law_output, defScope s_law_output, [], []⟩
def d_law_grants : He.DefD := ⟨("_law_grants", none), "_law_grants", "_law_grants", defArgs s_law_grants, defBody s_law_grants, defScope s_law_grants, [], []⟩
def d_law_first : He.DefD := ⟨("_law_first", none), "_law_first", "_law_first", defArgs s_law_first, defBody s_law_first, defScope s_law_first, [], []⟩
def d_law_picture : He.DefD := ⟨("_law_picture", none), "_law_picture", "_law_picture", defArgs s_law_picture, defBody s_law_picture, defScope s_law_picture, [], []⟩
def d_Bundle___init : He.DefD := ⟨("Bundle", some "__init__"), "__init__", "Bundle.__init__", defArgs s_Bundle___init, defBody s_Bundle___init, defScope s_Bundle___init, [.adr (He.dflAt ("Bundle", some "__init__") 0)], []⟩
def d_State_picture : He.DefD := ⟨("State", some "picture"), "picture", "State.picture", defArgs s_State_picture, defBody s_State_picture, defScope s_State_picture, [], []⟩
def d_put_output : He.DefD := ⟨("_put_output", none), "_put_output", "_put_output", defArgs s_put_output, defBody s_put_output, defScope s_put_output, [], []⟩
def d_State__change : He.DefD := ⟨("State", some "_change"), "_change", "State._change", defArgs s_State__change, defBody s_State__change, defScope s_State__change, [], []⟩
def d_Bundle_of_coin : He5.DefA := ⟨fun K => (Bd.sAd K "Bundle" "of_coin"), "of_coin", "Bundle.of_coin", defArgs s_Bundle_of_coin, defBody s_Bundle_of_coin, defScope s_Bundle_of_coin, [], []⟩
def d_Output___init : He.DefD := ⟨("Output", some "__init__"), "__init__", "Output.__init__", defArgs s_Output___init, defBody s_Output___init, defScope s_Output___init, [.adr (He.dflAt ("Output", some "__init__") 0)], []⟩
def d_State_add_output : He.DefD := ⟨("State", some "add_output"), "add_output", "State.add_output", defArgs s_State_add_output, defBody s_State_add_output, defScope s_State_add_output, [], []⟩
def d_State_remove_output : He.DefD := ⟨("State", some "remove_output"), "remove_output", "State.remove_output", defArgs s_State_remove_output, defBody s_State_remove_output, defScope s_State_remove_output, [], []⟩
def d_State_set_account : He.DefD := ⟨("State", some "set_account"), "set_account", "State.set_account", defArgs s_State_set_account, defBody s_State_set_account, defScope s_State_set_account, [], []⟩
def d_State_set_pot : He.DefD := ⟨("State", some "set_pot"), "set_pot", "State.set_pot", defArgs s_State_set_pot, defBody s_State_set_pot, defScope s_State_set_pot, [], []⟩
def d_State_set_clock : He.DefD := ⟨("State", some "set_clock"), "set_clock", "State.set_clock", defArgs s_State_set_clock, defBody s_State_set_clock, defScope s_State_set_clock, [], []⟩
def d_State_set_stakes : He.DefD := ⟨("State", some "set_stakes"), "set_stakes", "State.set_stakes", defArgs s_State_set_stakes, defBody s_State_set_stakes, defScope s_State_set_stakes, [], []⟩
def d_State_use : He.DefD := ⟨("State", some "use"), "use", "State.use", defArgs s_State_use, defBody s_State_use, defScope s_State_use, [], []⟩
def d_law_pot_step : He.DefD := ⟨("_law_pot_step", none), "_law_pot_step", "_law_pot_step", defArgs s_law_pot_step, defBody s_law_pot_step, defScope s_law_pot_step, [], []⟩
def d_law_use_step : He.DefD := ⟨("_law_use_step", none), "_law_use_step", "_law_use_step", defArgs s_law_use_step, defBody s_law_use_step, defScope s_law_use_step, [], []⟩
def d_State___init : He.DefD := ⟨("State", some "__init__"), "__init__", "State.__init__", defArgs s_State___init, defBody s_State___init, defScope s_State___init, [], []⟩
def d_law_outputs_step : He.DefD := ⟨("_law_outputs_step", none), "_law_outputs_step", "_law_outputs_step", defArgs s_law_outputs_step, defBody s_law_outputs_step, defScope s_law_outputs_step, [], []⟩
def d_law_step : He.DefD := ⟨("_law_step", none), "_law_step", "_law_step", defArgs s_law_step, defBody s_law_step, defScope s_law_step, [], []⟩
def d_law : He.DefD := ⟨("law", none), "law", "law", defArgs s_law, defBody s_law, defScope s_law, [], []⟩
def fn : List He.DefD := [d_Bundle___iter, d_KeptError___init, d_Books___init, d_Books_added, d_Books_removed, d_Output_picture, d_State_output, d_State_account, d_State_is_used, d_State_unspent, d_State_keys_joined, d_State_stakes, d_State_mark, d_put_account, d_put_pot, d_put_clock, d_put_stakes, d_put_used, d_law_cell, d_law_numbers, d_law_output, d_law_grants, d_law_first, d_law_picture, d_Bundle___init, d_State_picture, d_put_output, d_State__change, d_Output___init, d_State_add_output, d_State_remove_output, d_State_set_account, d_State_set_pot, d_State_set_clock, d_State_set_stakes, d_State_use, d_law_pot_step, d_law_use_step, d_State___init, d_law_outputs_step, d_law_step, d_law]
def fx : List He5.DefA := [d_Bundle_of_coin]
def fa : List He.Fa := [.glo "_put_account", .glo "_put_pot", .glo "_put_clock", .glo "_put_stakes", .glo "_put_used", .glo "_law_cell", .glo "_law_numbers", .glo "_law_output", .glo "_law_grants", .glo "_law_first", .glo "_law_picture", .glo "_put_output", .glo "_law_pot_step", .glo "_law_use_step", .glo "_law_outputs_step", .glo "_law_step", .glo "law", .free "abs", .free "enumerate", .free "int", .free "isinstance", .free "iter", .free "len", .free "list", .free "max", .free "min", .free "range", .free "sorted", .free "str", .free "tuple", .cls "Books", .glo "Books", .mkr "Books", .meth "Books" "added", .meth "Books" "removed", .noat "Books" "_bundles", .cls "Bundle", .glo "Bundle", .mkr "Bundle", .meth "Bundle" "__iter__", .noat "Bundle" "_quantities", .noat "Bundle" "rows", .glo "COIN", .cls "Output", .cls "Output", .glo "Output", .mkr "Output", .meth "Output" "picture", .noat "Output" "address", .noat "Output" "bundle", .noat "Output" "datum", .glo "_PUTS", .glo "_put_output", .glo "_put_account", .glo "_put_pot", .glo "_put_clock", .glo "_put_stakes", .glo "_put_used", .cls "State", .glo "State", .mkr "State", .meth "State" "_change", .meth "State" "account", .meth "State" "add_output", .meth "State" "is_used", .meth "State" "keys_joined", .meth "State" "mark", .meth "State" "output", .meth "State" "picture", .meth "State" "remove_output", .meth "State" "set_account", .meth "State" "set_clock", .meth "State" "set_pot", .meth "State" "set_stakes", .meth "State" "stakes", .meth "State" "unspent", .meth "State" "use", .noat "State" "_accounts", .noat "State" "_changes", .noat "State" "_forgotten", .noat "State" "_outputs", .noat "State" "_stakes", .noat "State" "_used", .noat "State" "books", .noat "State" "epoch", .noat "State" "fees", .noat "State" "reserve", .noat "State" "slot", .noat "State" "treasury", .glo "KeptError", .glo "StateError", .glo "Present", .glo "Absent", .glo "NoPot"]
abbrev R : PySem.W.OpenRow := PySem.W.OpenLaw.row PySem.Challenge.rw_keptcoin_k44_one_change_at_a_time
def ex (K : PySem.W.Frag) : Bool := Bd.statB K (He.ga K "Bundle") "of_coin" && (He.tupB K "COIN" [He.Dv.str (Rd.S []), He.Dv.int 0] && (emptyT K (He.dflAt ("Output", some "__init__") 0 K) && (putsB K && (efBN EN_ K && (true)))))
def tabs : List He.Tab := [(fun K => He.ga K "_PUTS", [("output" : Str), ("account" : Str), ("pot" : Str), ("clock" : Str), ("stakes" : Str), ("used" : Str)])]
abbrev hk : PySem.W.Hook := Bd.hookZ 5 fa fn tabs ex fx
def ob (s : PySem.W.SharedT) : Bd.TellZ := Bd.obsZ 5 fa fn tabs ex fx (HandSHeadRun.getT s)
theorem ob_eq (s : PySem.W.SharedT) : ob s = hk.obs s.abs := Bd.obsZ_eq (HandSHeadRun.getT_eq s)
theorem run_false (w : World) : HandSHeadRun.RunEq R (PySem.W.view R.prog [34]) hk ob 20000 [("_wall" : PySem.Str), ("COIN" : PySem.Str), ("Bundle" : PySem.Str), ("KeptError" : PySem.Str), ("StateError" : PySem.Str), ("Present" : PySem.Str), ("Absent" : PySem.Str), ("NoPot" : PySem.Str), ("Books" : PySem.Str), ("Output" : PySem.Str), ("State" : PySem.Str), ("_put_output" : PySem.Str), ("_put_account" : PySem.Str), ("_put_pot" : PySem.Str), ("_put_clock" : PySem.Str), ("_put_stakes" : PySem.Str), ("_put_used" : PySem.Str), ("_PUTS" : PySem.Str), ("_law_cell" : PySem.Str), ("_law_numbers" : PySem.Str), ("_law_output" : PySem.Str), ("_law_grants" : PySem.Str), ("_law_first" : PySem.Str), ("_law_picture" : PySem.Str), ("_law_outputs_step" : PySem.Str), ("_law_pot_step" : PySem.Str), ("_law_use_step" : PySem.Str), ("_law_step" : PySem.Str)] (w.withFollow "special-get-raises" false) := by
  intro os
  kernel_rfl
theorem run_true (w : World) : HandSHeadRun.RunEq R (PySem.W.view R.prog [34]) hk ob 20000 [("_wall" : PySem.Str), ("COIN" : PySem.Str), ("Bundle" : PySem.Str), ("KeptError" : PySem.Str), ("StateError" : PySem.Str), ("Present" : PySem.Str), ("Absent" : PySem.Str), ("NoPot" : PySem.Str), ("Books" : PySem.Str), ("Output" : PySem.Str), ("State" : PySem.Str), ("_put_output" : PySem.Str), ("_put_account" : PySem.Str), ("_put_pot" : PySem.Str), ("_put_clock" : PySem.Str), ("_put_stakes" : PySem.Str), ("_put_used" : PySem.Str), ("_PUTS" : PySem.Str), ("_law_cell" : PySem.Str), ("_law_numbers" : PySem.Str), ("_law_output" : PySem.Str), ("_law_grants" : PySem.Str), ("_law_first" : PySem.Str), ("_law_picture" : PySem.Str), ("_law_outputs_step" : PySem.Str), ("_law_pot_step" : PySem.Str), ("_law_use_step" : PySem.Str), ("_law_step" : PySem.Str)] (w.withFollow "special-get-raises" true) := by
  intro os
  kernel_rfl
theorem run (w : World) : HandSHeadRun.RunEq R (PySem.W.view R.prog [34]) hk ob 20000 [("_wall" : PySem.Str), ("COIN" : PySem.Str), ("Bundle" : PySem.Str), ("KeptError" : PySem.Str), ("StateError" : PySem.Str), ("Present" : PySem.Str), ("Absent" : PySem.Str), ("NoPot" : PySem.Str), ("Books" : PySem.Str), ("Output" : PySem.Str), ("State" : PySem.Str), ("_put_output" : PySem.Str), ("_put_account" : PySem.Str), ("_put_pot" : PySem.Str), ("_put_clock" : PySem.Str), ("_put_stakes" : PySem.Str), ("_put_used" : PySem.Str), ("_PUTS" : PySem.Str), ("_law_cell" : PySem.Str), ("_law_numbers" : PySem.Str), ("_law_output" : PySem.Str), ("_law_grants" : PySem.Str), ("_law_first" : PySem.Str), ("_law_picture" : PySem.Str), ("_law_outputs_step" : PySem.Str), ("_law_pot_step" : PySem.Str), ("_law_use_step" : PySem.Str), ("_law_step" : PySem.Str)] w := PySem.W.byRow2 "special-get-raises" run_false run_true w
theorem facts {P : Program} {w : World} {K : PySem.W.Frag} {h : Heap} {mg : Str → Option Value} {f : Addr} (X : K.In h) (G : h.Ns mainGlobals mg) (hfa : mg ("law" : Str) = some (.ref f)) (cx : ex K = true) (c : He.SaysD fa fn K) (cz : Bd.SaysZ fa fn tabs ex fx w K) (cy : Bd.SaysY fa fn ex fx K) :
    ∃ fd : FuncData, (∀ (s : Shared) (v : Value), BindsTo s fd ⟨[v], []⟩ [("script", v)]) ∧ ∀ base : Heap, K.In base → base.Ns mainGlobals mg → FnOk P w K mg base CX0 8 f fd ["script"] (sp_law P w K) := by
  obtain ⟨fd_Bundle_of_coin, F_Bundle_of_coin⟩ := cy.def_ 0 (d := d_Bundle_of_coin) rfl
  obtain ⟨fd_Bundle___iter, F_Bundle___iter⟩ := c.def_ 0 (d := d_Bundle___iter) rfl
  obtain ⟨fd_KeptError___init, F_KeptError___init⟩ := c.def_ 1 (d := d_KeptError___init) rfl
  obtain ⟨fd_Books___init, F_Books___init⟩ := c.def_ 2 (d := d_Books___init) rfl
  obtain ⟨fd_Books_added, F_Books_added⟩ := c.def_ 3 (d := d_Books_added) rfl
  obtain ⟨fd_Books_removed, F_Books_removed⟩ := c.def_ 4 (d := d_Books_removed) rfl
  obtain ⟨fd_Output_picture, F_Output_picture⟩ := c.def_ 5 (d := d_Output_picture) rfl
  obtain ⟨fd_State_output, F_State_output⟩ := c.def_ 6 (d := d_State_output) rfl
  obtain ⟨fd_State_account, F_State_account⟩ := c.def_ 7 (d := d_State_account) rfl
  obtain ⟨fd_State_is_used, F_State_is_used⟩ := c.def_ 8 (d := d_State_is_used) rfl
  obtain ⟨fd_State_unspent, F_State_unspent⟩ := c.def_ 9 (d := d_State_unspent) rfl
  obtain ⟨fd_State_keys_joined, F_State_keys_joined⟩ := c.def_ 10 (d := d_State_keys_joined) rfl
  obtain ⟨fd_State_stakes, F_State_stakes⟩ := c.def_ 11 (d := d_State_stakes) rfl
  obtain ⟨fd_State_mark, F_State_mark⟩ := c.def_ 12 (d := d_State_mark) rfl
  obtain ⟨fd_put_account, F_put_account⟩ := c.def_ 13 (d := d_put_account) rfl
  have m_put_account := He.glo_ok X G (c.fact 0 (f := .glo "_put_account") rfl)
  obtain ⟨fd_put_pot, F_put_pot⟩ := c.def_ 14 (d := d_put_pot) rfl
  have m_put_pot := He.glo_ok X G (c.fact 1 (f := .glo "_put_pot") rfl)
  obtain ⟨fd_put_clock, F_put_clock⟩ := c.def_ 15 (d := d_put_clock) rfl
  have m_put_clock := He.glo_ok X G (c.fact 2 (f := .glo "_put_clock") rfl)
  obtain ⟨fd_put_stakes, F_put_stakes⟩ := c.def_ 16 (d := d_put_stakes) rfl
  have m_put_stakes := He.glo_ok X G (c.fact 3 (f := .glo "_put_stakes") rfl)
  obtain ⟨fd_put_used, F_put_used⟩ := c.def_ 17 (d := d_put_used) rfl
  have m_put_used := He.glo_ok X G (c.fact 4 (f := .glo "_put_used") rfl)
  obtain ⟨fd_law_cell, F_law_cell⟩ := c.def_ 18 (d := d_law_cell) rfl
  have m_law_cell := He.glo_ok X G (c.fact 5 (f := .glo "_law_cell") rfl)
  obtain ⟨fd_law_numbers, F_law_numbers⟩ := c.def_ 19 (d := d_law_numbers) rfl
  have m_law_numbers := He.glo_ok X G (c.fact 6 (f := .glo "_law_numbers") rfl)
  obtain ⟨fd_law_output, F_law_output⟩ := c.def_ 20 (d := d_law_output) rfl
  have m_law_output := He.glo_ok X G (c.fact 7 (f := .glo "_law_output") rfl)
  obtain ⟨fd_law_grants, F_law_grants⟩ := c.def_ 21 (d := d_law_grants) rfl
  have m_law_grants := He.glo_ok X G (c.fact 8 (f := .glo "_law_grants") rfl)
  obtain ⟨fd_law_first, F_law_first⟩ := c.def_ 22 (d := d_law_first) rfl
  have m_law_first := He.glo_ok X G (c.fact 9 (f := .glo "_law_first") rfl)
  obtain ⟨fd_law_picture, F_law_picture⟩ := c.def_ 23 (d := d_law_picture) rfl
  have m_law_picture := He.glo_ok X G (c.fact 10 (f := .glo "_law_picture") rfl)
  obtain ⟨fd_Bundle___init, F_Bundle___init⟩ := c.def_ 24 (d := d_Bundle___init) rfl
  obtain ⟨fd_State_picture, F_State_picture⟩ := c.def_ 25 (d := d_State_picture) rfl
  obtain ⟨fd_put_output, F_put_output⟩ := c.def_ 26 (d := d_put_output) rfl
  have m_put_output := He.glo_ok X G (c.fact 11 (f := .glo "_put_output") rfl)
  obtain ⟨fd_State__change, F_State__change⟩ := c.def_ 27 (d := d_State__change) rfl
  obtain ⟨fd_Output___init, F_Output___init⟩ := c.def_ 28 (d := d_Output___init) rfl
  obtain ⟨fd_State_add_output, F_State_add_output⟩ := c.def_ 29 (d := d_State_add_output) rfl
  obtain ⟨fd_State_remove_output, F_State_remove_output⟩ := c.def_ 30 (d := d_State_remove_output) rfl
  obtain ⟨fd_State_set_account, F_State_set_account⟩ := c.def_ 31 (d := d_State_set_account) rfl
  obtain ⟨fd_State_set_pot, F_State_set_pot⟩ := c.def_ 32 (d := d_State_set_pot) rfl
  obtain ⟨fd_State_set_clock, F_State_set_clock⟩ := c.def_ 33 (d := d_State_set_clock) rfl
  obtain ⟨fd_State_set_stakes, F_State_set_stakes⟩ := c.def_ 34 (d := d_State_set_stakes) rfl
  obtain ⟨fd_State_use, F_State_use⟩ := c.def_ 35 (d := d_State_use) rfl
  obtain ⟨fd_law_pot_step, F_law_pot_step⟩ := c.def_ 36 (d := d_law_pot_step) rfl
  have m_law_pot_step := He.glo_ok X G (c.fact 12 (f := .glo "_law_pot_step") rfl)
  obtain ⟨fd_law_use_step, F_law_use_step⟩ := c.def_ 37 (d := d_law_use_step) rfl
  have m_law_use_step := He.glo_ok X G (c.fact 13 (f := .glo "_law_use_step") rfl)
  obtain ⟨fd_State___init, F_State___init⟩ := c.def_ 38 (d := d_State___init) rfl
  obtain ⟨fd_law_outputs_step, F_law_outputs_step⟩ := c.def_ 39 (d := d_law_outputs_step) rfl
  have m_law_outputs_step := He.glo_ok X G (c.fact 14 (f := .glo "_law_outputs_step") rfl)
  obtain ⟨fd_law_step, F_law_step⟩ := c.def_ 40 (d := d_law_step) rfl
  have m_law_step := He.glo_ok X G (c.fact 15 (f := .glo "_law_step") rfl)
  obtain ⟨fd_law, F_law⟩ := c.def_ 41 (d := d_law) rfl
  have m_law := He.glo_ok X G (c.fact 16 (f := .glo "law") rfl)
  have z_abs := He.free_ok X G (c.fact 17 (f := .free "abs") rfl)
  have z_enumerate := He.free_ok X G (c.fact 18 (f := .free "enumerate") rfl)
  have z_int := He.free_ok X G (c.fact 19 (f := .free "int") rfl)
  have z_isinstance := He.free_ok X G (c.fact 20 (f := .free "isinstance") rfl)
  have z_iter := He.free_ok X G (c.fact 21 (f := .free "iter") rfl)
  have z_len := He.free_ok X G (c.fact 22 (f := .free "len") rfl)
  have z_list := He.free_ok X G (c.fact 23 (f := .free "list") rfl)
  have z_max := He.free_ok X G (c.fact 24 (f := .free "max") rfl)
  have z_min := He.free_ok X G (c.fact 25 (f := .free "min") rfl)
  have z_range := He.free_ok X G (c.fact 26 (f := .free "range") rfl)
  have z_sorted := He.free_ok X G (c.fact 27 (f := .free "sorted") rfl)
  have z_str := He.free_ok X G (c.fact 28 (f := .free "str") rfl)
  have z_tuple := He.free_ok X G (c.fact 29 (f := .free "tuple") rfl)
  have y0 := Bool.and_eq_true_iff.mp cx
  have x0 := y0.1
  have y1 := Bool.and_eq_true_iff.mp y0.2
  have x1 := y1.1
  have y2 := Bool.and_eq_true_iff.mp y1.2
  have x2 := y2.1
  have y3 := Bool.and_eq_true_iff.mp y2.2
  have x3 := y3.1
  have y4 := Bool.and_eq_true_iff.mp y3.2
  have x4 := y4.1
  have W_Books : CF_Books K mg := ⟨He.cls_ok (c.fact 30 (f := .cls "Books") rfl), He.glo_ok X G (c.fact 31 (f := .glo "Books") rfl), He.mkr_ok (c.fact 32 (f := .mkr "Books") rfl), He.meth_ok (c.fact 33 (f := .meth "Books" "added") rfl), He.meth_ok (c.fact 34 (f := .meth "Books" "removed") rfl), He.noat_ok (c.fact 35 (f := .noat "Books" "_bundles") rfl)⟩
  have W_Bundle : CF_Bundle K mg := ⟨He.cls_ok (c.fact 36 (f := .cls "Bundle") rfl), He.glo_ok X G (c.fact 37 (f := .glo "Bundle") rfl), He.mkr_ok (c.fact 38 (f := .mkr "Bundle") rfl), He.meth_ok (c.fact 39 (f := .meth "Bundle" "__iter__") rfl), He.noat_ok (c.fact 40 (f := .noat "Bundle" "_quantities") rfl), He.noat_ok (c.fact 41 (f := .noat "Bundle" "rows") rfl), Bd.statB_ok x0⟩
  have W_COIN : CoinF K mg := ⟨He.glo_ok X G (c.fact 42 (f := .glo "COIN") rfl), fun H => He.tupB_ok (vs := [He.Dv.str (Rd.S []), He.Dv.int 0]) x1 H⟩
  have W_DFL : DflF K := ⟨emptyT_ok x2⟩
  have W_Output : CF_Output K mg := ⟨He.cls_ok (c.fact 44 (f := .cls "Output") rfl), He.glo_ok X G (c.fact 45 (f := .glo "Output") rfl), He.mkr_ok (c.fact 46 (f := .mkr "Output") rfl), He.meth_ok (c.fact 47 (f := .meth "Output" "picture") rfl), He.noat_ok (c.fact 48 (f := .noat "Output" "address") rfl), He.noat_ok (c.fact 49 (f := .noat "Output" "bundle") rfl), He.noat_ok (c.fact 50 (f := .noat "Output" "datum") rfl)⟩
  have W_PUTS : PutsF K w mg := puts_ok (He.glo_ok X G (c.fact 51 (f := .glo "_PUTS") rfl)) (He.glo_ok X G (c.fact 52 (f := .glo "_put_output") rfl)) (He.glo_ok X G (c.fact 53 (f := .glo "_put_account") rfl)) (He.glo_ok X G (c.fact 54 (f := .glo "_put_pot") rfl)) (He.glo_ok X G (c.fact 55 (f := .glo "_put_clock") rfl)) (He.glo_ok X G (c.fact 56 (f := .glo "_put_stakes") rfl)) (He.glo_ok X G (c.fact 57 (f := .glo "_put_used") rfl)) (cz.tab 0) x3
  have W_State : CF_State K mg := ⟨He.cls_ok (c.fact 58 (f := .cls "State") rfl), He.glo_ok X G (c.fact 59 (f := .glo "State") rfl), He.mkr_ok (c.fact 60 (f := .mkr "State") rfl), He.meth_ok (c.fact 61 (f := .meth "State" "_change") rfl), He.meth_ok (c.fact 62 (f := .meth "State" "account") rfl), He.meth_ok (c.fact 63 (f := .meth "State" "add_output") rfl), He.meth_ok (c.fact 64 (f := .meth "State" "is_used") rfl), He.meth_ok (c.fact 65 (f := .meth "State" "keys_joined") rfl), He.meth_ok (c.fact 66 (f := .meth "State" "mark") rfl), He.meth_ok (c.fact 67 (f := .meth "State" "output") rfl), He.meth_ok (c.fact 68 (f := .meth "State" "picture") rfl), He.meth_ok (c.fact 69 (f := .meth "State" "remove_output") rfl), He.meth_ok (c.fact 70 (f := .meth "State" "set_account") rfl), He.meth_ok (c.fact 71 (f := .meth "State" "set_clock") rfl), He.meth_ok (c.fact 72 (f := .meth "State" "set_pot") rfl), He.meth_ok (c.fact 73 (f := .meth "State" "set_stakes") rfl), He.meth_ok (c.fact 74 (f := .meth "State" "stakes") rfl), He.meth_ok (c.fact 75 (f := .meth "State" "unspent") rfl), He.meth_ok (c.fact 76 (f := .meth "State" "use") rfl), He.noat_ok (c.fact 77 (f := .noat "State" "_accounts") rfl), He.noat_ok (c.fact 78 (f := .noat "State" "_changes") rfl), He.noat_ok (c.fact 79 (f := .noat "State" "_forgotten") rfl), He.noat_ok (c.fact 80 (f := .noat "State" "_outputs") rfl), He.noat_ok (c.fact 81 (f := .noat "State" "_stakes") rfl), He.noat_ok (c.fact 82 (f := .noat "State" "_used") rfl), He.noat_ok (c.fact 83 (f := .noat "State" "books") rfl), He.noat_ok (c.fact 84 (f := .noat "State" "epoch") rfl), He.noat_ok (c.fact 85 (f := .noat "State" "fees") rfl), He.noat_ok (c.fact 86 (f := .noat "State" "reserve") rfl), He.noat_ok (c.fact 87 (f := .noat "State" "slot") rfl), He.noat_ok (c.fact 88 (f := .noat "State" "treasury") rfl)⟩
  have W_errs : StErr EN_ K mg := ⟨glo6 (And.intro (He.glo_ok X G (c.fact 89 (f := .glo "KeptError") rfl)) (And.intro (He.glo_ok X G (c.fact 90 (f := .glo "StateError") rfl)) (And.intro (He.glo_ok X G (c.fact 91 (f := .glo "Present") rfl)) (And.intro (He.glo_ok X G (c.fact 92 (f := .glo "Absent") rfl)) (And.intro (He.glo_ok X G (c.fact 93 (f := .glo "NoPot") rfl)) (True.intro)))))), x4⟩
  have e := hfa.symm.trans m_law
  cases e
  have b := FunD.bindsA (ps := ["script"]) F_law fun _ _ _ _ _ _ us hl => match us, hl with | [_], _ => rfl
  refine ⟨fd_law, fun s v => b s [v] rfl, fun base _ _ => ?_⟩
  have C_Bundle___iter := ok_Bundle___iter (P := P) (w := w) (mg := mg) (base := base) F_Bundle___iter z_iter W_Bundle
  have C_KeptError___init := ok_KeptError___init (P := P) (w := w) (mg := mg) (base := base) F_KeptError___init 
  have C_Books___init := ok_Books___init (P := P) (w := w) (mg := mg) (base := base) F_Books___init W_Books
  have C_Books_added := ok_Books_added (P := P) (w := w) (mg := mg) (base := base) F_Books_added W_Books W_Output
  have C_Books_removed := ok_Books_removed (P := P) (w := w) (mg := mg) (base := base) F_Books_removed W_Books W_Output
  have C_Output_picture := ok_Output_picture (P := P) (w := w) (mg := mg) (base := base) F_Output_picture W_Output W_Bundle
  have C_State_output := ok_State_output (P := P) (w := w) (mg := mg) (base := base) F_State_output W_State
  have C_State_account := ok_State_account (P := P) (w := w) (mg := mg) (base := base) F_State_account W_State
  have C_State_is_used := ok_State_is_used (P := P) (w := w) (mg := mg) (base := base) F_State_is_used W_State
  have C_State_unspent := ok_State_unspent (P := P) (w := w) (mg := mg) (base := base) F_State_unspent z_sorted W_State
  have C_State_keys_joined := ok_State_keys_joined (P := P) (w := w) (mg := mg) (base := base) F_State_keys_joined z_sorted W_State
  have C_State_stakes := ok_State_stakes (P := P) (w := w) (mg := mg) (base := base) F_State_stakes z_list W_State
  have C_State_mark := ok_State_mark (P := P) (w := w) (mg := mg) (base := base) F_State_mark z_len W_State
  have C_put_account := ok_put_account (P := P) (w := w) (mg := mg) (base := base) m_put_account F_put_account W_State
  have C_put_pot := ok_put_pot (P := P) (w := w) (mg := mg) (base := base) m_put_pot F_put_pot W_State
  have C_put_clock := ok_put_clock (P := P) (w := w) (mg := mg) (base := base) m_put_clock F_put_clock W_State
  have C_put_stakes := ok_put_stakes (P := P) (w := w) (mg := mg) (base := base) m_put_stakes F_put_stakes W_State
  have C_put_used := ok_put_used (P := P) (w := w) (mg := mg) (base := base) m_put_used F_put_used W_State
  have C_law_cell := ok_law_cell (P := P) (w := w) (mg := mg) (base := base) m_law_cell F_law_cell z_len
  have C_law_numbers := ok_law_numbers (P := P) (w := w) (mg := mg) (base := base) m_law_numbers F_law_numbers z_abs z_range z_int
  have C_law_output := ok_law_output (P := P) (w := w) (mg := mg) (base := base) m_law_output F_law_output z_int z_str z_tuple z_range
  have C_law_grants := ok_law_grants (P := P) (w := w) (mg := mg) (base := base) m_law_grants F_law_grants z_range z_int
  have C_law_first := ok_law_first (P := P) (w := w) (mg := mg) (base := base) m_law_first F_law_first z_range z_len
  have C_law_picture := ok_law_picture (P := P) (w := w) (mg := mg) (base := base) m_law_picture F_law_picture z_sorted z_list z_tuple
  have C_Bundle___init := ok_Bundle___init (P := P) (w := w) (mg := mg) (base := base) F_Bundle___init C_Bundle___iter z_sorted z_tuple W_Bundle
  have C_State_picture := ok_State_picture (P := P) (w := w) (mg := mg) (base := base) F_State_picture C_Output_picture C_State_unspent C_State_keys_joined z_tuple z_sorted W_Output W_State
  have C_put_output := ok_put_output (P := P) (w := w) (mg := mg) (base := base) m_put_output F_put_output C_Books_removed C_Books_added W_Books W_State
  have C_State__change := ok_State__change (P := P) (w := w) (mg := mg) (base := base) F_State__change C_put_output C_put_account C_put_pot C_put_clock C_put_stakes C_put_used W_State W_PUTS
  have C_Bundle_of_coin := ok_Bundle_of_coin (P := P) (w := w) (mg := mg) (base := base) F_Bundle_of_coin C_Bundle___init W_Bundle W_COIN
  have C_Output___init := ok_Output___init (P := P) (w := w) (mg := mg) (base := base) F_Output___init C_Bundle___init z_tuple W_Output W_Bundle
  have C_State_add_output := ok_State_add_output (P := P) (w := w) (mg := mg) (base := base) F_State_add_output C_KeptError___init C_State__change W_State W_errs
  have C_State_remove_output := ok_State_remove_output (P := P) (w := w) (mg := mg) (base := base) F_State_remove_output C_State_output C_KeptError___init C_State__change W_State W_errs
  have C_State_set_account := ok_State_set_account (P := P) (w := w) (mg := mg) (base := base) F_State_set_account C_State__change C_State_account W_State
  have C_State_set_pot := ok_State_set_pot (P := P) (w := w) (mg := mg) (base := base) F_State_set_pot C_KeptError___init C_State__change W_State W_errs
  have C_State_set_clock := ok_State_set_clock (P := P) (w := w) (mg := mg) (base := base) F_State_set_clock C_State__change W_State
  have C_State_set_stakes := ok_State_set_stakes (P := P) (w := w) (mg := mg) (base := base) F_State_set_stakes C_State__change z_tuple z_sorted W_State
  have C_State_use := ok_State_use (P := P) (w := w) (mg := mg) (base := base) F_State_use C_State_is_used C_KeptError___init C_State__change W_State W_errs
  have C_law_pot_step := ok_law_pot_step (P := P) (w := w) (mg := mg) (base := base) m_law_pot_step F_law_pot_step C_State_set_pot z_int W_errs W_State
  have C_law_use_step := ok_law_use_step (P := P) (w := w) (mg := mg) (base := base) m_law_use_step F_law_use_step C_State_use z_int W_errs W_State
  have C_State___init := ok_State___init (P := P) (w := w) (mg := mg) (base := base) F_State___init C_Books___init C_put_output C_Output___init C_Bundle_of_coin z_enumerate W_State W_Books W_DFL W_Output W_Bundle
  have C_law_outputs_step := ok_law_outputs_step (P := P) (w := w) (mg := mg) (base := base) m_law_outputs_step F_law_outputs_step C_law_output C_State_add_output C_Output___init C_State_remove_output C_Output_picture z_sorted z_list z_len z_isinstance z_int W_errs W_State W_Output
  have C_law_step := ok_law_step (P := P) (w := w) (mg := mg) (base := base) m_law_step F_law_step C_law_outputs_step C_State_set_account C_law_pot_step C_State_set_clock C_State_set_stakes C_law_use_step z_int z_range z_tuple W_State
  exact fn_law (P := P) (w := w) (mg := mg) (base := base) F_law C_law_numbers C_law_cell C_law_grants C_State___init C_law_first C_law_step C_State_picture C_law_picture C_State_mark C_Output_picture C_State_output C_State_account C_State_keys_joined C_State_unspent C_State_is_used C_State_stakes z_range z_min z_max z_len z_sorted z_list W_State W_Output
end NK44
open PySem PySem.W PySem.Calls PyProof.Rows
set_option maxRecDepth 100000 in
set_option maxHeartbeats 0 in
theorem PySem.Challenge.cw_keptcoin_k44_one_change_at_a_time_holds : PySem.Challenge.rw_keptcoin_k44_one_change_at_a_time.Holds := by
  w_on; o_law
  refine HandSHeadRun.head_any (r := OpenLaw.row PySem.Challenge.rw_keptcoin_k44_one_change_at_a_time) (q := view (OpenLaw.row PySem.Challenge.rw_keptcoin_k44_one_change_at_a_time).prog [34]) (H := NK44.hk) (ob := NK44.ob) (M := 20000) (loose := [("_wall" : PySem.Str), ("COIN" : PySem.Str), ("Bundle" : PySem.Str), ("KeptError" : PySem.Str), ("StateError" : PySem.Str), ("Present" : PySem.Str), ("Absent" : PySem.Str), ("NoPot" : PySem.Str), ("Books" : PySem.Str), ("Output" : PySem.Str), ("State" : PySem.Str), ("_put_output" : PySem.Str), ("_put_account" : PySem.Str), ("_put_pot" : PySem.Str), ("_put_clock" : PySem.Str), ("_put_stakes" : PySem.Str), ("_put_used" : PySem.Str), ("_PUTS" : PySem.Str), ("_law_cell" : PySem.Str), ("_law_numbers" : PySem.Str), ("_law_output" : PySem.Str), ("_law_grants" : PySem.Str), ("_law_first" : PySem.Str), ("_law_picture" : PySem.Str), ("_law_outputs_step" : PySem.Str), ("_law_pot_step" : PySem.Str), ("_law_use_step" : PySem.Str), ("_law_step" : PySem.Str)]) (d := HandSHeadRun.topDef (OpenLaw.row PySem.Challenge.rw_keptcoin_k44_one_change_at_a_time).prog 34) (kwd := []) NK44.ob_eq
    (by kernel_rfl) (fun s => by kernel_rfl) NK44.run (by kernel_rfl) (by kernel_rfl) (by kernel_rfl) (by rfl) (by first | assumption | decide +kernel) (by decide +kernel) ⟨rfl, rfl, rfl, rfl, rfl, by decide +kernel⟩ ?hw ?hc
  case hw => w_witness2
  case hc =>
    refine L2.walk_ofE (l := PySem.Challenge.rw_keptcoin_k44_one_change_at_a_time) (n := 63) (k := 8) (x := "script") (CX := L2.CX0) rfl (by decide) (by kernel_rfl) ⟨rfl, by decide, by decide⟩ ?F (fun _ _ _ _ z => z)
    intro w mg fa h Y G hmg0
    obtain ⟨K, KX, c⟩ := Y
    have hmg : mg ("law" : PySem.Str) = some (.ref fa) := by
      have e : (HandSHeadRun.topDef (OpenLaw.row PySem.Challenge.rw_keptcoin_k44_one_change_at_a_time).prog 34).name = ("law" : PySem.Str) := by kernel_rfl
      rw [← e]
      exact hmg0
    obtain ⟨fd, hb, hF⟩ := NK44.facts (P := (PySem.Challenge.rw_keptcoin_k44_one_change_at_a_time).prog) (w := w) KX G hmg c.y.more c.y.d c c.y
    exact ⟨K, fd, NK44.sp_law (PySem.Challenge.rw_keptcoin_k44_one_change_at_a_time).prog w K, KX, hb, fun H a ns hl _ hS => ⟨a, ns, rfl, hS, hl, fun _ => rfl⟩, hF⟩


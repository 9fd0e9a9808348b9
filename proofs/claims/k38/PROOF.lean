import PyProof.Rows.All
import Wide.All
import OpenK.AllK
import Wide.FinOn
import KE.KStateDown
import HandS.Base
import HandS.Call
import HandS.List
import HandS.Comp
import HandS.Ends
import HandS.Dict
import HandS.Iter
import HandS.Text
import HandS.More
import HandS.Words
import HandS.WordsList
import HandS.WordsExc
import HandS.Defaults
import HandS.Wide
import HandS.IsInst
import HandS.Flow
import HandS.TupAny
import HandS.Head0
import HandS.Head1
import HandS.Head2
import HandS.HeadEnd
import HandS.HeadHook1
import HandS.HeadHook2
import HandS.HeadHook3
import HandS.HeadHook4
import HandS.Style
import HandS.Steps
import KE.KOpsOwn
import HandS.OwnEq
import HandS.SortOrd
import HandS.DictTup
import HandS.DictComp
import HandS.Conv
import PyProof.TupleOfGen
import HandS.Deep
import PyProof.InstNe
import HandS.Codes
import KE.KOwnIter
import HandS.IterVal
import KE.KTupTruth
import PyProof.Rows.Range3
import HandS.ClsMeth
import HandS.HeadNt
import HandS.Property
import HandS.FStr
import HandS.SetBool
import HandS.Strs
import HandS.MakeKwOnly
import PySem.Challenge.RW_keptcoin_k38_weight_and_fees
set_option Elab.async false
set_option linter.all false
set_option maxRecDepth 100000
/-! Reading rules: each reading of the hand layer as one step towards what follows. -/
namespace Rd
open PySem PySem.Spec PyProof.Rows L2

/-! ### heaps -/
theorem same_new {H : Hp} {p : Addr} {o : HO} (h : H p = none) : Same H (upd H p o) := fun b x e => by
  rw [upd_ne (ne_of_none e h)]
  exact e
/-- an object that H does not know may change -/
theorem same_mut {H H' : Hp} {p : Addr} {o : HO} (e : Same H H') (h : H p = none) : Same H (upd H' p o) := fun a u ha => by
  rw [upd_ne (ne_of_none ha h)]
  exact e a u ha
theorem same_tup {K : PySem.W.Frag} {H H' : Hp} {a : Addr} {xs : List V} (e : Same H H') (h : SqT K H a xs) : SqT K H' a xs := by
  rcases h with (h | ⟨o, h⟩) | h
  · exact .inl (.inl (e _ _ h))
  · exact .inl (.inr ⟨o, e _ _ h⟩)
  · exact .inr h
theorem nl {K : PySem.W.Frag} {H : Hp} {p a : Addr} {o : HO} {xs : List V} (hp : H p = none) (h : SqL K H a xs) : SqL K (upd H p o) a xs := (same_new hp).seq h
theorem nt {K : PySem.W.Frag} {H : Hp} {p a : Addr} {o : HO} {xs : List V} (hp : H p = none) (h : SqT K H a xs) : SqT K (upd H p o) a xs := same_tup (same_new hp) h
theorem nh {H : Hp} {p a : Addr} {o u : HO} (hp : H p = none) (h : H a = some u) : upd H p o a = some u := same_new hp _ _ h
theorem slT {K : PySem.W.Frag} {H : Hp} {p : Addr} {xs : List V} : SqT K (upd H p (.tup xs)) p xs := SqT.of upd_same
theorem slL {K : PySem.W.Frag} {H : Hp} {p : Addr} {xs : List V} : SqL K (upd H p (.lst xs)) p xs := SqL.of upd_same
theorem small {n : Nat} (h : n ≤ 100000) : n ≤ sizeLine := Nat.le_trans h (by decide)
theorem smallT {n : Nat} (h : n < 100000) : n < sizeLine := Nat.lt_of_lt_of_le h (by decide)

theorem ul {K : PySem.W.Frag} {H : Hp} {p a : Addr} {o : HO} {xs : List V} (hp : a ≠ p) (h : SqL K H a xs) : SqL K (upd H p o) a xs := by
  rcases h with (h | ⟨u, h⟩) | h
  · exact .inl (.inl ((upd_ne hp).trans h))
  · exact .inl (.inr ⟨u, (upd_ne hp).trans h⟩)
  · exact .inr h
theorem ut {K : PySem.W.Frag} {H : Hp} {p a : Addr} {o : HO} {xs : List V} (hp : a ≠ p) (h : SqT K H a xs) : SqT K (upd H p o) a xs := by
  rcases h with (h | ⟨u, h⟩) | h
  · exact .inl (.inl ((upd_ne hp).trans h))
  · exact .inl (.inr ⟨u, (upd_ne hp).trans h⟩)
  · exact .inr h
theorem uh {H : Hp} {p a : Addr} {o u : HO} (hp : a ≠ p) (h : H a = some u) : upd H p o a = some u := (upd_ne hp).trans h
/-! ### expressions -/
section
variable {σ : L2.St} {H : Hp} {Q : VK} {ta tb te tc : TE} {K : PySem.W.Frag}
theorem var {i : Nat} {v : V} (h : σ[i]? = some (some v)) (k : Q v H) : tVar i σ H Q := ⟨v, h, k⟩
theorem cst {v : V} (k : Q v H) : tC v σ H Q := k
theorem op {r : R2} (k : ta σ H fun x H1 => tb σ H1 fun y H2 => r x y H2 Q) : tOp r ta tb σ H Q := k
theorem un {r : V → Hp → VK → Prop} (k : ta σ H fun x H1 => r x H1 Q) : tUn r ta σ H Q := k
theorem opI0 {g : Int → Int → V} {i j : Int} (k : Q (g i j) H) : rI0 g (.int i) (.int j) H Q := ⟨i, j, rfl, rfl, k⟩
theorem opI {C : Int → Int → Prop} {g : Int → Int → V} {i j : Int} (c : C i j) (k : Q (g i j) H) : rI C g (.int i) (.int j) H Q := ⟨i, j, rfl, rfl, c, k⟩
theorem opU {g : Int → V} {i : Int} (k : Q (g i) H) : rU g (.int i) H Q := ⟨i, rfl, k⟩
theorem eqI {i j : Int} (k : Q (.bl (decide (i = j))) H) : rEq (.int i) (.int j) H Q := ⟨rfl, by
  have e : decide (V.int i = V.int j) = decide (i = j) := by simp
  rw [e]; exact k⟩
theorem neI {i j : Int} (k : Q (.bl (!decide (i = j))) H) : rNe (.int i) (.int j) H Q := ⟨rfl, by
  have e : decide (V.int i = V.int j) = decide (i = j) := by simp
  rw [e]; exact k⟩
theorem eqS {i j : Str} (k : Q (.bl (decide (i = j))) H) : rEq (.str i) (.str j) H Q := ⟨rfl, by
  have e : decide (V.str i = V.str j) = decide (i = j) := by simp
  rw [e]; exact k⟩
theorem neS {i j : Str} (k : Q (.bl (!decide (i = j))) H) : rNe (.str i) (.str j) H Q := ⟨rfl, by
  have e : decide (V.str i = V.str j) = decide (i = j) := by simp
  rw [e]; exact k⟩
theorem eqB {i j : Bool} (k : Q (.bl (decide (i = j))) H) : rEq (.bl i) (.bl j) H Q := ⟨rfl, by
  have e : decide (V.bl i = V.bl j) = decide (i = j) := by simp
  rw [e]; exact k⟩
theorem neB {i j : Bool} (k : Q (.bl (!decide (i = j))) H) : rNe (.bl i) (.bl j) H Q := ⟨rfl, by
  have e : decide (V.bl i = V.bl j) = decide (i = j) := by simp
  rw [e]; exact k⟩
theorem chain {r r' : R2} (k : ta σ H fun x H1 => tb σ H1 fun y H2 => r x y H2 fun z H3 => ∃ k, z = .bl k ∧ (if k = true then tc σ H3 fun w' H4 => r' y w' H4 Q else Q (.bl false) H3)) : tChain r r' ta tb tc σ H Q := k
theorem bl {b : Bool} {P : Bool → Prop} (k : P b) : ∃ c, V.bl b = V.bl c ∧ P c := ⟨b, rfl, k⟩
theorem andV (k : ta σ H fun x H1 => ∃ c, x = .bl c ∧ if c = true then tb σ H1 Q else Q (.bl false) H1) : tAndV ta tb σ H Q := k
theorem orV (k : ta σ H fun x H1 => ∃ c, x = .bl c ∧ if c = true then Q (.bl true) H1 else tb σ H1 Q) : tOrV ta tb σ H Q := k
theorem notV (k : ta σ H fun x H1 => ∃ c, x = .bl c ∧ Q (.bl (!c)) H1) : tNotV ta σ H Q := k
theorem ifE {t : TT} (k : t σ H fun c H1 => if c = true then ta σ H1 Q else tb σ H1 Q) : tIf t ta tb σ H Q := k
theorem nil {Q : List V → Hp → Prop} (k : Q [] H) : tNil σ H Q := k
theorem cons {tr : TA} {Q : List V → Hp → Prop} (k : ta σ H fun x H1 => tr σ H1 fun xs H2 => Q (x :: xs) H2) : tCons ta tr σ H Q := k
theorem callN {sp : Sp} {E : XK} {t : TA} (k : t σ H fun vs H1 => sp vs H1 Q E) : tCall sp [] E t σ H Q := by
  unfold tCall
  simp only [List.append_nil]
  exact k
theorem cb {r : List V → Hp → VK → Prop} {t : TA} (k : t σ H fun vs H1 => r vs H1 Q) : tCB r t σ H Q := k
theorem tup {t : TA} (k : t σ H fun xs H1 => xs.length ≤ sizeLine ∧ ∀ p, H1 p = none → Q (.ref p) (upd H1 p (.tup xs))) : tTup t σ H Q := k
theorem lst {t : TA} (k : t σ H fun xs H1 => xs.length ≤ sizeLine ∧ ∀ p, H1 p = none → Q (.ref p) (upd H1 p (.lst xs))) : tLst t σ H Q := k
theorem ixL {p : Addr} {xs : List V} {i : Int} {v : V} (h : SqL K H p xs) (a : atI xs i = some v) (k : Q v H) : rIxL K (.ref p) (.int i) H Q := ⟨p, xs, i, v, rfl, rfl, h, a, k⟩
theorem ixT {p : Addr} {xs : List V} {i : Int} {v : V} (h : SqT K H p xs) (a : atI xs i = some v) (k : Q v H) : rIxT K (.ref p) (.int i) H Q := ⟨p, xs, i, v, rfl, rfl, h, a, k⟩
theorem sl {r : V → Option Int → Option Int → Hp → VK → Prop} {tl th : TO} (k : te σ H fun x H1 => tl σ H1 fun lo H2 => th σ H2 fun hi H3 => r x lo hi H3 Q) : tSl r te tl th σ H Q := k
/-! built-ins whose readings are written out: each by a name -/
def LenK (K : PySem.W.Frag) (xs : List V) (H : Hp) (Q : VK) : Prop := ∃ p ys, xs = [.ref p] ∧ (SqL K H p ys ∨ SqT K H p ys) ∧ Q (.int ys.length) H
def LenSK (xs : List V) (H : Hp) (Q : VK) : Prop := ∃ z : Str, xs = [.str z] ∧ z.length ≤ sizeLine ∧ Q (.int z.length) H
def IntK (xs : List V) (H : Hp) (Q : VK) : Prop := (∃ i, xs = [.int i] ∧ Q (.int i) H) ∨ ∃ k, xs = [.bl k] ∧ Q (.int (if k then 1 else 0)) H
def AbsK (xs : List V) (H : Hp) (Q : VK) : Prop := ∃ i, xs = [.int i] ∧ Q (.int (if i < 0 then -i else i)) H
def StrIK (xs : List V) (H : Hp) (Q : VK) : Prop := ∃ i, xs = [.int i] ∧ i.natAbs.log2 < 1920 ∧ Q (.str (toString i)) H
def LstK (K : PySem.W.Frag) (xs : List V) (H : Hp) (Q : VK) : Prop := ∃ p ys, xs = [.ref p] ∧ (SqL K H p ys ∨ SqT K H p ys) ∧ ∀ l, H l = none → Q (.ref l) (upd H l (.lst ys))
def TupK (K : PySem.W.Frag) (xs : List V) (H : Hp) (Q : VK) : Prop := ∃ p ys, xs = [.ref p] ∧ ((SqL K H p ys ∧ ∀ l, H l = none → Q (.ref l) (upd H l (.tup ys))) ∨ (SqT K H p ys ∧ Q (.ref p) H))
def Max2K (xs : List V) (H : Hp) (Q : VK) : Prop := ∃ i j, xs = [.int i, .int j] ∧ Q (.int (if j > i then j else i)) H
def Min2K (xs : List V) (H : Hp) (Q : VK) : Prop := ∃ i j, xs = [.int i, .int j] ∧ Q (.int (if j < i then j else i)) H
theorem cbLen {t : TA} (k : t σ H fun vs H1 => LenK K vs H1 Q) : tCB (fun xs H Q => ∃ p ys, xs = [V.ref p] ∧ (SqL K H p ys ∨ SqT K H p ys) ∧ Q (.int ys.length) H) t σ H Q := k
theorem cbLenS {t : TA} (k : t σ H fun vs H1 => LenSK vs H1 Q) : tCB (fun xs H Q => ∃ z, xs = [V.str z] ∧ z.length ≤ sizeLine ∧ Q (.int z.length) H) t σ H Q := k
theorem cbInt {t : TA} (k : t σ H fun vs H1 => IntK vs H1 Q) : tCB (fun xs H Q => (∃ i, xs = [V.int i] ∧ Q (.int i) H) ∨ ∃ k, xs = [V.bl k] ∧ Q (.int (if k then 1 else 0)) H) t σ H Q := k
theorem cbAbs {t : TA} (k : t σ H fun vs H1 => AbsK vs H1 Q) : tCB (fun xs H Q => ∃ i, xs = [V.int i] ∧ Q (.int (if i < 0 then -i else i)) H) t σ H Q := k
theorem cbStrI {t : TA} (k : t σ H fun vs H1 => StrIK vs H1 Q) : tCB (fun xs H Q => ∃ i, xs = [V.int i] ∧ i.natAbs.log2 < 1920 ∧ Q (.str (toString i)) H) t σ H Q := k
theorem cbLst {t : TA} (k : t σ H fun vs H1 => LstK K vs H1 Q) : tCB (fun xs H Q => ∃ p ys, xs = [V.ref p] ∧ (SqL K H p ys ∨ SqT K H p ys) ∧ ∀ l, H l = none → Q (.ref l) (upd H l (.lst ys))) t σ H Q := k
theorem cbTup {t : TA} (k : t σ H fun vs H1 => TupK K vs H1 Q) : tCB (fun xs H Q => ∃ p ys, xs = [V.ref p] ∧ ((SqL K H p ys ∧ ∀ l, H l = none → Q (.ref l) (upd H l (.tup ys))) ∨ (SqT K H p ys ∧ Q (.ref p) H))) t σ H Q := k
theorem cbMax2 {t : TA} (k : t σ H fun vs H1 => Max2K vs H1 Q) : tCB (fun xs H Q => ∃ i j, xs = [V.int i, V.int j] ∧ Q (.int (if j > i then j else i)) H) t σ H Q := k
theorem cbMin2 {t : TA} (k : t σ H fun vs H1 => Min2K vs H1 Q) : tCB (fun xs H Q => ∃ i j, xs = [V.int i, V.int j] ∧ Q (.int (if j < i then j else i)) H) t σ H Q := k
def IsNK (x y : V) (H : Hp) (Q : VK) : Prop := y = .non ∧ Q (.bl (decide (x = .non))) H
def NotNK (x y : V) (H : Hp) (Q : VK) : Prop := y = .non ∧ Q (.bl (!decide (x = .non))) H
def AddSK (x y : V) (H : Hp) (Q : VK) : Prop := ∃ i j, x = .str i ∧ y = .str j ∧ i.length + j.length ≤ sizeLine ∧ Q (.str (i ++ j)) H
theorem opIsN (k : ta σ H fun x H1 => tb σ H1 fun y H2 => IsNK x y H2 Q) : tOp (fun x y H Q => y = V.non ∧ Q (.bl (decide (x = .non))) H) ta tb σ H Q := k
theorem opNotN (k : ta σ H fun x H1 => tb σ H1 fun y H2 => NotNK x y H2 Q) : tOp (fun x y H Q => y = V.non ∧ Q (.bl (!decide (x = .non))) H) ta tb σ H Q := k
theorem opAddS (k : ta σ H fun x H1 => tb σ H1 fun y H2 => AddSK x y H2 Q) : tOp (fun x y H Q => ∃ i j, x = V.str i ∧ y = V.str j ∧ i.length + j.length ≤ sizeLine ∧ Q (.str (i ++ j)) H) ta tb σ H Q := k
theorem addS {i j : Str} (h : i.length + j.length ≤ 100000) (k : Q (.str (i ++ j)) H) : AddSK (.str i) (.str j) H Q := ⟨i, j, rfl, rfl, small h, k⟩
theorem isN' {x : V} (k : Q (.bl (decide (x = .non))) H) : IsNK x .non H Q := ⟨rfl, k⟩
theorem notN' {x : V} (k : Q (.bl (!decide (x = .non))) H) : NotNK x .non H Q := ⟨rfl, k⟩
theorem lenS {z : Str} (h : z.length ≤ 100000) (k : Q (.int z.length) H) : LenSK [.str z] H Q := ⟨z, rfl, small h, k⟩
theorem intB {b : Bool} (k : Q (.int (if b then 1 else 0)) H) : IntK [.bl b] H Q := .inr ⟨b, rfl, k⟩
theorem lstL {p : Addr} {ys : List V} (h : SqL K H p ys) (k : ∀ l, H l = none → Q (.ref l) (upd H l (.lst ys))) : LstK K [.ref p] H Q := ⟨p, ys, rfl, .inl h, k⟩
theorem lstT {p : Addr} {ys : List V} (h : SqT K H p ys) (k : ∀ l, H l = none → Q (.ref l) (upd H l (.lst ys))) : LstK K [.ref p] H Q := ⟨p, ys, rfl, .inr h, k⟩
theorem tupL {p : Addr} {ys : List V} (h : SqL K H p ys) (k : ∀ l, H l = none → Q (.ref l) (upd H l (.tup ys))) : TupK K [.ref p] H Q := ⟨p, ys, rfl, .inl ⟨h, k⟩⟩
theorem tupT {p : Addr} {ys : List V} (h : SqT K H p ys) (k : Q (.ref p) H) : TupK K [.ref p] H Q := ⟨p, ys, rfl, .inr ⟨h, k⟩⟩
theorem max2 {i j : Int} (k : ∀ z : Int, i ≤ z → j ≤ z → (z = i ∨ z = j) → Q (.int z) H) : Max2K [.int i, .int j] H Q := ⟨i, j, rfl, k _ (by split <;> omega) (by split <;> omega) (by split <;> omega)⟩
theorem min2 {i j : Int} (k : ∀ z : Int, z ≤ i → z ≤ j → (z = i ∨ z = j) → Q (.int z) H) : Min2K [.int i, .int j] H Q := ⟨i, j, rfl, k _ (by split <;> omega) (by split <;> omega) (by split <;> omega)⟩
theorem lenL {p : Addr} {ys : List V} {n : Nat} (h : SqL K H p ys) (e : ys.length = n) (k : Q (.int n) H) : LenK K [.ref p] H Q := ⟨p, ys, rfl, .inl h, by rw [e]; exact k⟩
theorem lenT {p : Addr} {ys : List V} {n : Nat} (h : SqT K H p ys) (e : ys.length = n) (k : Q (.int n) H) : LenK K [.ref p] H Q := ⟨p, ys, rfl, .inr h, by rw [e]; exact k⟩
theorem int1 {i : Int} (k : Q (.int i) H) : IntK [.int i] H Q := .inl ⟨i, rfl, k⟩
theorem abs1 {i : Int} (k : ∀ z : Int, 0 ≤ z → (z = i ∨ z = -i) → Q (.int z) H) : AbsK [.int i] H Q := ⟨i, rfl, k _ (by split <;> omega) (by split <;> omega)⟩
theorem len {xs : List V} {P : Prop} (h : xs.length ≤ 100000) (k : P) : xs.length ≤ sizeLine ∧ P := ⟨small h, k⟩
theorem pw {a e z : Int} (c : CPow a e) (h : a ^ e.toNat = z) (k : Q (.int z) H) : rI CPow (fun i j => .int (i ^ j.toNat)) (.int a) (.int e) H Q := ⟨a, e, rfl, rfl, c, by subst h; exact k⟩
theorem isi {x c : V} {t u : Value} {b : Bool} (hc : ClsV c u) (ht : TyX K H x t) (e : PySem.W.kitOne K t u = some b) (k : Q (.bl b) H) : rIsi K [x, c] H Q := ⟨x, c, t, u, b, rfl, hc, ht, e, k⟩
/-- a new value of a kind at the end of a derivation -/
theorem fresh {P : Addr → Hp → Prop} {o : HO} (k : ∀ p H', H p = none → H' = upd H p o → P p H') : ∀ p, H p = none → P p (upd H p o) := fun p hp => k p _ hp rfl
end

/-! ### tests, statements -/
section
variable {σ : L2.St} {H : Hp} {n b c : L2.St → Hp → Prop} {r : VK} {ta te : TE} {t u : TS} {D : Ends} {tc td : TT}
theorem tst {Q : Bool → Hp → Prop} (k : te σ H fun x H' => ∃ c, x = .bl c ∧ Q c H') : tTest te σ H Q := k
theorem tB_ {Q : Bool → Hp → Prop} (k : te σ H fun x H' => ∃ c, x = .bl c ∧ Q c H') : tB te σ H Q := k
theorem and_ {Q : Bool → Hp → Prop} (k : tc σ H fun c H1 => if c = true then td σ H1 Q else Q false H1) : tAnd tc td σ H Q := k
theorem or_ {Q : Bool → Hp → Prop} (k : tc σ H fun c H1 => if c = true then Q true H1 else td σ H1 Q) : tOr tc td σ H Q := k
theorem not_ {Q : Bool → Hp → Prop} (k : tc σ H fun c H1 => Q (!c) H1) : tNot tc σ H Q := k
theorem seq (k : t ⟨u ⟨n, r, b, c⟩, r, b, c⟩ σ H) : tSeq t u ⟨n, r, b, c⟩ σ H := k
theorem asg {i : Nat} (k : te σ H fun x H1 => n (σ.set i (some x)) H1) : tAsg te (gName i) ⟨n, r, b, c⟩ σ H := k
theorem asgS {to ti : TE} {ts : TSet} (k : te σ H fun x H1 => to σ H1 fun o H2 => ti σ H2 fun i H3 => ts o i x H3 fun H4 => n σ H4) : tAsg te (gSub to ti ts) ⟨n, r, b, c⟩ σ H := k
theorem ret (k : te σ H r) : tRet te ⟨n, r, b, c⟩ σ H := k
theorem retN (k : r .non H) : tRetN ⟨n, r, b, c⟩ σ H := k
theorem drop (k : te σ H fun _ H1 => n σ H1) : tDrop te ⟨n, r, b, c⟩ σ H := k
theorem next (k : n σ H) : tNext ⟨n, r, b, c⟩ σ H := k
theorem brk (k : b σ H) : tBreak ⟨n, r, b, c⟩ σ H := k
theorem cont (k : c σ H) : tCont ⟨n, r, b, c⟩ σ H := k
theorem ifS (k : tc σ H fun x H1 => if x = true then t D σ H1 else u D σ H1) : tIfS tc t u D σ H := k
theorem aug {i : Nat} {ti : TIp} {x : V} (h : σ[i]? = some (some x)) (k : te σ H fun y H1 => ti x y H1 fun z H2 => n (σ.set i (some z)) H2) : tAug i te ti ⟨n, r, b, c⟩ σ H := ⟨x, h, k⟩
theorem augI {f : Int → Int → Int} {i j : Int} {Q : VK} (k : Q (.int (f i j)) H) : ipI f (.int i) (.int j) H Q := ⟨i, j, rfl, rfl, k⟩
theorem iteT {A B : Prop} (h : A) : if true = true then A else B := by rw [if_pos rfl]; exact h
theorem iteF {A B : Prop} (h : B) : if false = true then A else B := by rw [if_neg Bool.false_ne_true]; exact h
theorem iteD {p : Prop} [Decidable p] {A B : Prop} (h1 : p → A) (h2 : ¬ p → B) : if decide p = true then A else B := by
  by_cases h : p
  · rw [decide_eq_true h]; exact iteT (h1 h)
  · rw [decide_eq_false h]; exact iteF (h2 h)
theorem iteN {p : Prop} [Decidable p] {A B : Prop} (h1 : ¬ p → A) (h2 : p → B) : if (!decide p) = true then A else B := by
  by_cases h : p
  · rw [decide_eq_true h]; exact iteF (h2 h)
  · rw [decide_eq_false h]; exact iteT (h1 h)
theorem iteB {x : Bool} {A B : Prop} (h1 : x = true → A) (h2 : x = false → B) : if x = true then A else B := by
  cases x
  · exact iteF (h2 rfl)
  · exact iteT (h1 rfl)
/-- xs.append(v) -/
theorem app {K : PySem.W.Frag} {to : TE} {t : TA} {Q : VK} (k : to σ H fun x H1 => tyV K "list" x H1 ∧ t σ H1 fun xs H2 => rAppend x xs H2 Q) : tBM K "list" rAppend to t σ H Q := k
theorem tyL {K : PySem.W.Frag} {p : Addr} {xs : List V} {P : Prop} (h : H p = some (.lst xs)) (k : P) : tyV K "list" (.ref p) H ∧ P := ⟨.inl ⟨rfl, _, SqL.of h⟩, k⟩
theorem appd {l : Addr} {xs : List V} {v : V} {Q : VK} (h : H l = some (.lst xs)) (hz : xs.length < 100000) (k : Q .non (upd H l (.lst (xs ++ [v])))) : rAppend (.ref l) [v] H Q := ⟨l, xs, v, rfl, rfl, h, smallT hz, k⟩
theorem setL {p : Addr} {xs : List V} {i : Int} {j : Nat} {v : V} {Q : Hp → Prop} (h : H p = some (.lst xs)) (e : ixN xs.length i = some j) (k : Q (upd H p (.lst (xs.set j v)))) : rSetL (.ref p) (.int i) v H Q := ⟨p, xs, i, j, rfl, rfl, h, e, k⟩
theorem ixN_nat {n j : Nat} (hj : j < n) : ixN n (j : Int) = some j := by
  unfold ixN
  rw [if_pos (by omega), if_pos (by omega)]
  simp
theorem ixN_lit {n : Nat} {i : Int} (h0 : 0 ≤ i) (h : i < n) : ixN n i = some i.toNat := by
  have := @ixN_nat n i.toNat (by omega)
  rwa [Int.toNat_of_nonneg h0] at this
theorem atI_of {α : Type} {xs : List α} {i : Int} {v : α} (h0 : 0 ≤ i) (h : xs[i.toNat]? = some v) : atI xs i = some v := by
  have e := atI_nat (xs := xs) (j := i.toNat) h
  rwa [Int.toNat_of_nonneg h0] at e

theorem atI_ints {ns : List Int} {i : Int} (h0 : 0 ≤ i) (h : i < (ns.length : Int)) : atI (ns.map V.int) i = some (.int (ns.getD i.toNat 0)) := atI_of h0 (by
  have h1 : i.toNat < ns.length := by omega
  rw [List.getElem?_map, List.getD_eq_getElem?_getD, List.getElem?_eq_getElem h1]
  rfl)
theorem getD_bd {ns : List Int} {i : Nat} {lo hi : Int} (hb : ∀ x ∈ ns, lo ≤ x ∧ x < hi) (h : i < ns.length) : lo ≤ ns.getD i 0 ∧ ns.getD i 0 < hi := by
  rw [List.getD_eq_getElem?_getD, List.getElem?_eq_getElem h]
  exact hb _ (List.getElem_mem h)
theorem bd_app {ns : List Int} {x lo hi : Int} (hb : ∀ x ∈ ns, lo ≤ x ∧ x < hi) (hx : lo ≤ x ∧ x < hi) : ∀ y ∈ ns ++ [x], lo ≤ y ∧ y < hi := fun y hy => by
  rcases List.mem_append.mp hy with h | h
  · exact hb y h
  · rw [List.mem_singleton.mp h]; exact hx
theorem cxK {CX : CXT} {P : Program} {w : World} {K : PySem.W.Frag} {mg : Str → Option Value} {base : Heap} {N : List Str} {q : Str} {sc : Scope} {f : Addr} {cdv : Value} {A : Around} {outer : List Env} {s : Shared} {H : Hp} {E : XK} : (cxOf CX P w K mg base N q sc f cdv A outer s H E).K = K := rfl

theorem finT {p : Prop} [Decidable p] {Q : VK} {H : Hp} (k : Q (.bl true) H) (hp : p) : Q (.bl (decide p)) H := by rw [decide_eq_true hp]; exact k
theorem pushInts {H' : Hp} {p : Addr} {nums : List Int} {x : Int} : upd H' p (.lst (nums.map V.int ++ [.int x])) p = some (.lst ((nums ++ [x]).map V.int)) := by rw [upd_same, List.map_append]; rfl

/-! ### loops -/
/-- what a for asks of what it walks -/
def ForJ (g : TG) (tb : TS) (D : Ends) (σ : L2.St) (J : It) (H1 : Hp) : Prop := ∃ W : Nat → Nat → L2.St → Hp → Prop, (∃ m, W 0 m σ H1) ∧ ∀ i m σ H, W i m σ H →
  (J.stop i H ∧ D.nx σ H) ∨ (J.go i H ∧ ∃ N : L2.St → Hp → Prop, (∀ σ' H', N σ' H' → ∃ m', m' < m ∧ W (i + 1) m' σ' H') ∧ ∀ x H', J.yld i H x H' → g x σ H' fun σ2 H2 => tb { D with nx := N, ct := N, bk := D.nx } σ2 H2)
theorem for_ {wi : TI} {g : TG} {tb : TS} (k : wi σ H fun J H1 => ForJ g tb D σ J H1) : tFor wi g tb D σ H := k
theorem iR1 {tl : TA} {R : It → Hp → Prop} (k : tl σ H fun vs H1 => ∃ j : Int, vs = [.int j] ∧ -(2 ^ 62) ≤ j ∧ j < 2 ^ 62 ∧ R (Itr 0 j.toNat) H1) : iRng1 tl σ H R := k
theorem iR2 {tl : TA} {R : It → Hp → Prop} (k : tl σ H fun vs H1 => ∃ i j : Int, vs = [.int i, .int j] ∧ (-(2 ^ 62) ≤ i ∧ i < 2 ^ 62 ∧ -(2 ^ 62) ≤ j ∧ j < 2 ^ 62) ∧ R (Itr i (j - i).toNat) H1) : iRng2 tl σ H R := k
theorem iL {K : PySem.W.Frag} {tl : TE} {R : It → Hp → Prop} (k : tl σ H fun x H1 => ∃ a, x = .ref a ∧ (∃ xs, SqL K H1 a xs) ∧ R (Itl K a) H1) : iList K tl σ H R := k
theorem iT {K : PySem.W.Frag} {tl : TE} {R : It → Hp → Prop} (k : tl σ H fun x H1 => ∃ a, x = .ref a ∧ (∃ xs, SqT K H1 a xs) ∧ R (Itt K a) H1) : iTup K tl σ H R := k
/-- for name in range(m), the argument known -/
theorem rng1 {m : Int} {tb : TS} {j : Nat} (Pv : Nat → L2.St → Hp → Prop) (hb : -1000000 ≤ m ∧ m ≤ 1000000) (h0 : Pv 0 σ H)
    (hs : ∀ (i : Nat) (σ' : L2.St) (H' : Hp), (i : Int) < m → Pv i σ' H' → tb ⟨Pv (i + 1), r, n, Pv (i + 1)⟩ (σ'.set j (some (.int (i : Int)))) H') (hd : ∀ σ' H', Pv m.toNat σ' H' → n σ' H') :
    ∃ q : Int, [V.int m] = [V.int q] ∧ -(2 ^ 62) ≤ q ∧ q < 2 ^ 62 ∧ ForJ (gName j) tb ⟨n, r, b, c⟩ σ (Itr 0 q.toNat) H := by
  obtain ⟨hb1, hb2⟩ := hb
  have p62 : (2 : Int) ^ 62 = 4611686018427387904 := by decide
  refine ⟨m, rfl, by omega, by omega, for_range (lo := 0) (n := m.toNat) Pv h0 (fun i σ' H' hi p => ?_) hd⟩
  have e0 : (0 : Int) + (i : Int) = (i : Int) := Int.zero_add _
  show tb _ (σ'.set j (some (.int ((0 : Int) + (i : Int))))) H'
  rw [e0]
  exact hs i σ' H' (by omega) p
theorem rng2 {lo m : Int} {tb : TS} {j : Nat} (Pv : Nat → L2.St → Hp → Prop) (hb : -1000000 ≤ lo ∧ lo ≤ 1000000 ∧ -1000000 ≤ m ∧ m ≤ 1000000) (h0 : Pv 0 σ H)
    (hs : ∀ (i : Nat) (σ' : L2.St) (H' : Hp), lo + (i : Int) < m → Pv i σ' H' → tb ⟨Pv (i + 1), r, n, Pv (i + 1)⟩ (σ'.set j (some (.int (lo + (i : Int))))) H') (hd : ∀ σ' H', Pv (m - lo).toNat σ' H' → n σ' H') :
    ∃ p q : Int, [V.int lo, V.int m] = [V.int p, V.int q] ∧ (-(2 ^ 62) ≤ p ∧ p < 2 ^ 62 ∧ -(2 ^ 62) ≤ q ∧ q < 2 ^ 62) ∧ ForJ (gName j) tb ⟨n, r, b, c⟩ σ (Itr p (q - p).toNat) H := by
  obtain ⟨hb1, hb2, hb3, hb4⟩ := hb
  have p62 : (2 : Int) ^ 62 = 4611686018427387904 := by decide
  refine ⟨lo, m, rfl, ⟨by omega, by omega, by omega, by omega⟩, for_range (lo := lo) (n := (m - lo).toNat) Pv h0 (fun i σ' H' hi p => ?_) hd⟩
  exact hs i σ' H' (by omega) p
/-- for .. in a list, a tuple -/
theorem forL {K : PySem.W.Frag} {a : Addr} {xs : List V} {g : TG} {tb : TS} (Pv : Nat → L2.St → Hp → Prop) (h : SqL K H a xs) (h0 : Pv 0 σ H) (hl : ∀ i σ H, i ≤ xs.length → Pv i σ H → SqL K H a xs)
    (hs : ∀ (i : Nat) (x : V) (σ' : L2.St) (H' : Hp), xs[i]? = some x → Pv i σ' H' → g x σ' H' fun σ2 H2 => tb ⟨Pv (i + 1), r, n, Pv (i + 1)⟩ σ2 H2) (hd : ∀ σ' H', Pv xs.length σ' H' → n σ' H') :
    ∃ p, V.ref a = V.ref p ∧ (∃ ys, SqL K H p ys) ∧ ForJ g tb ⟨n, r, b, c⟩ σ (Itl K p) H := ⟨a, rfl, ⟨_, h⟩, for_list Pv h0 hl hs hd⟩
theorem forT {K : PySem.W.Frag} {a : Addr} {xs : List V} {g : TG} {tb : TS} (Pv : Nat → L2.St → Hp → Prop) (h : SqT K H a xs) (h0 : Pv 0 σ H) (hl : ∀ i σ H, i ≤ xs.length → Pv i σ H → SqT K H a xs)
    (hs : ∀ (i : Nat) (x : V) (σ' : L2.St) (H' : Hp), xs[i]? = some x → Pv i σ' H' → g x σ' H' fun σ2 H2 => tb ⟨Pv (i + 1), r, n, Pv (i + 1)⟩ σ2 H2) (hd : ∀ σ' H', Pv xs.length σ' H' → n σ' H') :
    ∃ p, V.ref a = V.ref p ∧ (∃ ys, SqT K H p ys) ∧ ForJ g tb ⟨n, r, b, c⟩ σ (Itt K p) H := ⟨a, rfl, ⟨_, h⟩, for_tup Pv h0 hl hs hd⟩
/-- what a list comprehension asks of what it walks -/
def LcJ (g : TG) (tt : TT) (te : TE) (vs : List Nat) (σ : L2.St) (Q : VK) (J : It) (H1 : Hp) : Prop := ∀ D, H1 D = none → ∃ W : Nat → Nat → Hp → Prop, (∃ m, W 0 m (upd H1 D (.lst []))) ∧ ∀ i m H, W i m H →
  (J.stop i H ∧ Q (.ref D) H) ∨ (J.go i H ∧ ∃ Nx : Hp → Prop, (∀ H', Nx H' → ∃ m', m' < m ∧ W (i + 1) m' H') ∧ ∀ x H', J.yld i H x H' → g x (wipe σ vs) H' fun σ2 H2 => wipe σ2 vs = wipe σ vs ∧ tt σ2 H2 fun b H3 =>
    if b = true then te σ2 H3 fun y H4 => ∃ acc, H4 D = some (.lst acc) ∧ acc.length < sizeLine ∧ Nx (upd H4 D (.lst (acc ++ [y]))) else Nx H3)
theorem lc_ {wi : TI} {g : TG} {tt : TT} {te : TE} {vs : List Nat} {Q : VK} (k : wi σ H fun J H1 => LcJ g tt te vs σ Q J H1) : tLc wi g tt te vs σ H Q := k
theorem itrLc {lo : Int} {k : Nat} {g : TG} {tt : TT} {te : TE} {vs : List Nat} {Q : VK} {D : Addr} (Pv : Nat → Hp → Prop) (h0 : Pv 0 (upd H D (.lst [])))
    (hs : ∀ i H, i < k → Pv i H → g (.int (lo + i)) (wipe σ vs) H fun σ2 H2 => wipe σ2 vs = wipe σ vs ∧ tt σ2 H2 fun b H3 =>
      if b = true then te σ2 H3 fun y H4 => ∃ acc, H4 D = some (.lst acc) ∧ acc.length < sizeLine ∧ Pv (i + 1) (upd H4 D (.lst (acc ++ [y]))) else Pv (i + 1) H3) (hd : ∀ H, Pv k H → Q (.ref D) H) :
    ∃ W : Nat → Nat → Hp → Prop, (∃ m, W 0 m (upd H D (.lst []))) ∧ ∀ i m H, W i m H →
      ((Itr lo k).stop i H ∧ Q (.ref D) H) ∨ ((Itr lo k).go i H ∧ ∃ Nx : Hp → Prop, (∀ H', Nx H' → ∃ m', m' < m ∧ W (i + 1) m' H') ∧ ∀ x H', (Itr lo k).yld i H x H' → g x (wipe σ vs) H' fun σ2 H2 => wipe σ2 vs = wipe σ vs ∧ tt σ2 H2 fun b H3 =>
        if b = true then te σ2 H3 fun y H4 => ∃ acc, H4 D = some (.lst acc) ∧ acc.length < sizeLine ∧ Nx (upd H4 D (.lst (acc ++ [y]))) else Nx H3) := by
  refine ⟨fun i m H => m = k - i ∧ i ≤ k ∧ Pv i H, ⟨k, by simp, Nat.zero_le _, h0⟩, ?_⟩
  rintro i m H ⟨rfl, hi, p⟩
  by_cases hlt : i < k
  · refine .inr ⟨hlt, Pv (i + 1), fun H' p' => ⟨k - (i + 1), by omega, rfl, hlt, p'⟩, fun x H' y => ?_⟩
    obtain ⟨e, rfl⟩ := y
    subst e
    exact hs i _ hlt p
  · have e : i = k := by omega
    subst e
    exact .inl ⟨Nat.le_refl _, hd H p⟩
/-- the end of a comprehension's turn: what is made so far, and the invariant -/
def LcE (H : Hp) (D : Addr) (i : Nat) (Pv : Addr → Nat → List V → Hp → Prop) : VK := fun y H4 => ∃ acc, H4 D = some (.lst acc) ∧ acc.length < sizeLine ∧
  ∃ ac, Same H (upd H4 D (.lst (acc ++ [y]))) ∧ ac.length = i + 1 ∧ upd H4 D (.lst (acc ++ [y])) D = some (.lst ac) ∧ Pv D (i + 1) ac (upd H4 D (.lst (acc ++ [y])))
theorem lcE {H H4 : Hp} {D : Addr} {i : Nat} {Pv : Addr → Nat → List V → Hp → Prop} {acc : List V} {y : V} (hD : H D = none) (h : H4 D = some (.lst acc)) (s : Same H H4) (e : acc.length = i) (hi : i < 100000) (k : Pv D (i + 1) (acc ++ [y]) (upd H4 D (.lst (acc ++ [y])))) : LcE H D i Pv y H4 :=
  ⟨acc, h, smallT (by omega), acc ++ [y], same_mut s hD, by simp [e], upd_same, k⟩
/-- [.. for name in range(m)] without a test: Pv i acc H: acc what is made -/
theorem lcR1 {m : Int} {j : Nat} {te : TE} {Q : VK} (Pv : Addr → Nat → List V → Hp → Prop) (hb : -100000 ≤ m ∧ m ≤ 100000) (h0 : ∀ D H', H D = none → Same H H' → H' D = some (.lst []) → Pv D 0 [] H')
    (hs : ∀ (i : Nat) (acc : List V) (D : Addr) (H' : Hp), H D = none → Same H H' → (i : Int) < m → acc.length = i → H' D = some (.lst acc) → Pv D i acc H' → te (σ.set j (some (.int (i : Int)))) H' (LcE H D i Pv))
    (hd : ∀ D acc H', H D = none → Same H H' → H' D = some (.lst acc) → acc.length = m.toNat → Pv D m.toNat acc H' → Q (.ref D) H') :
    ∃ q : Int, [V.int m] = [V.int q] ∧ -(2 ^ 62) ≤ q ∧ q < 2 ^ 62 ∧ LcJ (gName j) tYes te [j] σ Q (Itr 0 q.toNat) H := by
  obtain ⟨hb1, hb2⟩ := hb
  have p62 : (2 : Int) ^ 62 = 4611686018427387904 := by decide
  refine ⟨m, rfl, by omega, by omega, fun D hD => ?_⟩
  refine itrLc (fun i H' => ∃ acc, Same H H' ∧ acc.length = i ∧ H' D = some (.lst acc) ∧ Pv D i acc H') ⟨[], same_new hD, rfl, upd_same, h0 D _ hD (same_new hD) upd_same⟩ ?_ ?_
  · rintro i H' hi ⟨acc, s, e, hD', p⟩
    have e0 : (0 : Int) + (i : Int) = (i : Int) := Int.zero_add _
    rw [e0]
    refine ⟨show wipe ((wipe σ [j]).set j (some (.int (i : Int)))) [j] = wipe σ [j] by simp [wipe], ?_⟩
    show te ((wipe σ [j]).set j (some (.int (i : Int)))) H' (LcE H D i Pv)
    have ew : (wipe σ [j]).set j (some (.int (i : Int))) = σ.set j (some (.int (i : Int))) := by simp [wipe]
    rw [ew]
    exact hs i acc D H' hD s (by omega) e hD' p
  · rintro H' ⟨acc, s, e, hD', p⟩
    exact hd D acc H' hD s hD' e p
/-- [.. for name in a list] without a test -/
theorem lcL {K : PySem.W.Frag} {a : Addr} {xs : List V} {j : Nat} {te : TE} {Q : VK} (Pv : Addr → Nat → List V → Hp → Prop) (h : SqL K H a xs) (hl : xs.length ≤ 100000) (h0 : ∀ D H', H D = none → Same H H' → H' D = some (.lst []) → Pv D 0 [] H')
    (hs : ∀ (i : Nat) (x : V) (acc : List V) (D : Addr) (H' : Hp), H D = none → Same H H' → xs[i]? = some x → acc.length = i → H' D = some (.lst acc) → Pv D i acc H' → te (σ.set j (some x)) H' (LcE H D i Pv))
    (hd : ∀ D acc H', H D = none → Same H H' → H' D = some (.lst acc) → acc.length = xs.length → Pv D xs.length acc H' → Q (.ref D) H') :
    ∃ p, V.ref a = V.ref p ∧ (∃ ys, SqL K H p ys) ∧ LcJ (gName j) tYes te [j] σ Q (Itl K p) H := by
  refine ⟨a, rfl, ⟨_, h⟩, fun D hD => ?_⟩
  refine lc_list (xs := xs) (fun i H' => ∃ acc, Same H H' ∧ acc.length = i ∧ H' D = some (.lst acc) ∧ Pv D i acc H') ⟨[], same_new hD, rfl, upd_same, h0 D _ hD (same_new hD) upd_same⟩ (fun i H' _ ⟨acc, s, _⟩ => s.seq h) ?_ ?_
  · rintro i x H' hi ⟨acc, s, e, hD', p⟩
    refine ⟨show wipe ((wipe σ [j]).set j (some x)) [j] = wipe σ [j] by simp [wipe], ?_⟩
    show te ((wipe σ [j]).set j (some x)) H' (LcE H D i Pv)
    have ew : (wipe σ [j]).set j (some x) = σ.set j (some x) := by simp [wipe]
    rw [ew]
    exact hs i x acc D H' hD s hi e hD' p
  · rintro H' ⟨acc, s, e, hD', p⟩
    exact hd D acc H' hD s hD' e p
end
section
variable {X : Cx}
/-- // by a divisor of either sign below 2 ^ 9000 -/
def CDivX (_ j : Int) : Prop := j ≠ 0 ∧ j.natAbs.log2 < 9000
theorem op_fdivX : OpR X (binaryOp .FloorDiv) (rI CDivX fun i j => .int (i.fdiv j)) := L2.opI fun i j _ _ _ _ _ hc q =>
  floordiv_int hc.1 q (.inl (PyProof.noPylong_of_log2 hc.2))
end
theorem cdivX' {i j : Int} (h : j ≠ 0) (hb : -(2 ^ 64) < j ∧ j < 2 ^ 64) : CDivX i j := ⟨h, Nat.lt_of_lt_of_le (PySem.Flt.log2_lt_of (k := 64) (by decide) (by omega)) (by decide)⟩
theorem kb_int_int : kitB "int" "int" = some true := by decide +kernel
theorem kb_int_bool : kitB "int" "bool" = some false := by decide +kernel
theorem kb_int_str : kitB "int" "str" = some false := by decide +kernel
theorem kb_int_tuple : kitB "int" "tuple" = some false := by decide +kernel
theorem kb_int_list : kitB "int" "list" = some false := by decide +kernel
theorem kb_int_dict : kitB "int" "dict" = some false := by decide +kernel
theorem kb_bool_int : kitB "bool" "int" = some true := by decide +kernel
theorem kb_bool_bool : kitB "bool" "bool" = some true := by decide +kernel
theorem kb_bool_str : kitB "bool" "str" = some false := by decide +kernel
theorem kb_bool_tuple : kitB "bool" "tuple" = some false := by decide +kernel
theorem kb_bool_list : kitB "bool" "list" = some false := by decide +kernel
theorem kb_bool_dict : kitB "bool" "dict" = some false := by decide +kernel
theorem kb_str_int : kitB "str" "int" = some false := by decide +kernel
theorem kb_str_bool : kitB "str" "bool" = some false := by decide +kernel
theorem kb_str_str : kitB "str" "str" = some true := by decide +kernel
theorem kb_str_tuple : kitB "str" "tuple" = some false := by decide +kernel
theorem kb_str_list : kitB "str" "list" = some false := by decide +kernel
theorem kb_str_dict : kitB "str" "dict" = some false := by decide +kernel
theorem kb_tuple_int : kitB "tuple" "int" = some false := by decide +kernel
theorem kb_tuple_bool : kitB "tuple" "bool" = some false := by decide +kernel
theorem kb_tuple_str : kitB "tuple" "str" = some false := by decide +kernel
theorem kb_tuple_tuple : kitB "tuple" "tuple" = some true := by decide +kernel
theorem kb_tuple_list : kitB "tuple" "list" = some false := by decide +kernel
theorem kb_tuple_dict : kitB "tuple" "dict" = some false := by decide +kernel
theorem kb_list_int : kitB "list" "int" = some false := by decide +kernel
theorem kb_list_bool : kitB "list" "bool" = some false := by decide +kernel
theorem kb_list_str : kitB "list" "str" = some false := by decide +kernel
theorem kb_list_tuple : kitB "list" "tuple" = some false := by decide +kernel
theorem kb_list_list : kitB "list" "list" = some true := by decide +kernel
theorem kb_list_dict : kitB "list" "dict" = some false := by decide +kernel
theorem kb_NoneType_int : kitB "NoneType" "int" = some false := by decide +kernel
theorem kb_NoneType_bool : kitB "NoneType" "bool" = some false := by decide +kernel
theorem kb_NoneType_str : kitB "NoneType" "str" = some false := by decide +kernel
theorem kb_NoneType_tuple : kitB "NoneType" "tuple" = some false := by decide +kernel
theorem kb_NoneType_list : kitB "NoneType" "list" = some false := by decide +kernel
theorem kb_NoneType_dict : kitB "NoneType" "dict" = some false := by decide +kernel
theorem kb_dict_int : kitB "dict" "int" = some false := by decide +kernel
theorem kb_dict_bool : kitB "dict" "bool" = some false := by decide +kernel
theorem kb_dict_str : kitB "dict" "str" = some false := by decide +kernel
theorem kb_dict_tuple : kitB "dict" "tuple" = some false := by decide +kernel
theorem kb_dict_list : kitB "dict" "list" = some false := by decide +kernel
theorem kb_dict_dict : kitB "dict" "dict" = some true := by decide +kernel
section
variable {K : PySem.W.Frag} {H : Hp} {Q : VK} {b : String} {r : Bool}
theorem isiI {i : Int} (e : kitB "int" b = some r) (k : Q (.bl r) H) : rIsi K [.int i, .ty b] H Q := ⟨_, _, _, _, r, rfl, .ty b, .base (.int i), kit_ty e, k⟩
theorem isiB {i : Bool} (e : kitB "bool" b = some r) (k : Q (.bl r) H) : rIsi K [.bl i, .ty b] H Q := ⟨_, _, _, _, r, rfl, .ty b, .base (.bl i), kit_ty e, k⟩
theorem isiS {i : Str} (e : kitB "str" b = some r) (k : Q (.bl r) H) : rIsi K [.str i, .ty b] H Q := ⟨_, _, _, _, r, rfl, .ty b, .base (.str i), kit_ty e, k⟩
theorem isiN (e : kitB "NoneType" b = some r) (k : Q (.bl r) H) : rIsi K [.non, .ty b] H Q := ⟨_, _, _, _, r, rfl, .ty b, .base .non, kit_ty e, k⟩
theorem tyT {p : Addr} {xs : List V} (h : SqT K H p xs) : TyX K H (.ref p) (.type "tuple") := by
  rcases h with (h | ⟨o, h⟩) | h
  · exact .base (.tup h)
  · exact .fTuple h
  · obtain ⟨o, its, n, h1, h2, _⟩ := h
    exact .kTuple h1 h2
theorem tyL' {p : Addr} {xs : List V} (h : SqL K H p xs) : TyX K H (.ref p) (.type "list") := by
  rcases h with (h | ⟨o, h⟩) | h
  · exact .base (.lst h)
  · exact .base (.frz h)
  · obtain ⟨o, its, n, h1, h2, _⟩ := h
    exact .kList h1 h2
theorem isiT {p : Addr} {xs : List V} (h : SqT K H p xs) (e : kitB "tuple" b = some r) (k : Q (.bl r) H) : rIsi K [.ref p, .ty b] H Q := ⟨_, _, _, _, r, rfl, .ty b, tyT h, kit_ty e, k⟩
theorem isiL {p : Addr} {xs : List V} (h : SqL K H p xs) (e : kitB "list" b = some r) (k : Q (.bl r) H) : rIsi K [.ref p, .ty b] H Q := ⟨_, _, _, _, r, rfl, .ty b, tyL' h, kit_ty e, k⟩
theorem iteNT {A B : Prop} (h : B) : if (!true) = true then A else B := iteF h
theorem iteNF {A B : Prop} (h : A) : if (!false) = true then A else B := iteT h
end

/-! ### texts -/
/-- the text of these signs -/
def S (l : List Nat) : Str := ⟨l.toArray⟩
theorem S_len (l : List Nat) : (S l).length = l.length := by show l.toArray.size = l.length; simp
theorem S_tl (l : List Nat) : (S l).cps.toList = l := by show l.toArray.toList = l; simp
theorem S_inj {l m : List Nat} (h : S l = S m) : l = m := by have := congrArg (fun z : Str => z.cps.toList) h; simpa [S_tl] using this
theorem S_eq {l m : List Nat} : decide (S l = S m) = decide (l = m) := by
  by_cases h : l = m
  · rw [decide_eq_true h, decide_eq_true (by rw [h])]
  · rw [decide_eq_false h, decide_eq_false fun e => h (S_inj e)]
theorem S_app (l m : List Nat) : S l ++ S m = S (l ++ m) := by
  show (⟨l.toArray ++ m.toArray⟩ : Str) = ⟨(l ++ m).toArray⟩
  simp
theorem S_of (x : Str) : x = S x.cps.toList := by cases x; simp [S]
theorem S_one (c : Nat) : (⟨#[c]⟩ : Str) = S [c] := rfl
section
variable {σ : L2.St} {H : Hp} {Q : VK} {ta tb te : TE} {K : PySem.W.Frag}
theorem addS' {l m : List Nat} (h : l.length + m.length ≤ 100000) (k : Q (.str (S (l ++ m))) H) : AddSK (.str (S l)) (.str (S m)) H Q := ⟨_, _, rfl, rfl, small (by rw [S_len, S_len]; exact h), by rw [S_app]; exact k⟩
theorem lenS' {l : List Nat} (h : l.length ≤ 100000) (k : Q (.int l.length) H) : LenSK [.str (S l)] H Q := ⟨_, rfl, small (by rw [S_len]; exact h), by rw [S_len]; exact k⟩
theorem eqS' {l m : List Nat} (k : Q (.bl (decide (l = m))) H) : rEq (.str (S l)) (.str (S m)) H Q := eqS (by rw [S_eq]; exact k)
theorem neS' {l m : List Nat} (k : Q (.bl (!decide (l = m))) H) : rNe (.str (S l)) (.str (S m)) H Q := neS (by rw [S_eq]; exact k)
theorem ixS {l : List Nat} {i : Int} {c : Nat} (h : l.length ≤ 100000) (a : atI l i = some c) (k : Q (.str (S [c])) H) : rIxS (.str (S l)) (.int i) H Q := ⟨S l, i, c, rfl, rfl, small (by rw [S_len]; exact h), by rw [S_tl]; exact a, k⟩
def InSK (x y : V) (H : Hp) (Q : VK) : Prop := ∃ (c : Nat) (z : Str), x = .str ⟨#[c]⟩ ∧ y = .str z ∧ Q (.bl (decide (c ∈ z.cps.toList))) H
theorem opInS (k : ta σ H fun x H1 => tb σ H1 fun y H2 => InSK x y H2 Q) : tOp (fun x y H Q => ∃ (c : Nat) (z : Str), x = V.str ⟨#[c]⟩ ∧ y = V.str z ∧ Q (.bl (decide (c ∈ z.cps.toList))) H) ta tb σ H Q := k
theorem inS {c : Nat} {l : List Nat} (k : Q (.bl (decide (c ∈ l))) H) : InSK (.str (S [c])) (.str (S l)) H Q := ⟨c, S l, rfl, rfl, by rw [S_tl]; exact k⟩
theorem slS {l : List Nat} {a b : Nat} {i j : Int} (ha : i = a) (hb : j = b) (hl : l.length ≤ 100000) (hab : a ≤ l.length) (k : Q (.str (S ((l.drop a).take (b - a)))) H) : rSlS (.str (S l)) (some i) (some j) H Q := by
  subst ha hb
  refine ⟨S l, rfl, small (by rw [S_len]; exact hl), ?_⟩
  have e : cutS (S l) (some (a : Int)) (some (b : Int)) = S ((l.drop a).take (b - a)) := by
    unfold cutS
    rw [S_tl, S_len, HT.sIx_nat, HT.sIx_nat]
    show S _ = S _
    congr 1
    rw [Nat.min_eq_left hab]
    by_cases h : b ≤ l.length
    · rw [Nat.min_eq_left h]
    · rw [Nat.min_eq_right (by omega), List.take_of_length_le (by simp), List.take_of_length_le (by simp; omega)]
  rw [e]; exact k
def IntSK (xs : List V) (H : Hp) (Q : VK) : Prop := ∃ a n, xs = [.str a] ∧ PySem.intText? a = some n ∧ a.length ≤ 640 ∧ Q (.int n) H
theorem cbIntS {t : TA} (k : t σ H fun vs H1 => IntSK vs H1 Q) : tCB (fun xs H Q => ∃ a n, xs = [V.str a] ∧ PySem.intText? a = some n ∧ a.length ≤ 640 ∧ Q (.int n) H) t σ H Q := k
theorem intS {l : List Nat} {n : Int} (e : PySem.intText? (S l) = some n) (h : l.length ≤ 640) (k : Q (.int n) H) : IntSK [.str (S l)] H Q := ⟨_, n, rfl, e, by rw [S_len]; exact h, k⟩
theorem strI {i : Int} {l : List Nat} (h : i.natAbs.log2 < 1920) (e : (Str.ofString (toString i)) = S l) (k : Q (.str (S l)) H) : StrIK [.int i] H Q := ⟨i, rfl, h, by rw [e]; exact k⟩
/-- a text times a number -/
def MulSK (x y : V) (H : Hp) (Q : VK) : Prop := ∃ (z : Str) (n : Int), x = .str z ∧ y = .int n ∧ MulOk z n ∧ Q (.str (Txt.mul z n)) H
theorem op_mulS {X : Cx} : OpR X (binaryOp .Mult) MulSK := by
  intro pins s σ H x y v u Q I rx ry h
  obtain ⟨z, n, rfl, rfl, hc, q⟩ := h
  obtain ⟨t, rfl⟩ := rx
  obtain ⟨t', rfl⟩ := ry
  exact SB.mul hc fun t' k => ⟨.str (Txt.mul z n), H, I.tok _, ⟨_, rfl⟩, q⟩
theorem mulS1 {c : Nat} {n : Int} (h : 0 ≤ n ∧ n ≤ 100000) (k : Q (.str (S (List.replicate n.toNat c))) H) : MulSK (.str (S [c])) (.int n) H Q := by
  refine ⟨S [c], n, rfl, rfl, ⟨?_, ?_, ?_⟩, ?_⟩
  · have : ¬ n < -(2 ^ 63 : Int) := by omega
    have h2 : ¬ n ≥ 2 ^ 63 := by omega
    simp [this, h2]
    omega
  · intro h1 _
    show ¬ (((S [c]).length : Int) > (2 ^ 63 - 1) / n)
    have : ((S [c]).length : Int) = 1 := rfl
    rw [this]
    have h3 : (1 : Int) ≤ (2 ^ 63 - 1) / n := by
      rw [Int.le_ediv_iff_mul_le (by omega)]
      omega
    omega
  · intro h1 _
    have : (S [c]).length = 1 := rfl
    rw [this, Nat.one_mul]
    have : n.toNat ≤ sizeLine := small (by omega)
    exact decide_eq_false (by omega)
  · have e : Txt.mul (S [c]) n = S (List.replicate n.toNat c) := by
      unfold Txt.mul
      by_cases h1 : n < 1
      · rw [if_pos h1]
        have : n.toNat = 0 := by omega
        rw [this]; rfl
      · rw [if_neg h1]
        by_cases h2 : n = 1
        · subst h2; rfl
        · have : (n == 1 || (S [c]).length == 0) = false := by rw [beq_eq_false_iff_ne.mpr h2]; rfl
          rw [this]
          show (⟨(List.replicate n.toNat #[c]).foldl (· ++ ·) #[]⟩ : Str) = S (List.replicate n.toNat c)
          have e2 : ∀ (m : Nat) (acc : Array Nat), (List.replicate m #[c]).foldl (· ++ ·) acc = acc ++ (List.replicate m c).toArray := by
            intro m
            induction m with
            | zero => intro acc; simp
            | succ m ih =>
              intro acc
              rw [List.replicate_succ, List.foldl_cons, ih, List.replicate_succ]
              apply Array.toList_inj.mp
              simp
          rw [e2]
          simp [S]
    rw [e]; exact k
end
/-! ### more readings -/
section
variable {σ : L2.St} {H : Hp} {n b c : L2.St → Hp → Prop} {r : VK} {tc : TT} {tb : TS} {K : PySem.W.Frag}
/-- while: Pv m: m falls -/
theorem whl (Pv : Nat → L2.St → Hp → Prop) (h0 : ∃ m, Pv m σ H)
    (hs : ∀ m σ H, Pv m σ H → tc σ H fun x H1 => if x = true then ∃ N : L2.St → Hp → Prop, (∀ σ' H', N σ' H' → ∃ m', m' < m ∧ Pv m' σ' H') ∧ tb ⟨N, r, n, N⟩ σ H1 else n σ H1) : tWhile tc tb ⟨n, r, b, c⟩ σ H := ⟨Pv, h0, hs⟩
theorem whlN {Pv : Nat → L2.St → Hp → Prop} {m : Nat} (k : tb ⟨fun σ' H' => ∃ m', m' < m ∧ Pv m' σ' H', r, n, fun σ' H' => ∃ m', m' < m ∧ Pv m' σ' H'⟩ σ H) :
    ∃ N : L2.St → Hp → Prop, (∀ σ' H', N σ' H' → ∃ m', m' < m ∧ Pv m' σ' H') ∧ tb ⟨N, r, n, N⟩ σ H := ⟨_, fun _ _ h => h, k⟩
variable {Q : VK} {te : TE}
theorem revL (k : te σ H fun x H1 => ∃ a xs, x = .ref a ∧ SqL K H1 a xs ∧ ∀ p, H1 p = none → Q (.ref p) (upd H1 p (.lst xs.reverse))) : tRevL K te σ H Q := k
theorem revL' {a : Addr} {xs : List V} {P : List V → Prop} (h : SqL K H a xs) (k : P xs) : ∃ a' xs', V.ref a = V.ref a' ∧ SqL K H a' xs' ∧ P xs' := ⟨a, xs, rfl, h, k⟩
theorem slL' {a : Addr} {xs : List V} {lo hi : Option Int} (h : SqL K H a xs) (k : ∀ p, H p = none → Q (.ref p) (upd H p (.lst (cutV xs lo hi)))) : rSlL K (.ref a) lo hi H Q := ⟨a, xs, rfl, h, k⟩
theorem nopart {Q : Option Int → Hp → Prop} (k : Q none H) : tNoPart σ H Q := k
theorem part {te : TE} {Q : Option Int → Hp → Prop} (k : te σ H fun x H1 => ∃ i, x = .int i ∧ Q (some i) H1) : tPart te σ H Q := k
theorem part' {i : Int} {P : Int → Prop} (k : P i) : ∃ j, V.int i = V.int j ∧ P j := ⟨i, rfl, k⟩
theorem bm0 {T : String} {rr : V → List V → Hp → VK → Prop} {to : TE} (k : to σ H fun x H1 => tyV K T x H1 ∧ rr x [] H1 Q) : tBM0 K T rr to σ H Q := k
theorem pop {l : Addr} {xs : List V} {y : V} (h : H l = some (.lst xs)) (e : xs[xs.length - 1]? = some y) (k : Q y (upd H l (.lst xs.dropLast))) : rPop (.ref l) [] H Q := ⟨l, xs, y, rfl, rfl, h, e, k⟩
theorem catL {a b : Addr} {xs ys : List V} (ha : H a = some (.lst xs)) (hb : H b = some (.lst ys)) (hz : xs.length + ys.length ≤ 100000) (k : ∀ p, H p = none → Q (.ref p) (upd H p (.lst (xs ++ ys)))) : rCat (.ref a) (.ref b) H Q := ⟨a, b, xs, ys, rfl, rfl, ha, hb, small hz, k⟩
/-- a comprehension's turn whose heap changes -/
def LcF (D : Addr) (i : Nat) (Pv : Addr → Nat → List V → Hp → Prop) : VK := fun y H4 => ∃ acc, H4 D = some (.lst acc) ∧ acc.length < sizeLine ∧
  ∃ ac, ac.length = i + 1 ∧ upd H4 D (.lst (acc ++ [y])) D = some (.lst ac) ∧ Pv D (i + 1) ac (upd H4 D (.lst (acc ++ [y])))
theorem lcF {H4 : Hp} {D : Addr} {i : Nat} {Pv : Addr → Nat → List V → Hp → Prop} {acc : List V} {y : V} (h : H4 D = some (.lst acc)) (e : acc.length = i) (hi : i < 100000) (k : Pv D (i + 1) (acc ++ [y]) (upd H4 D (.lst (acc ++ [y])))) : LcF D i Pv y H4 :=
  ⟨acc, h, smallT (by omega), acc ++ [y], by simp [e], upd_same, k⟩
theorem lcR1F {m : Int} {j : Nat} (Pv : Addr → Nat → List V → Hp → Prop) (hb : -100000 ≤ m ∧ m ≤ 100000) (h0 : ∀ D, H D = none → Pv D 0 [] (upd H D (.lst [])))
    (hs : ∀ (i : Nat) (acc : List V) (D : Addr) (H' : Hp), H D = none → (i : Int) < m → acc.length = i → H' D = some (.lst acc) → Pv D i acc H' → te (σ.set j (some (.int (i : Int)))) H' (LcF D i Pv))
    (hd : ∀ D acc H', H D = none → H' D = some (.lst acc) → acc.length = m.toNat → Pv D m.toNat acc H' → Q (.ref D) H') :
    ∃ q : Int, [V.int m] = [V.int q] ∧ -(2 ^ 62) ≤ q ∧ q < 2 ^ 62 ∧ LcJ (gName j) tYes te [j] σ Q (Itr 0 q.toNat) H := by
  obtain ⟨hb1, hb2⟩ := hb
  have p62 : (2 : Int) ^ 62 = 4611686018427387904 := by decide
  refine ⟨m, rfl, by omega, by omega, fun D hD => ?_⟩
  refine itrLc (fun i H' => ∃ acc, acc.length = i ∧ H' D = some (.lst acc) ∧ Pv D i acc H') ⟨[], rfl, upd_same, h0 D hD⟩ ?_ ?_
  · rintro i H' hi ⟨acc, e, hD', p⟩
    have e0 : (0 : Int) + (i : Int) = (i : Int) := Int.zero_add _
    rw [e0]
    refine ⟨show wipe ((wipe σ [j]).set j (some (.int (i : Int)))) [j] = wipe σ [j] by simp [wipe], ?_⟩
    show te ((wipe σ [j]).set j (some (.int (i : Int)))) H' (LcF D i Pv)
    have ew : (wipe σ [j]).set j (some (.int (i : Int))) = σ.set j (some (.int (i : Int))) := by simp [wipe]
    rw [ew]
    exact hs i acc D H' hD (by omega) e hD' p
  · rintro H' ⟨acc, e, hD', p⟩
    exact hd D acc H' hD hD' e p
end
theorem cut_take {xs : List V} {m : Int} (h : 0 ≤ m) : cutV xs none (some m) = xs.take m.toNat := by
  unfold cutV
  obtain ⟨k, rfl⟩ : ∃ k : Nat, m = k := ⟨m.toNat, by omega⟩
  rw [HT.sIx_none, HT.sIx_nat, List.drop_zero, Nat.sub_zero, Int.toNat_natCast]
  by_cases h1 : k ≤ xs.length
  · rw [Nat.min_eq_left h1]
  · rw [Nat.min_eq_right (by omega), List.take_of_length_le (Nat.le_refl _), List.take_of_length_le (by omega)]
theorem atI_all {xs : List V} {p : V → Bool} {i : Int} (h : xs.all p = true) (h0 : 0 ≤ i) (h1 : i < (xs.length : Int)) : ∃ v, atI xs i = some v ∧ p v = true := by
  have h2 : i.toNat < xs.length := by omega
  exact ⟨xs[i.toNat], atI_of h0 (List.getElem?_eq_getElem h2), List.all_eq_true.mp h _ (List.getElem_mem h2)⟩
theorem ixLall {K : PySem.W.Frag} {H : Hp} {Q : VK} {l : Addr} {xs : List V} {i : Int} (p : V → Bool) (h : SqL K H l xs) (a : xs.all p = true) (h0 : 0 ≤ i) (h1 : i < (xs.length : Int)) (k : ∀ v, p v = true → Q v H) : rIxL K (.ref l) (.int i) H Q := by
  obtain ⟨v, e, q⟩ := atI_all a h0 h1
  exact ixL h e (k v q)
theorem ixSall {H : Hp} {Q : VK} {l : List Nat} {i : Int} (hl : l.length ≤ 100000) (h0 : 0 ≤ i) (h1 : i < (l.length : Int)) (k : ∀ c, c ∈ l → Q (.str (S [c])) H) : rIxS (.str (S l)) (.int i) H Q := by
  have h2 : i.toNat < l.length := by omega
  exact ixS hl (atI_of h0 (List.getElem?_eq_getElem h2)) (k _ (List.getElem_mem h2))
theorem dp_same {K : PySem.W.Frag} {H H' : Hp} (e : Same H H') : ∀ {x : V} {d : PyData}, Dp K H x d → Dp K H' x d
  | _, _, .non => .non
  | _, _, .bl b => .bl b
  | _, _, .int i => .int i
  | _, _, .str x => .str x
  | _, _, .lst h a => .lst (e.seq h) (go e a)
  | _, _, .tup h a => .tup (same_tup e h) (go e a)
where go {K : PySem.W.Frag} {H H' : Hp} (e : Same H H') : ∀ {xs : List V} {ds : List PyData}, DpAll K H xs ds → DpAll K H' xs ds
  | _, _, .nil => .nil
  | _, _, .cons h t => .cons (dp_same e h) (go e t)
theorem dpAll_len {K : PySem.W.Frag} {H : Hp} : ∀ {xs : List V} {ds : List PyData}, DpAll K H xs ds → xs.length = ds.length
  | _, _, .nil => rfl
  | _, _, .cons _ t => congrArg Nat.succ (dpAll_len t)
theorem dpAll_get {K : PySem.W.Frag} {H : Hp} : ∀ {xs : List V} {ds : List PyData}, DpAll K H xs ds → ∀ i, i < ds.length → ∃ x, xs[i]? = some x ∧ Dp K H x (ds.getD i .none)
  | _, _, .nil, i, h => absurd h (Nat.not_lt_zero i)
  | _, _, .cons h _, 0, _ => ⟨_, rfl, h⟩
  | _, _, .cons _ t, i + 1, hi => by
    obtain ⟨x, e, d⟩ := dpAll_get t i (Nat.lt_of_succ_lt_succ hi)
    exact ⟨x, e, d⟩
theorem depth_get : ∀ {ds : List PyData} {i : Nat}, i < ds.length → (ds.getD i .none).depth ≤ PyData.depthAll ds
  | [], i, h => absurd h (Nat.not_lt_zero i)
  | d :: ds, 0, _ => by simp only [PyData.depthAll]; exact Nat.le_max_left _ _
  | d :: ds, i + 1, h => by
    have := depth_get (ds := ds) (i := i) (Nat.lt_of_succ_lt_succ h)
    simp only [PyData.depthAll]
    exact Nat.le_trans this (Nat.le_max_right _ _)
theorem ixQL {K : PySem.W.Frag} {H : Hp} {Q : VK} {p : Addr} {xs : List V} {i : Int} {v : V} (h : SqL K H p xs) (a : atI xs i = some v) (k : Q v H) : rIx K (.ref p) (.int i) H Q := .inl (ixL h a k)
theorem ixQT {K : PySem.W.Frag} {H : Hp} {Q : VK} {p : Addr} {xs : List V} {i : Int} {v : V} (h : SqT K H p xs) (a : atI xs i = some v) (k : Q v H) : rIx K (.ref p) (.int i) H Q := .inr (.inl (ixT h a k))
theorem weight_get {ds : List PyData} {i : Nat} (h : i < ds.length) : (ds.getD i .none).weight ≤ PyData.weightAll ds := by
  refine PyData.weight_le_weightAll _ _ ?_
  rw [List.getD_eq_getElem?_getD, List.getElem?_eq_getElem h]
  exact List.getElem_mem h
theorem atI_last {α : Type} {xs : List α} {v : α} : atI (xs ++ [v]) (-1) = some v := by
  unfold atI ixN
  rw [if_neg (by decide), if_pos (by simp; omega)]
  show (xs ++ [v])[(-1 + ((xs ++ [v]).length : Int)).toNat]? = some v
  have : (-1 + ((xs ++ [v]).length : Int)).toNat = xs.length := by simp; omega
  rw [this]; simp
/-- two ways that come together: what holds where they meet -/
theorem join {σ : L2.St} {H : Hp} {t u : TS} {D : Ends} (J : L2.St → Hp → Prop) (h1 : ∀ N : L2.St → Hp → Prop, (∀ σ' H', J σ' H' → N σ' H') → t ⟨N, D.rt, D.bk, D.ct⟩ σ H) (h2 : ∀ σ' H', J σ' H' → u D σ' H') : tSeq t u D σ H := h1 _ h2
theorem ixLmem {K : PySem.W.Frag} {H : Hp} {Q : VK} {l : Addr} {xs : List V} {i : Int} (h : SqL K H l xs) (h0 : 0 ≤ i) (h1 : i < (xs.length : Int)) (k : ∀ v, v ∈ xs → Q v H) : rIxL K (.ref l) (.int i) H Q := by
  have h2 : i.toNat < xs.length := by omega
  exact ixL h (atI_of h0 (List.getElem?_eq_getElem h2)) (k _ (List.getElem_mem h2))
/-! ### a def that calls itself: nothing is asked with no call left -/
theorem none_left {P : Program} {w : World} {K : PySem.W.Frag} {mg : Str → Option Value} {base : Heap} {k : Nat} {f : Addr} {fd : FuncData} {ps : List Str} {sp : Sp} (no : ∀ vs H Q E, ¬ sp vs H Q E) : FnOk P w K mg base CX0 k f fd ps sp :=
  ⟨fun vs H Q E h => absurd h (no vs H Q E), fun A outer s H args us vs Q E _ _ _ _ h => absurd h (no vs H Q E)⟩
end Rd

set_option Elab.async false
set_option linter.all false
set_option maxRecDepth 100000
set_option maxHeartbeats 4000000
/-! Own operators of a class of one's own, by the text's defs. -/
namespace Bd
open PySem PySem.W PySem.Calls PyProof.Rows
section
variable {prog : Program} {w : World} {A : Around} {E : Value → Shared → Prop} {s : Shared} {K : Frag} {x y C L f : Addr} {h₀ : Heap} {m : Str → Option Value} {ox oy : Obj} {od od' : Option Obj}
/-- x op y, two instances of one class -/
theorem bin_one {op : Operator} {Q : Value → Shared → Prop} (F : Fr h₀ L s.heap m) (X₀ : K.In h₀) (I : InstAt s.heap x ox C od) (J : InstAt s.heap y oy C od') (hc : selfFirst K C = true)
    (hs : findIn K (.ref C) (PySem.dunder op.info.2) = some (some (.ref f))) (hf : isFn K (.ref f) = true)
    (h : wpAny (model prog w) A (call (.ref f) [.ref x, .ref y]) (PySem.W.CmpBack Q) E s) : wpAny (model prog w) A (binaryOp op (.ref x) (.ref y)) Q E s := by
  have X := X₀.keeps F.keep
  obtain ⟨cd, rest, hcd, hm⟩ := ksp_first hc
  rcases hi : op.info with ⟨sym, nm⟩
  rw [hi] at hs
  dsimp only at hs
  have one := ksp_try X I hs hf h
  obtain ⟨hh, g, d, tt, os⟩ := s
  have L1 : Looks (model prog w) hh (typeOf (.ref x)) (.ref C) := I.type
  have L2 : Looks (model prog w) hh (typeOf (.ref y)) (.ref C) := J.type
  have L3 : Looks (model prog w) hh (fillsNumberSlot (.ref C) nm) true := fills_K X hcd hm hs
  have heq : (Value.ref C == Value.ref C) = true := beq_self_eq_true _
  simp only [binaryOp, hi]
  refine wpAny_holding (wpAny_bind ?_)
  unfold binaryOp1
  refine wpAny_bind (L1.at (wpAny_bind (L2.at (wpAny_bind (L3.at ?_)))))
  simp only [heq, if_true]
  ksp_lk
  refine wpAny_mono one (fun r s' hr' => ?_) fun _ _ e => e
  obtain ⟨v, rfl, hq⟩ := hr'
  ksp_lk
  exact hq
end
end Bd
namespace Bd
open PySem PySem.Spec PyProof.Rows L2
theorem back_ep {X : Cx} {pins : List (Addr × Obj)} {σ : L2.St} {Q : VK} {u : Value} {s' : Shared} (h : EP X pins σ Q u s') : PySem.W.CmpBack (EP X pins σ Q) u s' := by
  cases u with
  | notImplemented =>
    obtain ⟨v, H', _, r, _⟩ := h
    cases v <;> first | (obtain ⟨_, r⟩ := r; exact nomatch r) | exact nomatch (show _ = _ from r)
  | _ => exact h
section
variable {X : Cx} {pins : List (Addr × Obj)} {σ : L2.St} {H : Hp} {s : Shared} {CT : CXT} {n : Nat} {C f : Addr} {fd : FuncData} {ps : List Str} {sp : Sp} {E : XK}
/-- a call of a def of one's own, by its value -/
theorem call_def {vs : List V} {us : List Value} {Q : VK} (F : FnOk X.prog X.w X.K X.mg X.base CT n f fd ps sp) (hb : Binds X.K fd ps []) (hx : Passes CT X E) (hr : Room n X.A) (I : Inv X pins σ H s) (r : Vals vs us) (hsp : sp vs H Q E) :
    wpAny (model X.prog X.w) X.A (call (.ref f) us) (EP X pins σ Q) X.xe s := by
  have hl := F.len _ _ _ _ hsp
  have hu : us.length = ps.length := by rw [← r.length]; exact hl
  refine wpAny_call (codeAny_mono (F.run X.A X.stack s H ⟨us, []⟩ us vs Q E hr I.env0 (by
    have := hb s us I.kIn (by simpa using hu)
    simpa using this) r hsp) fun z s' hq => ?_)
  cases z with
  | error e => exact hx pins σ H s e s' I hq
  | ok fl =>
    cases fl with
    | ret w => exact I.after hq
    | next => exact False.elim hq
    | brk => exact False.elim hq
    | cont => exact False.elim hq
/-- x op y, both of the class at C -/
def rOwn2 (C : Addr) (sp : Sp) (E : XK) : R2 := fun x y H Q => ∃ a b dx dy fs gs, x = .ref a ∧ y = .ref b ∧ H a = some (.ins C dx fs) ∧ H b = some (.ins C dy gs) ∧ sp [.ref a, .ref b] H Q E
theorem op_own {op : Operator} (F : FnOk X.prog X.w X.K X.mg X.base CT n f fd ps sp) (hc : PySem.W.selfFirst X.K C = true) (hs : PySem.W.findIn X.K (.ref C) (PySem.dunder op.info.2) = some (some (.ref f))) (hf : PySem.W.isFn X.K (.ref f) = true)
    (hb : Binds X.K fd ps []) (hx : Passes CT X E) (hr : Room n X.A) : OpR X (binaryOp op) (rOwn2 C sp E) := by
  intro pins s σ H x y v u Q I rx ry h
  obtain ⟨a, b, dx, dy, fs, gs, rfl, rfl, ha, hb', hsp⟩ := h
  obtain rfl : v = Value.ref a := rx
  obtain rfl : u = Value.ref b := ry
  obtain ⟨mA, J, _⟩ := ins_get I.hok ha
  obtain ⟨mB, J', _⟩ := ins_get I.hok hb'
  obtain ⟨od, J, _⟩ := J.look
  obtain ⟨od', J', _⟩ := J'.look
  obtain ⟨m, hF⟩ := I.fr
  refine bin_one hF I.ok.mod.kin J J' hc hs hf ?_
  exact wpAny_mono (call_def F hb hx hr I (vs := [.ref a, .ref b]) (.cons rfl (.cons rfl .nil)) hsp) (fun _ _ h => back_ep h) fun _ _ e => e
/-- -x -/
def rOwn1 (C : Addr) (sp : Sp) (E : XK) : V → Hp → VK → Prop := fun x H Q => ∃ a dx fs, x = .ref a ∧ H a = some (.ins C dx fs) ∧ sp [.ref a] H Q E
theorem un_own (F : FnOk X.prog X.w X.K X.mg X.base CT n f fd ps sp) (hs : PySem.W.findIn X.K (.ref C) "__neg__" = some (some (.ref f))) (hf : PySem.W.isFn X.K (.ref f) = true)
    (hb : Binds X.K fd ps []) (hx : Passes CT X E) (hr : Room n X.A) : UnR X (unaryOp .USub) (rOwn1 C sp E) := by
  intro pins s σ H x v Q I rx h
  obtain ⟨a, dx, fs, rfl, ha, hsp⟩ := h
  obtain rfl : v = Value.ref a := rx
  obtain ⟨mA, J, _⟩ := ins_get I.hok ha
  obtain ⟨od, J, _⟩ := J.look
  obtain ⟨m, hF⟩ := I.fr
  exact PySem.W.ksp_neg hF I.ok.mod.kin J hs hf (call_def F hb hx hr I (vs := [.ref a]) (.cons rfl .nil) hsp)
/-- x == y, both of the class at C, whatever __eq__ says -/
theorem op_eqOwn (F : FnOk X.prog X.w X.K X.mg X.base CT n f fd ps sp) (hs : PySem.W.findIn X.K (.ref C) "__eq__" = some (some (.ref f))) (hf : PySem.W.isFn X.K (.ref f) = true)
    (hb : Binds X.K fd ps []) (hx : Passes CT X E) (hr : Room n X.A) : OpR X (compareOp .Eq) (rOwn2 C sp E) := by
  intro pins s σ H x y v u Q I rx ry h
  obtain ⟨a, b, dx, dy, fs, gs, rfl, rfl, ha, hb', hsp⟩ := h
  obtain rfl : v = Value.ref a := rx
  obtain rfl : u = Value.ref b := ry
  obtain ⟨mA, J, _⟩ := ins_get I.hok ha
  obtain ⟨mB, J', _⟩ := ins_get I.hok hb'
  obtain ⟨od, J, _⟩ := J.look
  obtain ⟨od', J', _⟩ := J'.look
  obtain ⟨m, hF⟩ := I.fr
  show wpAny (model X.prog X.w) X.A (richCompare .Eq (.ref a) (.ref b)) _ _ _
  refine PySem.W.cmp_K (op := .Eq) (tb := .ref C) hr.units0 hF I.ok.mod.kin J J'.type (by simp [PySem.W.notFirst]) hs hf ?_
  exact wpAny_mono (call_def F hb hx hr I (vs := [.ref a, .ref b]) (.cons rfl (.cons rfl .nil)) hsp) (fun _ _ h => back_ep h) fun _ _ e => e
end
end Bd
namespace Bd
open PySem PySem.W PySem.Calls PyProof.Rows
/-- by the text, then by the number -/
def ltSI (p q : Str × Int) : Bool := if p.1 = q.1 then decide (p.2 < q.2) else decide (p.1.cps.toList < q.1.cps.toList)
theorem str_ext {x y : Str} (h : x.cps.toList = y.cps.toList) : x = y := by rw [Rd.S_of x, Rd.S_of y, h]
theorem ltSI_iff {p q : Str × Int} : ltSI p q = true ↔ p.1.cps.toList < q.1.cps.toList ∨ (p.1 = q.1 ∧ p.2 < q.2) := by
  unfold ltSI
  by_cases e : p.1 = q.1
  · rw [if_pos e, e]
    exact ⟨fun h => .inr ⟨rfl, of_decide_eq_true h⟩, fun h => h.elim (fun z => absurd z (List.lt_irrefl _)) fun z => decide_eq_true z.2⟩
  · rw [if_neg e]
    exact ⟨fun h => .inl (of_decide_eq_true h), fun h => h.elim decide_eq_true fun z => absurd z.1 e⟩
theorem ltSI_no {p q : Str × Int} : ltSI p q = false ↔ ¬ (p.1.cps.toList < q.1.cps.toList ∨ (p.1 = q.1 ∧ p.2 < q.2)) := by
  rw [← ltSI_iff]; simp
theorem swo_SI {α : Type} (k : α → Str × Int) : SrtO.Swo fun v u => ltSI (k v) (k u) := by
  refine ⟨fun x y h => ?_, fun x y z h1 h2 => ?_⟩
  · have a := ltSI_iff.mp h
    refine ltSI_no.mpr fun b => ?_
    rcases a with a | a
    · rcases b with b | b
      · exact List.lt_asymm a b
      · rw [b.1] at a; exact List.lt_irrefl _ a
    · rcases b with b | b
      · rw [a.1] at b; exact List.lt_irrefl _ b
      · omega
  · have a := ltSI_no.mp h1
    have b := ltSI_no.mp h2
    refine ltSI_no.mpr fun c => ?_
    rcases c with c | ⟨c1, c2⟩
    · have d : (k x).1.cps.toList ≤ (k y).1.cps.toList := List.not_lt.mp fun z => a (.inl z)
      have d2 : (k y).1.cps.toList ≤ (k z).1.cps.toList := List.not_lt.mp fun q => b (.inl q)
      exact List.not_lt.mpr (List.le_trans d d2) c
    · have d1 : (k x).1.cps.toList ≤ (k y).1.cps.toList := List.not_lt.mp fun z => a (.inl z)
      have d2 : (k y).1.cps.toList ≤ (k z).1.cps.toList := List.not_lt.mp fun z => b (.inl z)
      rw [c1] at d2
      have e : (k x).1 = (k y).1 := str_ext (List.le_antisymm d1 d2)
      refine a (.inr ⟨e.symm, ?_⟩)
      have e2 : ¬ (k z).2 < (k y).2 := fun z => b (.inr ⟨c1.trans e, z⟩)
      omega
/-- a pair of a text and a number -/
def IsSI (h : Heap) (v : Value) (p : Str × Int) : Prop := ∃ a o t u n, v = .ref a ∧ h.get? a = some o ∧ o.cls = .type "tuple" ∧ o.data = .seq #[.str p.1 t, .int p.2 u] n
theorem IsSI.keeps {h h' : Heap} {v : Value} {p : Str × Int} (x : IsSI h v p) (k : ∀ b o, h.get? b = some o → o.cls = .type "tuple" → h'.get? b = some o) : IsSI h' v p := by
  obtain ⟨a, o, t, u, n, e, ho, hc, hd⟩ := x
  exact ⟨a, o, t, u, n, e, k _ _ ho hc, hc, hd⟩
section
variable {prog : Program} {w : World} {A : Around} {s : Shared}
theorem si_cmp {vs : List Value} {k : Value → Str × Int} (hp : ∀ v ∈ vs, IsSI s.heap v (k v)) : SrtO.Cmp prog w A s (tuples' true) (fun p => p.1 ∈ vs) (SrtO.lt2 fun v u => ltSI (k v) (k u)) := by
  intro p q hm hm'
  have h1 := hp _ hm
  have h2 := hp _ hm'
  show wpAny (model prog w) A (keyLt' (tuples' true) p.1 q.1) (fun r s' => s' = s ∧ r = ltSI (k p.1) (k q.1)) (fun _ _ => False) s
  generalize k p.1 = x at h1 ⊢
  generalize k q.1 = y at h2 ⊢
  obtain ⟨a, o, t, u, n, e, ho, hc, hd⟩ := h1
  obtain ⟨a', o', t', u', n', e', ho', hc', hd'⟩ := h2
  rw [e, e']
  refine PySem.W.kat_lt ho hd ho' hd' ?_
  show PySem.W.KatLex prog w A true (decide (2 < 2)) _ [(.str x.1 t, .str y.1 t'), (.int x.2 u, .int y.2 u')] 0 s
  refine PySem.W.kat_cons (SeqAt.EqAt.str_str x.1 t y.1 t' prog w _ _ ?_)
  refine PySem.W.kat_go (fun e1 => ?_) (fun e1 => ?_)
  · have ex : x.1 = y.1 := by simpa using e1
    refine PySem.W.kat_yes (PySem.W.kat_cons (SeqAt.EqAt.int_int x.2 u y.2 u' prog w _ _ ?_))
    refine PySem.W.kat_go (fun e2 => ?_) (fun e2 => ?_)
    · have ey : x.2 = y.2 := by simpa using e2
      refine PySem.W.kat_yes (PySem.W.kat_nil ⟨rfl, ?_⟩)
      unfold ltSI
      rw [if_pos ex, ey]
      exact (decide_eq_false (Int.lt_irrefl _)).symm
    · refine PySem.W.kat_no (PySem.W.kat_one _ _ (PyProof.Rows.lt_int ?_))
      refine ⟨rfl, ?_⟩
      unfold ltSI
      rw [if_pos ex]
  · have ex : ¬ x.1 = y.1 := by simpa using e1
    refine PySem.W.kat_no (oneLt_str ⟨rfl, ?_⟩)
    unfold ltSI
    rw [if_neg ex]
theorem si_firsts {h : Heap} {k : Value → Str × Int} : ∀ {vs : List Value}, (∀ v ∈ vs, IsSI h v (k v)) → ∃ fs : List Value, PySem.W.KatTups h vs fs ∧ fs.length = vs.length ∧ ∀ f ∈ fs, ∃ x t, f = Value.str x t
  | [], _ => ⟨[], PySem.W.KatTups.nil, rfl, fun _ hm => by simp at hm⟩
  | v :: vs, hp => by
    obtain ⟨fs, h1, h2, h3⟩ := si_firsts (vs := vs) fun v' hm => hp v' (List.mem_cons_of_mem _ hm)
    obtain ⟨a, o, t, u, n, e, ho, hc, hd⟩ := hp v (List.mem_cons_self ..)
    subst e
    refine ⟨.str _ t :: fs, PySem.W.KatTups.cons ho hc hd rfl h1, by rw [List.length_cons, List.length_cons, h2], fun f hm => ?_⟩
    rcases List.mem_cons.mp hm with rfl | hm
    · exact ⟨_, _, rfl⟩
    · exact h3 f hm
theorem si_sortable {a : Addr} {vs : List Value} {k : Value → Str × Int} (h0 : 0 < vs.length) (hp : ∀ v ∈ vs, IsSI s.heap v (k v)) (ha : ∀ o, s.heap.get? a = some o → o.cls ≠ .type "tuple") :
    SrtO.SortableO prog w A s a vs fun v u => ltSI (k v) (k u) := by
  intro h' keep
  have hp' : ∀ v ∈ vs, IsSI h' v (k v) := fun v hm => (hp v hm).keeps fun b o e c => keep b o (fun z => by subst z; exact ha o e c) e
  obtain ⟨fs, h1, h2, h3⟩ := si_firsts hp'
  refine ⟨tuples' true, fun Q E hq => ?_, si_cmp hp'⟩
  refine PySem.W.kat_kind (T := .type "str") h1 (by omega) (fun f hm => ?_) (by rfl) ?_
  · obtain ⟨x, t, rfl⟩ := h3 f hm
    exact PySem.W.Looks.now
  · have e : (Value.type "str" != Value.type "tuple") = true := by first | decide +kernel | rfl | decide
    rw [e]
    exact hq
end
end Bd
namespace Bd
open PySem PySem.Spec PyProof.Rows L2
/-- the pair that a value stands for, read off the heap -/
def siOf (h : Heap) (v : Value) : Str × Int := match v with
  | .ref b => (match h.get? b with
    | some o => (match o.data with
      | .seq xs _ => (match xs.toList with
        | [.str x _, .int y _] => (x, y)
        | _ => (⟨#[]⟩, 0))
      | _ => (⟨#[]⟩, 0))
    | none => (⟨#[]⟩, 0))
  | _ => (⟨#[]⟩, 0)
theorem IsSI.of {h : Heap} {v : Value} {p : Str × Int} (x : IsSI h v p) : siOf h v = p := by
  obtain ⟨a, o, t, u, n, rfl, ho, hc, hd⟩ := x
  unfold siOf
  simp only [ho, hd]
/-- an asset as a dict's key -/
def eK (p : Str × Int) : List Key := [Sum.inr p.1, Sum.inl p.2]
/-- addresses of assets' tuples -/
def AsAt (H : Hp) (ps : List (Addr × (Str × Int))) : Prop := ∀ z ∈ ps, H z.1 = some (.tup [.str z.2.1, .int z.2.2])
theorem isSI_of {P : Program} {w : World} {H : Hp} {h : Heap} {b : Addr} {p : Str × Int} (ok : HOk P w H h) (e : H b = some (.tup [.str p.1, .int p.2])) : IsSI h (.ref b) p := by
  obtain ⟨_, its, r, o, ho, hc, n, hd⟩ := ok _ _ e
  obtain ⟨u1, u2, rfl, ri, rj⟩ := vals2 r
  obtain ⟨t1, rfl⟩ := ri
  obtain ⟨t2, rfl⟩ := rj
  exact ⟨b, o, t1, t2, n, rfl, ho, hc, hd⟩
theorem kt_as {H : Hp} : ∀ {m : List ((Str × Int) × V)} {ks : List (List Key × Addr × Value)}, KT H (m.map fun e => (eK e.1, e.2)) ks → ∃ ps : List (Addr × (Str × Int)), AsAt H ps ∧ ps.map (·.2) = m.map (·.1) ∧ ps.map (·.1) = ks.map fun x => x.2.1
  | [], _, r => by
    rw [List.map_nil] at r
    cases r
    exact ⟨[], fun _ h => absurd h List.not_mem_nil, rfl, rfl⟩
  | e :: m, _, r => by
    rw [List.map_cons] at r
    cases r with
    | @cons p q ps qs h t =>
      obtain ⟨ps', a1, a2, a3⟩ := kt_as t
      refine ⟨(q.2.1, e.1) :: ps', fun z hz => ?_, by rw [List.map_cons, List.map_cons, a2], by rw [List.map_cons, List.map_cons, a3]⟩
      rcases List.mem_cons.mp hz with rfl | hz
      · exact h.2.1
      · exact a1 z hz
section
variable {X : Cx}
/-- sorted(d), the keys of d pairs of a text and a number -/
def rSortedDT : List V → Hp → VK → Prop := fun xs H Q => ∃ (a : Addr) (m : List ((Str × Int) × V)), xs = [.ref a] ∧ Rd H a (.dT (m.map fun e => (eK e.1, e.2))) ∧
  ∀ (ps : List (Addr × (Str × Int))) (p : Addr), AsAt H ps → SrtO.Srtd ltSI (ps.map (·.2)) → (ps.map (·.2)).Perm (m.map (·.1)) → H p = none → Q (.ref p) (upd H p (.lst (ps.map fun z => V.ref z.1)))
theorem cr_sortedDT (hcalm : X.calm = true) : CallR X (.builtin "sorted") rSortedDT := by
  intro pins s σ H xs us Q I r q
  obtain ⟨a, m, rfl, hd, q⟩ := q
  obtain ⟨u, rfl, rx⟩ := vals1 r
  cases rx
  obtain ⟨z, hs, ks, pr, o, es, ep, ho, hx, hdt, he, hn⟩ := (show ObjOk X.prog X.w H s.heap a (.dT _) from hd.ok I.hok)
  have l1 : es.size = ks.length := size_of_entries he
  have l2 : (m.map fun e => (eK e.1, e.2)).length = ks.length := Paired.length pr
  have l3 : m.length = ks.length := by simpa using l2
  refine Calls.call_function_entry PyProof.Rows.kind_sorted PyProof.Rows.plain_sorted PyProof.Rows.entry_sorted (PyProof.Rows.args_sorted1 _) ?_
  unfold Builtin.«sorted»
  refine wpAny_bind (m := checkCount "sorted" 1 1 _) (wpAny_pure ?_)
  refine wpAny_bind (PySem.W.kdu_collect (A := X.A.in1) (kdl_raw hs hx hdt) (I.ok.hd hcalm) ho (by omega) fun h' tk acc hk it => ?_)
  have ea : acc.toList = (ks.map fun x => x.2.1).map Value.ref := by
    have hl : acc.toList.length = ks.length := by rw [Array.length_toList, it.1]; exact l1
    apply List.ext_getElem?
    intro j
    rw [List.map_map, List.getElem?_map]
    cases hj : acc.toList[j]? with
    | none =>
      have h1 := List.getElem?_eq_none_iff.mp hj
      rw [List.getElem?_eq_none (by omega)]
      rfl
    | some v =>
      obtain ⟨en, hen, hv⟩ := it.2 j v (by rw [← Array.getElem?_toList]; exact hj)
      have qe := entry_at he j
      rw [hen] at qe
      cases hb : ks[j]? with
      | none =>
        rw [hb] at qe
        exact nomatch (show some en = none from qe)
      | some b =>
        rw [hb] at qe
        have e2 : en = entryOfKey (tupleKind (mixKind X.prog X.w)) b := Option.some.inj qe
        rw [hv, e2]
        rfl
  have I1 : Inv X pins σ H { s with heap := h', toks := tk } := I.kept hk
  obtain ⟨ps0, a1, a2, a3⟩ := kt_as pr
  have eb : acc.toList = ps0.map fun z => Value.ref z.1 := by rw [ea, ← a3, List.map_map]; rfl
  have hal : acc.toList.length ≤ sizeLine := by
    rw [Array.length_toList, it.1]; omega
  refine wpAny_bind (wpAny_newList ?_ hal)
  have hoL : (h'.push (seqObj "list" acc.toList.toArray 0)).get? h'.objs.size = some (seqObj "list" acc.toList.toArray 0) := Heap.get?_push_size _ rfl
  have hsi : ∀ v ∈ acc.toList, IsSI (h'.push (seqObj "list" acc.toList.toArray 0)) v (siOf s.heap v) := fun v hv => by
    rw [eb] at hv
    obtain ⟨zz, hz, rfl⟩ := List.mem_map.mp hv
    have q := isSI_of I.hok (a1 zz hz)
    rw [q.of]
    exact (isSI_of I1.hok (a1 zz hz)).keeps fun b ob e _ => Heap.get?_push_of_some _ e
  show wpAny _ _ _ _ _ { s with heap := h'.push (seqObj "list" acc.toList.toArray 0), toks := tk }
  refine wpAny_bind (wpAny_holding (wpAny_call_entry PyProof.Rows.slot_list_sort ⟨_, hoL, rfl⟩ PyProof.Rows.entry_list_sort
    (SrtO.list_sort_ord (ltv := fun v u => ltSI (siOf s.heap v) (siOf s.heap u)) (s := { s with heap := h'.push (seqObj "list" acc.toList.toArray 0), toks := tk }) (swo_SI (siOf s.heap)) hoL hal (fun h2 => si_sortable (by omega) hsi fun ob e => by
      have e' := e.symm.trans hoL
      cases e'
      intro c
      exact absurd (Value.type.inj c) (by decide)) fun out h1 h2 => ⟨_, rfl, ?_⟩)
    (PyProof.Rows.args_list_sort _)))
  obtain ⟨ps, b1, b2⟩ := perm_lift (fun z : Addr × (Str × Int) => Value.ref z.1) h2.perm ps0 eb.symm
  have hAs : AsAt H ps := fun z hz => a1 z (b1.mem_iff.mp hz)
  have hk2 : ∀ z ∈ ps, siOf s.heap (Value.ref z.1) = z.2 := fun z hz => (isSI_of I.hok (hAs z hz)).of
  have hsr : SrtO.Srtd ltSI (ps.map (·.2)) := by
    rw [← b2] at h1
    have h1' := List.pairwise_map.mp h1
    refine List.pairwise_map.mpr (h1'.imp_of_mem fun {x y} hx hy hh => ?_)
    have hh' : ltSI (siOf s.heap (Value.ref y.1)) (siOf s.heap (Value.ref x.1)) = false := hh
    rw [hk2 x hx, hk2 y hy] at hh'
    exact hh'
  obtain ⟨e', he'⟩ := PyProof.Rows.sortedHeap_at (vs := acc.toList) (out := out.toArray) hoL
  have hlen : (ps.map fun z => V.ref z.1).length ≤ sizeLine := by
    rw [List.length_map, b1.length_eq]
    have : ps0.length = acc.toList.length := by rw [eb, List.length_map]
    omega
  refine wpAny_pure ⟨_, rfl, .ref h'.objs.size, upd H h'.objs.size (.lst (ps.map fun z => V.ref z.1)), I1.laid (t' := tk) (fun b u e => ?_) (Nat.le_refl _)
    (show ObjOk X.prog X.w _ _ _ (.lst _) from ⟨hlen, out, e', ?_, he'⟩), rfl, q ps _ hAs hsr ((b1.map _).trans (by rw [a2])) (I1.hok.fresh (Nat.le_refl _))⟩
  · have hb : b < h'.objs.size := Heap.lt_size e
    rw [PyProof.Rows.sortedHeap_old (Nat.ne_of_lt hb) (by rw [size_push']; exact Nat.lt_succ_of_lt hb)]
    exact Heap.get?_push_of_some _ e
  · rw [← b2]
    have := vals_refs (ps.map (·.1))
    rw [List.map_map, List.map_map] at this
    exact this
end
end Bd
namespace Bd
open PySem PySem.Spec PyProof.Rows
section
variable {prog : Program} {w : World} {A : Around} {E : Value → Shared → Prop} {s : Shared} {r d : Addr} {es : Array DictEntry} {ep : Nat}
theorem code_tuple_items {Q₁ : Value → Shared → Prop} (hh : A.handled = none) (hv : s.heap.IsItemsView r d) (hm : DT.Raw s.heap d es ep) (hn : es.size ≤ sizeLine)
    (h : ∀ (h' : Heap) (tk : Nat) (as : List Addr), (∀ b o, s.heap.get? b = some o → h'.get? b = some o) → s.heap.objs.size < h'.objs.size → as.length = es.size → DT.Made es s.heap.objs.size h' as →
      Q₁ (.ref h'.objs.size) { s with heap := h'.push { cls := .type "tuple", data := .seq (as.map Value.ref).toArray }, toks := tk }) :
    codeAny (model prog w) A (.call (.builtin "tuple.__new__") ⟨[.type "tuple", .ref r], []⟩) (wants Q₁ E) s := by
  refine codeAny_of_tree ?_
  show wpAny _ A.in1 (do checkBuiltinCall "tuple.__new__" ⟨[.type "tuple", .ref r], []⟩; again (.builtin "tuple.__new__" ⟨[.type "tuple", .ref r], []⟩)) _ _ s
  refine wpAny_bind (wpAny_of_eq (F.newCall_tuple_1 _) (wpAny_pure ⟨plainId_quiet F.plain_tuple_new _, codeAny_builtin F.entry_tuple_new ?_⟩))
  rw [Around.under_plainId F.plain_tuple_new _]
  have hsub := sub_tuple_self
  have hinit := init_tuple_lookup
  have hmh := madeHere_tuple
  have hTI : s.TypeIs (.ref r) "dict_items" := by
    obtain ⟨o, ho, hc, _⟩ := hv
    exact ⟨o, ho, hc⟩
  wp_walk using wpAny_typeOf hTI, DT.collectI (A := A.in1) (show A.in1.handled = none from hh) hv hm hn
  intro h' tk as hk hlt hl hG
  show wpAny _ _ (Builtin.Tuple.tupleExact (as.map Value.ref).toArray >>= fun v => ret v) _ _ _
  unfold Builtin.Tuple.tupleExact
  refine wpAny_bind (wpAny_newObj_type ?_ (by show (as.map Value.ref).toArray.size ≤ sizeLine; simp only [List.size_toArray, List.length_map]; omega))
  exact wpAny_pure (h h' tk as hk hlt hl hG)
theorem call_tuple_items {Q : Value → Shared → Prop} (hh : A.handled = none) (hv : s.heap.IsItemsView r d) (hm : DT.Raw s.heap d es ep) (hn : es.size ≤ sizeLine)
    (h : ∀ (h' : Heap) (tk : Nat) (as : List Addr), (∀ b o, s.heap.get? b = some o → h'.get? b = some o) → s.heap.objs.size < h'.objs.size → as.length = es.size → DT.Made es s.heap.objs.size h' as →
      Q (.ref h'.objs.size) { s with heap := h'.push { cls := .type "tuple", data := .seq (as.map Value.ref).toArray }, toks := tk }) :
    wpAny (model prog w) A (call (.type "tuple") [.ref r]) Q E s := by
  refine callType_codes (Q₁ := fun obj s₁ => s₁.TypeIs obj "tuple" ∧ Q obj s₁) F.called_tuple (F.typeCall_tuple_1 _) F.entry_object_init
    (code_tuple_items (A := A.in1) hh hv hm hn fun h' tk as hk hlt hl hG => ⟨⟨_, Heap.get?_push_size _ rfl, rfl⟩, h h' tk as hk hlt hl hG⟩) fun obj s₁ h₁ => ?_
  exact ⟨h₁.1, F.args_object_init_2 obj _, object_init_meets F.called_tuple.init.lookup F.called_tuple.made (by decide) prog w A.in1 _ s₁ ⟨h₁.1, rfl, h₁.2⟩⟩
end
end Bd
namespace Bd
open PySem PySem.Spec PyProof.Rows L2 L2.DX
section
variable {X : Cx}
/-- tuple(d.items()): a row of pairs (asset, value) -/
def rTupIt : List V → Hp → VK → Prop := fun vs H Q => ∃ (p a : Addr) (m : List ((Str × Int) × V)), vs = [.ref p] ∧ H p = some (itemsO p a) ∧ H a = some (.dT (m.map fun e => (eK e.1, e.2))) ∧
  ∀ (H' : Hp) (q : Addr) (zs : List (Addr × ((Str × Int) × V))), (∀ b o, H b = some o → H' b = some o) → H q = none → zs.map (·.2) = m → H' q = some (.tup (zs.map fun z => V.ref z.1)) →
    (∀ z ∈ zs, ∃ kq, H' z.1 = some (.tup [.ref kq, z.2.2]) ∧ H' kq = some (.tup [.str z.2.1.1, .int z.2.1.2])) → Q (.ref q) H'
theorem cr_tupIt (hc : X.calm = true) : CallR X (.type "tuple") rTupIt := by
  intro pins s σ H xs us Q I r h
  obtain ⟨p, a, m, rfl, hp, ha, q⟩ := h
  obtain ⟨u, rfl, ru⟩ := vals1 r
  obtain rfl : u = Value.ref p := ru
  have view : s.heap.IsItemsView p a := (show ObjOk X.prog X.w H s.heap p (itemsO p a) from I.hok p _ hp).1
  obtain ⟨z, hd, xs', rel, o, es, ep, ho, hx, hdat, hes, his, hn⟩ := dt_of I.hok ha
  have l1 : (m.map fun e => (eK e.1, e.2)).length = xs'.length := Paired.length rel
  rw [List.length_map] at l1 z
  have l2 : es.size = xs'.length := size_of_entries hes
  refine call_tuple_items (es := es) (ep := ep) (I.ok.hd hc) view ⟨o, ho, hx, hdat⟩ (by omega) fun h' tk as hk hlt hl hG => ?_
  have lam : as.length = m.length := by omega
  have nd : as.Nodup := List.Pairwise.imp (fun h => Nat.ne_of_lt h) hG.rise
  have hN : s.heap.objs.size < h'.objs.size := hlt
  generalize hh : h'.push { cls := .type "tuple", data := .seq (as.map Value.ref).toArray } = h2
  have ka : ∀ b o, h'.get? b = some o → h2.get? b = some o := fun b o e => by rw [← hh]; exact Heap.get?_push_of_some _ e
  have hob : h2.get? h'.objs.size = some { cls := .type "tuple", data := .seq (as.map Value.ref).toArray } := by rw [← hh]; exact Heap.get?_push_size _ rfl
  have I1 : Inv X pins σ H { s with heap := h2, toks := tk } := I.kept (t' := tk) fun b o e => ka _ _ (hk b o e)
  have hn0 : H h'.objs.size = none := I.hok.fresh (Nat.le_of_lt hN)
  have I2 : Inv X pins σ (upd H h'.objs.size (.tup (as.map V.ref))) { s with heap := h2, toks := tk } :=
    I1.take (h' := h2) (t' := tk) (fun b ob _ e => e) (I.fpOk (Nat.le_of_lt hN) hn0) ⟨by rw [List.length_map]; omega, as.map Value.ref, vals_refs as, ⟨_, hob, rfl, 0, rfl⟩⟩
  obtain ⟨H2, I3, g, qt⟩ := takeT (P := fun b vs => ∃ (j : Nat) (e : (Str × Int) × V) (kq : Addr), as[j]? = some b ∧ m[j]? = some e ∧ vs = [.ref kq, e.2] ∧ H kq = some (.tup [.str e.1.1, .int e.1.2])) I as _ I2 nd fun b hb => by
    obtain ⟨j, hj⟩ := List.mem_iff_getElem?.mp hb
    obtain ⟨en, he, hg⟩ := hG.pairs j b hj
    rw [entry_at hes j] at he
    cases hxj : xs'[j]? with
    | none =>
      rw [hxj] at he
      exact nomatch (show (none : Option DictEntry) = some en from he)
    | some x =>
      rw [hxj] at he
      have een : entryOfKey (tupleKind (mixKind X.prog X.w)) x = en := Option.some.inj he
      obtain ⟨e0, he0, r1, r2, r3⟩ := pget rel hxj
      rw [List.getElem?_map] at he0
      cases hkj : m[j]? with
      | none =>
        rw [hkj] at he0
        exact nomatch (show (none : Option (List L2.Key × V)) = some e0 from he0)
      | some e =>
        rw [hkj] at he0
        have ee : (eK e.1, e.2) = e0 := Option.some.inj he0
        rw [← ee] at r2 r3
        have hbl : s.heap.objs.size ≤ b := Nat.le_of_lt (hG.above b hb)
        have hbn : b ≠ h'.objs.size := Nat.ne_of_lt (Heap.lt_size hg)
        refine ⟨hbl, by rw [upd_ne hbn]; exact I.hok.fresh hbl, [.ref x.2.1, e.2], ⟨j, e, x.2.1, hj, hkj, rfl, r2⟩, fun H3 => ⟨by rw [sizeLine_eq]; show 2 ≤ 16777216; omega, [Value.ref x.2.1, x.2.2], .cons rfl (.cons r3 .nil), ⟨_, ka _ _ hg, rfl, 0, ?_⟩⟩⟩
        rw [← een]
        rfl
  have gr : ∀ b o, H b = some o → H2 b = some o := fun b o e => g b o (by rw [upd_ne (ne_of_none e hn0)]; exact e)
  refine ⟨.ref h'.objs.size, H2, I3, rfl, q H2 h'.objs.size (as.zip m) gr hn0 (List.map_snd_zip (by omega)) ?_ fun z' hz' => ?_⟩
  · have e1 : ((as.zip m).map fun z => V.ref z.1) = as.map V.ref := by
      have := List.map_fst_zip (l₁ := as) (l₂ := m) (by omega)
      conv => rhs; rw [← this]
      rw [List.map_map]; rfl
    rw [e1]
    exact g _ _ upd_same
  · obtain ⟨i, hi⟩ := List.mem_iff_getElem?.mp hz'
    obtain ⟨i1, i2⟩ := List.getElem?_zip_eq_some.mp hi
    obtain ⟨vs, ⟨j, e, kq, j1, j2, ev, hkq⟩, hH⟩ := qt z'.1 (List.mem_of_getElem? i1)
    have eij : i = j := (List.getElem?_inj (List.getElem?_eq_some_iff.mp i1).1 nd).mp (i1.trans j1.symm)
    subst eij
    have ee : e = z'.2 := Option.some.inj (j2.symm.trans i2)
    rw [ev, ee] at hH
    rw [ee] at hkq
    exact ⟨kq, hH, gr _ _ hkq⟩
end
end Bd
namespace Bd
open PySem PySem.Spec PyProof.Rows L2
section
/-- d[k] = v by a comprehension, keys tuples -/
theorem put_tup {X : Cx} {pins : List (Addr × Obj)} {σ : L2.St} {H : Hp} {s : Shared} {E : Value → Shared → Prop} {D b : Addr} {kvs : List (List Key × V)} {k : List Key} {v : V} {u r : Value} {Q : Unit → Shared → Prop} (hu : X.A.units + 1 < cLine) (I : Inv X pins σ H s)
    (hD : H D = some (.dT kvs)) (hb : H b = some (.tup (k.map kV))) (hz : kvs.length < sizeLine) (ru : u = Value.ref b) (rv : RelV v r) (h : ∀ s', Inv X pins σ (upd H D (.dT (putK kvs k v))) s' → Q () s') :
    wpAny (model X.prog X.w) X.A (dictSet D u r) Q E s := by
  subst ru
  obtain ⟨z, hd, xs, rel, dd⟩ := dt_of I.hok hD
  have hl : (putK kvs k v).length ≤ sizeLine := by have := length_putK kvs k v; omega
  refine wpAny_dictSet_heap (hsz := by rw [← Paired.length rel]; exact z) (show (tupleKind (mixKind X.prog X.w)).room X.A from (show X.A.units < cLine by omega)) (key_of I.hok hb) dd fun h' dd' hs => h _ ?_
  obtain ⟨q, es, ep, hq, h2, h3, h4, _, h5⟩ := dd'
  refine d_write I (by rw [hD]; exact True.intro) hs ⟨q, hq⟩ ⟨hl, hd, _, (rel.put k hb rv).keeps fun c ys ec => ?_, q, es, ep, hq, h2, h3, h4, h5⟩
  rw [upd_ne (ne_of ec hD (fun z => nomatch z))]
  exact ec
end
section
variable {X : Cx}
/-- what {k: v for ..} asks of what it walks, the keys tuples: D the new dict -/
def DcJ (g : TG) (tt : TT) (tk tv : TE) (vs : List Nat) (σ : L2.St) (Q : VK) (J : It) (H1 : Hp) : Prop := ∀ D, H1 D = none → ∃ W : Nat → Nat → Hp → Prop, (∃ m, W 0 m (upd H1 D (.dT []))) ∧ ∀ i m H, W i m H →
  (J.stop i H ∧ Q (.ref D) H) ∨ (J.go i H ∧ ∃ Nx : Hp → Prop, (∀ H', Nx H' → ∃ m', m' < m ∧ W (i + 1) m' H') ∧ ∀ x H', J.yld i H x H' → g x (wipe σ vs) H' fun σ2 H2 => wipe σ2 vs = wipe σ vs ∧ tt σ2 H2 fun t H3 =>
    if t = true then tk σ2 H3 fun y H4 => tv σ2 H4 fun z H5 => ∃ kvs k b, y = .ref b ∧ H5 b = some (.tup (k.map kV)) ∧ H5 D = some (.dT kvs) ∧ kvs.length < sizeLine ∧ Nx (upd H5 D (.dT (putK kvs k z))) else Nx H3)
def tDcT (wi : TI) (g : TG) (tt : TT) (tk tv : TE) (vs : List Nat) : TE := fun σ H Q => wi σ H fun J H1 => DcJ g tt tk tv vs σ Q J H1
theorem pe_dcT {kx vx tg iter : Expr} {ifs : List Expr} {scope : Scope} {own : List (Str × Nat)} {pos : Pos} {wi : TI} {g : TG} {tt : TT} {tk tv : TE} (hu : X.A.units + 1 < cLine) (hc : X.calm = true) (hN : X.N.Nodup) (hi : PI X tg iter wi) (ok : BlkOk X.N X.env.scope scope own)
    (hg : ∀ (s : Shared) (H : Hp) (C : Addr) (cl : List (Str × Addr)) (fp : List Addr), PG (X.blk s H scope (compEnvC scope cl C X.env) fp) tg g) (ht : ∀ (s : Shared) (H : Hp) (C : Addr) (cl : List (Str × Addr)) (fp : List Addr), PTs (X.blk s H scope (compEnvC scope cl C X.env) fp) ifs tt)
    (hk : ∀ (s : Shared) (H : Hp) (C : Addr) (cl : List (Str × Addr)) (fp : List Addr), PE (X.blk s H scope (compEnvC scope cl C X.env) fp) kx tk)
    (he : ∀ (s : Shared) (H : Hp) (C : Addr) (cl : List (Str × Addr)) (fp : List Addr), PE (X.blk s H scope (compEnvC scope cl C X.env) fp) vx tv) (hs : ∀ x, foldedSetIterable iter X.env x = pure x := by intro _; rfl) :
    PE X (.DictComp kx vx [⟨tg, iter, ifs, 0⟩] scope pos) (tDcT wi g tt tk tv (own.map (·.2))) := by
  refine ⟨fun pins s σ H Q I h => ?_⟩
  rw [arm_eval_DictComp]
  have free : ∀ y ∈ scope.names, y.2 = .free → ∃ c, X.env.cells.lookup y.1 = some c := fun y hy e => by
    rcases ok.free y hy e with k | k
    · exact I.ok.has _ (.inl k)
    · exact I.ok.has _ (.inr k)
  refine wpAny_comprehension_free rfl hs (closure_ok free) ok.kind (fun y hy e => by rw [ok.uniq y hy, e]) (thn (hi.run pins s σ H _ I h) fun xv s1 hx => thn hx fun itv s2 h2 => ?_)
  obtain ⟨it, fp, tn, J, H2, rfl, I2, T, st2, f2, q⟩ := h2
  -- the dict that is made, at D
  obtain ⟨D, hD⟩ : ∃ D : Addr, D = s2.heap.objs.size := ⟨_, rfl⟩
  have D0 : H2 D = none := I2.hok.fresh (Nat.le_of_eq hD.symm)
  obtain ⟨W, ⟨m0, w0⟩, turn⟩ := q D D0
  refine wpAny_newObj_type (newEnv_comp ?_)
  rw [← hD]
  obtain ⟨s3, e3⟩ : ∃ s3 : Shared, s3 = { s2 with heap := s2.heap.push { cls := .type "dict", data := .dict #[] } } := ⟨_, rfl⟩
  have p3 : ∀ b o, s2.heap.get? b = some o → s3.heap.get? b = some o := fun b o e => by rw [e3]; exact Heap.get?_push_of_some _ e
  have I3 : Inv X pins σ (upd H2 D (.dT [])) s3 := by
    rw [e3]
    exact I2.laid (t' := s2.toks) (fun b o e => Heap.get?_push_of_some _ e) (Nat.le_of_eq hD.symm) (by rw [hD]; exact dt_empty s2.heap I2.big)
  have f3 : ∀ b ∈ fp, FpOk X pins (upd H2 D (.dT [])) b ∧ b < s3.heap.objs.size := fun b hb => by
    obtain ⟨o, e, _⟩ := T.obj _ _ st2 b hb
    exact ⟨⟨by rw [upd_ne (by rw [hD]; exact Nat.ne_of_lt (Heap.lt_size e))]; exact (f2 b hb).1, (f2 b hb).2⟩, Heap.lt_size (p3 b o e)⟩
  have I4 := block_start I3 ok hN f3
  have pg := hg s3 (upd H2 D (.dT [])) s3.heap.objs.size (cellsFrom (s3.heap.objs.size + 1) scope.names (cloFrom X.env.cells scope.names [])) fp
  have pt := ht s3 (upd H2 D (.dT [])) s3.heap.objs.size (cellsFrom (s3.heap.objs.size + 1) scope.names (cloFrom X.env.cells scope.names [])) fp
  have pk := hk s3 (upd H2 D (.dT [])) s3.heap.objs.size (cellsFrom (s3.heap.objs.size + 1) scope.names (cloFrom X.env.cells scope.names [])) fp
  have pe := he s3 (upd H2 D (.dT [])) s3.heap.objs.size (cellsFrom (s3.heap.objs.size + 1) scope.names (cloFrom X.env.cells scope.names [])) fp
  rw [← e3]
  show codeAny _ _ (.compStart (.DictComp kx vx [⟨tg, iter, ifs, 0⟩] scope pos) 0 (.ref it) (.ref D) (compEnvC scope (cellsFrom (s3.heap.objs.size + 1) scope.names (cloFrom X.env.cells scope.names [])) s3.heap.objs.size X.env))
    (compPost (model X.prog X.w) X.A X.xe none (EP X pins σ Q) (.ref D) s3.heap.objs.size) { s3 with heap := pushCells (s3.heap.push { cls := .type "dict", data := .dict #[] }) scope.names }
  have nf : ∀ b ∈ fp, (upd H2 D (.dT [])) b = none := fun b hb => (f3 b hb).1.1
  have t4 : tn 0 (pushCells (s3.heap.push { cls := .type "dict", data := .dict #[] }) scope.names) := T.keep _ _ _ st2 fun b _ o e => pushCells_keeps _ _ _ _ (Heap.get?_push_of_some _ (p3 b o e))
  generalize hce : compEnvC scope (cellsFrom (s3.heap.objs.size + 1) scope.names (cloFrom X.env.cells scope.names [])) s3.heap.objs.size X.env = ce at I4 pg pt pk pe ⊢
  have cL : ce.locals = s3.heap.objs.size := by rw [← hce]; rfl
  generalize upd H2 D (.dT []) = H3 at I3 f3 I4 pg pt pk pe nf w0
  generalize hs4 : ({ s3 with heap := pushCells (s3.heap.push { cls := .type "dict", data := .dict #[] }) scope.names } : Shared) = s4 at I4 ⊢
  have t4' : tn 0 s4.heap := by rw [← hs4]; exact t4
  -- the iterator's objects stand outside of the block
  have outer : ∀ {σ' : L2.St} {H' : Hp} {s' : Shared}, Inv (X.blk s3 H3 scope ce fp) [] σ' H' s' → (∀ b ∈ fp, H' b = none) → ∀ b ∈ fp, FpOk (X.blk s3 H3 scope ce fp) [] H' b := fun {σ' H' s'} J n b hb =>
    ⟨n b hb, (J.ok.exf b hb).1, J.ok.exfs b hb, .inl hb, fun x c e => (J.ok.exf b hb).2 x c e, fun p hp => absurd (show p ∈ ([] : List (Addr × Obj)) ++ [] from hp) (by simp)⟩
  have loop : codeAny (model X.prog X.w) X.A (.compLoop (.DictComp kx vx [⟨tg, iter, ifs, 0⟩] scope pos) 0 (.ref it) (.ref D) ce) (compPost (model X.prog X.w) X.A X.xe none (EP X pins σ Q) (.ref D) s3.heap.objs.size) s4 := by
    refine compLoop_anyD (fun n s' => ∃ i H', Inv (X.blk s3 H3 scope ce fp) [] (wipe σ (own.map (·.2))) H' s' ∧ tn i s'.heap ∧ (∀ b ∈ fp, H' b = none) ∧ W i n H') ?_ m0 ⟨0, H3, I4, t4', nf, w0⟩
    rintro n s5 ⟨i, H5, I5, t5, n5, w5⟩
    rcases turn i n H5 w5 with ⟨stop, fin⟩ | ⟨go, Nx, hNx, step⟩
    · -- the walk is at its end: the def goes on
      refine thnF (T.done (X.blk s3 H3 scope ce fp) rfl rfl rfl hc i [] s5 _ H5 (fun _ _ => False) I5 (outer I5 n5) t5 stop) fun r s6 ⟨hr, I6⟩ => ?_
      subst hr
      have I7 : Inv X pins σ H5 s6 := I3.call' (ch := fp) I6.os I6.base I6.hok I6.bare fun b hb => ⟨(f3 b hb).1.2.2.2.1, (f3 b hb).1.2.1, (f3 b hb).1.2.2.2.2.1, (f3 b hb).1.2.2.2.2.2⟩
      have nC : H5 s3.heap.objs.size = none := by rw [← cL]; exact I6.free
      obtain ⟨m, hn, _⟩ := I6.loc
      have hn' : s6.heap.Ns s3.heap.objs.size m := by rw [← cL]; exact hn
      obtain ⟨g0, g1, g2, g3, g4, g5⟩ := I3.fpOk (Nat.le_refl _) nC
      exact ⟨m, hn', fun h'' sb => ⟨.ref D, H5, I7.turned (t' := s6.toks) (fun b o hb e => (sb.2 b hb).trans e) g0 g1 g3 g4 g5, rfl, fin⟩⟩
    · -- one more turn
      refine thnF (T.item (X.blk s3 H3 scope ce fp) rfl rfl rfl hc i [] s5 _ H5 (fun _ _ => False) I5 (outer I5 n5) t5 go) fun r s6 ⟨u, hr, h6⟩ => ?_
      subst hr
      refine thnF h6 fun _ s7 ⟨x, H7, I7, r7, y7, t7, n7⟩ => ?_
      have I7' := I7.pinned (outer I7 n7) (T.obj _ _ t7)
      refine thnF (pg.run _ s7 _ H7 x u _ I7' r7 (step x H7 y7)) fun _ s8 ⟨σ8, H8, I8, w8, q8⟩ => ?_
      refine thnF (pt.run _ s8 σ8 H8 _ I8 q8) fun b s9 ⟨H9, I9, q9⟩ => ?_
      have again : ∀ {s' : Shared} {H' : Hp}, Inv (X.blk s3 H3 scope ce fp) ([] ++ pinsAt fp s7.heap) σ8 H' s' → Nx H' → ∃ m, m < n ∧ ∃ i H', Inv (X.blk s3 H3 scope ce fp) [] (wipe σ (own.map (·.2))) H' s' ∧ tn i s'.heap ∧ (∀ b ∈ fp, H' b = none) ∧ W i m H' := by
        intro s' H' J nx
        obtain ⟨m', hm, w'⟩ := hNx H' nx
        have stay : ∀ b ∈ fp, ∀ o, s7.heap.get? b = some o → s'.heap.get? b = some o ∧ H' b = none := fun b hb o e => by
          have z := J.pin (b, o) (List.mem_append_right _ (List.mem_append_right _ (mem_pinsAt hb e)))
          exact ⟨z.1, z.2.1⟩
        refine ⟨m', hm, i + 1, H', (J.unpinned (pins := [])).weak (by rw [← w8, wipe_length]) (fun j v e => ?_), T.keep _ _ _ t7 fun b hb o e => (stay b hb o e).1, fun b hb => ?_, w'⟩
        · rw [← w8] at e; exact (wipe_some e).1
        · obtain ⟨o, e, _⟩ := T.obj _ _ t7 b hb
          exact (stay b hb o e).2
      cases b with
      | false =>
        simp only [Bool.false_eq_true, if_false] at q9 ⊢
        exact again I9 q9
      | true =>
        simp only [if_true] at q9 ⊢
        refine thnF (pk.run _ s9 σ8 H9 _ I9 q9) fun ky s10 ⟨yk, H10, I10, r10, q10⟩ => ?_
        refine thnF (pe.run _ s10 σ8 H10 _ I10 q10) fun vv s11 ⟨yv, H11, I11, r11, kvs, k, kb, ek, hkb, hD11, hz11, nx⟩ => ?_
        subst ek
        exact put_tup (X := X.blk s3 H3 scope ce fp) hu I11 hD11 hkb hz11 r10 r11 fun s12 I12 => again I12 nx
  exact codeAny_compStart_dict loop (T.self X.A 0 _ _ _ t4' loop)
end
end Bd
namespace Bd
open PySem PySem.Spec PyProof.Rows L2
/-- a list or a tuple is walked -/
def iLt (K : PySem.W.Frag) (tl : TE) : TI := fun σ H R => iList K tl σ H R ∨ iTup K tl σ H R
theorem pi_lt {X : Cx} {tg l : Expr} {tl : TE} (hl : PE X l tl) : PI X tg l (iLt X.K tl) := ⟨fun pins s σ H R I h => h.elim ((pi_list hl).run pins s σ H R I) ((pi_tup hl).run pins s σ H R I)⟩
end Bd

set_option Elab.async false
set_option linter.all false
set_option maxRecDepth 100000
set_option maxHeartbeats 4000000
/-! Bundles: sums of rows, normal forms. -/
namespace Bd
open PySem PySem.Spec PyProof.Rows L2
abbrev Ast := Str × Int
theorem ltSI_anti {p q : Ast} (h1 : ltSI p q = false) (h2 : ltSI q p = false) : p = q := by
  have a := ltSI_no.mp h1
  have b := ltSI_no.mp h2
  have c1 : q.1.cps.toList ≤ p.1.cps.toList := List.not_lt.mp fun z => a (.inl z)
  have c2 : p.1.cps.toList ≤ q.1.cps.toList := List.not_lt.mp fun z => b (.inl z)
  have e : p.1 = q.1 := str_ext (List.le_antisymm c2 c1)
  have d1 : ¬ p.2 < q.2 := fun z => a (.inr ⟨e, z⟩)
  have d2 : ¬ q.2 < p.2 := fun z => b (.inr ⟨e.symm, z⟩)
  exact Prod.ext e (by omega)
/-- the sum of the quantities of an asset -/
def tot : List (Ast × Int) → Ast → Int
  | [], _ => 0
  | e :: r, p => (if e.1 = p then e.2 else 0) + tot r p
theorem tot_append : ∀ (R S : List (Ast × Int)) (p : Ast), tot (R ++ S) p = tot R p + tot S p
  | [], S, p => by simp [tot]
  | e :: R, S, p => by rw [List.cons_append]; simp only [tot]; rw [tot_append R S p]; omega
theorem tot_neg : ∀ (R : List (Ast × Int)) (p : Ast), tot (R.map fun e => (e.1, -e.2)) p = - tot R p
  | [], p => by simp [tot]
  | e :: R, p => by
    rw [List.map_cons]; simp only [tot]; rw [tot_neg R p]
    split <;> omega
theorem tot_none {p : Ast} : ∀ {N : List (Ast × Int)}, p ∉ N.map (·.1) → tot N p = 0
  | [], _ => rfl
  | e :: N, h => by
    simp only [tot]
    rw [if_neg fun z => h (by rw [List.map_cons, z]; exact List.mem_cons_self ..), tot_none fun z => h (by rw [List.map_cons]; exact List.mem_cons_of_mem _ z)]
    omega
theorem tot_at {e : Ast × Int} : ∀ {N : List (Ast × Int)}, (N.map (·.1)).Nodup → e ∈ N → tot N e.1 = e.2
  | [], _, h => absurd h List.not_mem_nil
  | f :: N, hn, h => by
    rw [List.map_cons, List.nodup_cons] at hn
    simp only [tot]
    rcases List.mem_cons.mp h with rfl | h
    · rw [if_pos rfl, tot_none hn.1]; omega
    · rw [if_neg fun z => hn.1 (by rw [z]; exact List.mem_map_of_mem (f := (·.1)) h), tot_at hn.2 h]; omega
/-- rows in normal form -/
structure Nrm (N : List (Ast × Int)) : Prop where
  srt : N.Pairwise fun a b => ltSI b.1 a.1 = false
  nd : (N.map (·.1)).Nodup
  nz : ∀ e ∈ N, e.2 ≠ 0
theorem Nrm.nil : Nrm [] := ⟨List.Pairwise.nil, List.nodup_nil, fun _ h => absurd h List.not_mem_nil⟩
theorem Nrm.tail {e : Ast × Int} {N : List (Ast × Int)} (h : Nrm (e :: N)) : Nrm N := ⟨(List.pairwise_cons.mp h.srt).2, by have := h.nd; rw [List.map_cons, List.nodup_cons] at this; exact this.2, fun x hx => h.nz x (List.mem_cons_of_mem _ hx)⟩
theorem Nrm.key {N : List (Ast × Int)} (h : Nrm N) (p : Ast) : p ∈ N.map (·.1) ↔ tot N p ≠ 0 := by
  constructor
  · intro m
    obtain ⟨e, he, rfl⟩ := List.mem_map.mp m
    rw [tot_at h.nd he]; exact h.nz e he
  · intro m
    rcases Classical.em (p ∈ N.map (·.1)) with z | z
    · exact z
    · exact absurd (tot_none z) m
/-- one normal form for one sum -/
theorem Nrm.uniq : ∀ {N M : List (Ast × Int)}, Nrm N → Nrm M → (∀ p, tot N p = tot M p) → N = M
  | [], [], _, _, _ => rfl
  | [], e :: M, _, hm, h => absurd (h e.1) (by
      rw [tot_at hm.nd (List.mem_cons_self ..)]
      exact fun z => hm.nz e (List.mem_cons_self ..) z.symm)
  | e :: N, [], hn, _, h => absurd (h e.1) (by
      rw [tot_at hn.nd (List.mem_cons_self ..)]
      exact fun z => hn.nz e (List.mem_cons_self ..) z)
  | e :: N, f :: M, hn, hm, h => by
    have k1 : e.1 ∈ (f :: M).map (·.1) := (hm.key _).mpr (by rw [← h]; exact (hn.key _).mp (by rw [List.map_cons]; exact List.mem_cons_self ..))
    have k2 : f.1 ∈ (e :: N).map (·.1) := (hn.key _).mpr (by rw [h]; exact (hm.key _).mp (by rw [List.map_cons]; exact List.mem_cons_self ..))
    have e1 : e.1 = f.1 := by
      rw [List.map_cons] at k1 k2
      rcases List.mem_cons.mp k1 with z | z
      · exact z
      · rcases List.mem_cons.mp k2 with y | y
        · exact y.symm
        · obtain ⟨g, hg, eg⟩ := List.mem_map.mp z
          obtain ⟨g2, hg2, eg2⟩ := List.mem_map.mp y
          have q1 := (List.pairwise_cons.mp hm.srt).1 g hg
          have q2 := (List.pairwise_cons.mp hn.srt).1 g2 hg2
          rw [eg] at q1
          rw [eg2] at q2
          exact ltSI_anti q1 q2
    have e2 : e.2 = f.2 := by
      have a := tot_at hn.nd (List.mem_cons_self (a := e) (l := N))
      have b := tot_at hm.nd (List.mem_cons_self (a := f) (l := M))
      rw [h, e1] at a
      omega
    have ef : e = f := Prod.ext e1 e2
    subst ef
    rw [Nrm.uniq hn.tail hm.tail fun p => by
      have := h p
      simp only [tot] at this
      omega]
/-! ### dicts of sums -/
def eD (m : List (Ast × V)) : List (List Key × V) := m.map fun e => (eK e.1, e.2)
theorem eK_inj {p q : Ast} (h : eK p = eK q) : p = q := by
  have h1 := (List.cons.inj h).1
  have h2 := (List.cons.inj (List.cons.inj h).2).1
  exact Prod.ext (Sum.inr.inj h1) (Sum.inl.inj h2)
theorem valV_eD (p : Ast) : ∀ m : List (Ast × V), valV (eD m) (eK p) = valV m p
  | [] => rfl
  | e :: m => by
    by_cases h : e.1 = p
    · rw [valV_pos h, show eD (e :: m) = (eK e.1, e.2) :: eD m from rfl, valV_pos (p := (eK e.1, e.2)) (by rw [h])]
    · rw [valV_neg h, show eD (e :: m) = (eK e.1, e.2) :: eD m from rfl, valV_neg (p := (eK e.1, e.2)) (fun z => h (eK_inj z)), valV_eD p m]
theorem putK_eD (m : List (Ast × V)) (p : Ast) (v : V) : putK (eD m) (eK p) v = eD (putK m p v) := by
  unfold putK
  rw [valV_any, valV_any, valV_eD]
  split
  · unfold eD
    rw [List.map_map, List.map_map]
    refine List.map_congr_left fun e _ => ?_
    show (if eK e.1 = eK p then (eK e.1, v) else (eK e.1, e.2)) = _
    by_cases h : e.1 = p
    · rw [if_pos (by rw [h])]
      show _ = (fun e : Ast × V => (eK e.1, e.2)) (if e.1 = p then (e.1, v) else e)
      rw [if_pos h]
    · rw [if_neg fun z => h (eK_inj z)]
      show _ = (fun e : Ast × V => (eK e.1, e.2)) (if e.1 = p then (e.1, v) else e)
      rw [if_neg h]
  · unfold eD; rw [List.map_append]; rfl
theorem valV_key {m : List (Ast × V)} {p : Ast} : (valV m p).isSome = true ↔ p ∈ m.map (·.1) := by
  rw [← valV_any, List.any_eq_true]
  constructor
  · rintro ⟨e, he, h⟩
    rw [← of_decide_eq_true h]; exact List.mem_map_of_mem (f := (·.1)) he
  · intro h
    obtain ⟨e, he, h⟩ := List.mem_map.mp h
    exact ⟨e, he, decide_eq_true h⟩
theorem nodup_putK {m : List (Ast × V)} {p : Ast} {v : V} (h : (m.map (·.1)).Nodup) : ((putK m p v).map (·.1)).Nodup := by
  unfold putK
  split
  · rw [List.map_map]
    have : ((fun x : Ast × V => x.1) ∘ fun kv => if kv.1 = p then (kv.1, v) else kv) = fun x => x.1 := by
      funext x; show (if x.1 = p then (x.1, v) else x).1 = x.1; split <;> rfl
    rw [this]; exact h
  · rename_i hn
    rw [List.map_append, List.nodup_append]
    refine ⟨h, by simp, fun a ha b hb => ?_⟩
    have e : b = p := by simpa using hb
    rw [e]
    intro z
    rw [z] at ha
    rw [valV_any] at hn
    exact hn (valV_key.mpr ha)
/-- the sums so far -/
structure Sums (m : List (Ast × V)) (R : List (Ast × Int)) : Prop where
  nd : (m.map (·.1)).Nodup
  val : ∀ p, valV m p = if p ∈ R.map (·.1) then some (.int (tot R p)) else none
theorem Sums.nil : Sums [] [] := ⟨List.nodup_nil, fun p => rfl⟩
theorem Sums.get {m : List (Ast × V)} {R : List (Ast × Int)} (h : Sums m R) (p : Ast) : (valV m p).getD (.int 0) = .int (tot R p) := by
  rw [h.val]
  split
  · rfl
  · rename_i z; rw [tot_none z]; rfl
theorem Sums.put {m : List (Ast × V)} {R : List (Ast × Int)} (h : Sums m R) (e : Ast × Int) : Sums (putK m e.1 (.int (tot R e.1 + e.2))) (R ++ [e]) := by
  refine ⟨nodup_putK h.nd, fun p => ?_⟩
  rw [valV_put, h.val, tot_append]
  simp only [tot, List.map_append, List.map_cons, List.map_nil, List.mem_append, List.mem_singleton]
  by_cases q : p = e.1
  · subst q
    simp
  · have q' : ¬ e.1 = p := fun z => q z.symm
    rw [if_neg q, if_neg q']
    by_cases y : p ∈ R.map (·.1)
    · have y' : p ∈ R.map (·.1) ∨ p = e.1 := .inl y
      rw [if_pos y, if_pos y']; simp
    · have y' : ¬ (p ∈ R.map (·.1) ∨ p = e.1) := fun z => z.elim y q
      rw [if_neg y, if_neg y']
theorem Sums.keys {m : List (Ast × V)} {R : List (Ast × Int)} (h : Sums m R) (p : Ast) : p ∈ m.map (·.1) ↔ p ∈ R.map (·.1) := by
  rw [← valV_key, h.val]
  split <;> simp [*]
/-- what the sorted keys give -/
def nfOf (R : List (Ast × Int)) (S : List Ast) : List (Ast × Int) := (S.filter fun p => decide (tot R p ≠ 0)).map fun p => (p, tot R p)
theorem nf_nrm {R : List (Ast × Int)} {S : List Ast} (hs : SrtO.Srtd ltSI S) (hn : S.Nodup) : Nrm (nfOf R S) := by
  refine ⟨?_, ?_, ?_⟩
  · exact List.pairwise_map.mpr (List.Pairwise.filter _ hs)
  · unfold nfOf; rw [List.map_map]
    have : ((fun x : Ast × Int => x.1) ∘ fun p => (p, tot R p)) = id := rfl
    rw [this, List.map_id]
    exact List.Pairwise.filter _ hn
  · intro e he
    obtain ⟨p, hp, rfl⟩ := List.mem_map.mp he
    exact of_decide_eq_true (List.mem_filter.mp hp).2
theorem nf_tot {R : List (Ast × Int)} {S : List Ast} (hs : SrtO.Srtd ltSI S) (hn : S.Nodup) (hk : ∀ p, p ∈ R.map (·.1) → p ∈ S) (p : Ast) : tot (nfOf R S) p = tot R p := by
  by_cases h : tot R p = 0
  · rw [h]
    refine tot_none fun z => ?_
    obtain ⟨e, he, rfl⟩ := List.mem_map.mp z
    obtain ⟨q, hq, rfl⟩ := List.mem_map.mp he
    exact of_decide_eq_true (List.mem_filter.mp hq).2 h
  · have m : p ∈ S := hk p (by
      rcases Classical.em (p ∈ R.map (·.1)) with z | z
      · exact z
      · exact absurd (tot_none z) h)
    exact tot_at (nf_nrm hs hn).nd (e := (p, tot R p)) (List.mem_map.mpr ⟨p, List.mem_filter.mpr ⟨m, decide_eq_true h⟩, rfl⟩)
end Bd
namespace Bd
open PySem PySem.Spec PyProof.Rows L2
/-- rows as they stand in the heap -/
inductive RowL (H : Hp) : List V → List (Ast × Int) → Prop
  | nil : RowL H [] []
  | cons {z kq : Addr} {xs : List V} {p : Ast} {q : Int} {R : List (Ast × Int)} (h1 : H z = some (.tup [.ref kq, .int q])) (h2 : H kq = some (.tup [.str p.1, .int p.2])) (r : RowL H xs R) : RowL H (.ref z :: xs) ((p, q) :: R)
theorem RowL.keepT {H H' : Hp} (e : ∀ q t, H q = some (.tup t) → H' q = some (.tup t)) {xs : List V} {R : List (Ast × Int)} (h : RowL H xs R) : RowL H' xs R := by
  induction h with
  | nil => exact .nil
  | cons h1 h2 _ ih => exact .cons (e _ _ h1) (e _ _ h2) ih
theorem RowL.keep {H H' : Hp} (e : Same H H') {xs : List V} {R : List (Ast × Int)} (h : RowL H xs R) : RowL H' xs R := h.keepT fun _ _ => e _ _
theorem RowL.len {H : Hp} {xs : List V} {R : List (Ast × Int)} (h : RowL H xs R) : xs.length = R.length := by
  induction h with
  | nil => rfl
  | cons _ _ _ ih => exact congrArg Nat.succ ih
theorem RowL.append {H : Hp} {xs ys : List V} {R S : List (Ast × Int)} (h : RowL H xs R) (k : RowL H ys S) : RowL H (xs ++ ys) (R ++ S) := by
  induction h with
  | nil => exact k
  | cons h1 h2 _ ih => exact .cons h1 h2 ih
theorem RowL.get {H : Hp} {xs : List V} {R : List (Ast × Int)} (h : RowL H xs R) : ∀ {i : Nat} {x : V}, xs[i]? = some x → ∃ z kq p q, x = V.ref z ∧ R[i]? = some (p, q) ∧ H z = some (.tup [.ref kq, .int q]) ∧ H kq = some (.tup [.str p.1, .int p.2]) := by
  induction h with
  | nil => intro i x e; cases e
  | @cons z kq xs p q R h1 h2 _ ih =>
    intro i x e
    cases i with
    | zero => cases e; exact ⟨z, kq, p, q, rfl, rfl, h1, h2⟩
    | succ i => exact ih e
def encR (e : Ast × Int) : PyData := .tuple [.tuple [.str e.1.1, .int e.1.2], .int e.2]
theorem RowL.dp {K : PySem.W.Frag} {H : Hp} {xs : List V} {R : List (Ast × Int)} (h : RowL H xs R) : DpAll K H xs (R.map encR) := by
  induction h with
  | nil => exact .nil
  | cons h1 h2 _ ih => exact .cons (.tup (SqT.of h1) (.cons (.tup (SqT.of h2) (.cons (.str _) (.cons (.int _) .nil))) (.cons (.int _) .nil))) ih
theorem RowL.zs {H : Hp} : ∀ {zs : List (Addr × (Ast × V))} {R : List (Ast × Int)}, zs.map (·.2) = R.map (fun e => (e.1, V.int e.2)) →
    (∀ z ∈ zs, ∃ kq, H z.1 = some (.tup [.ref kq, z.2.2]) ∧ H kq = some (.tup [.str z.2.1.1, .int z.2.1.2])) → RowL H (zs.map fun z => V.ref z.1) R
  | [], [], _, _ => .nil
  | [], _ :: _, e, _ => by cases e
  | _ :: _, [], e, _ => by cases e
  | z :: zs, e :: R, h, k => by
    rw [List.map_cons, List.map_cons] at h
    have h1 := (List.cons.inj h).1
    obtain ⟨kq, a, b⟩ := k z (List.mem_cons_self ..)
    rw [h1] at a b
    exact .cons a b (RowL.zs (List.cons.inj h).2 fun y hy => k y (List.mem_cons_of_mem _ hy))
/-- the bundle at b has the rows N -/
def BdAt (K : PySem.W.Frag) (H : Hp) (b : Addr) (N : List (Ast × Int)) : Prop := ∃ dx r d xs, H b = some (.ins (He.ga K "Bundle") dx [("_quantities", .ref d), ("rows", .ref r)]) ∧ H r = some (.tup xs) ∧ RowL H xs N ∧ H d = some (.dT (eD (N.map fun e => (e.1, V.int e.2)))) ∧ Nrm N
theorem BdAt.nrm {K : PySem.W.Frag} {H : Hp} {b : Addr} {N : List (Ast × Int)} (h : BdAt K H b N) : Nrm N := by
  obtain ⟨_, _, _, _, _, _, _, _, h⟩ := h
  exact h
theorem Nrm.neg {N : List (Ast × Int)} (h : Nrm N) : Nrm (N.map fun e => (e.1, -e.2)) := by
  refine ⟨List.pairwise_map.mpr h.srt, ?_, ?_⟩
  · rw [List.map_map]; exact h.nd
  · intro e he
    obtain ⟨f, hf, rfl⟩ := List.mem_map.mp he
    have := h.nz f hf
    show -f.2 ≠ 0
    omega
theorem BdAt.keep {K : PySem.W.Frag} {H H' : Hp} {b : Addr} {N : List (Ast × Int)} (e : Same H H') (h : BdAt K H b N) : BdAt K H' b N := by
  obtain ⟨dx, r, d, xs, h1, h2, h3, h4, h5⟩ := h
  exact ⟨dx, r, d, xs, e _ _ h1, e _ _ h2, h3.keep e, e _ _ h4, h5⟩
/-- what is told of the class -/
structure BFacts (K : PySem.W.Frag) (mg : Str → Option Value) : Prop where
  m : mg "Bundle" = some (.ref (He.ga K "Bundle"))
  cls : Cls K (He.ga K "Bundle")
  n1 : NoAttr K (He.ga K "Bundle") "rows"
  n2 : NoAttr K (He.ga K "Bundle") "_quantities"
  mkr : Mk K (He.ga K "Bundle") (He.fAd K ("Bundle", some "__init__"))
  first : PySem.W.selfFirst K (He.ga K "Bundle") = true
  at_Bundle___add : PySem.W.findIn K (.ref (He.ga K "Bundle")) "__add__" = some (some (.ref (He.fAd K ("Bundle", some "__add__"))))
  fn_Bundle___add : PySem.W.isFn K (.ref (He.fAd K ("Bundle", some "__add__"))) = true
  at_Bundle___sub : PySem.W.findIn K (.ref (He.ga K "Bundle")) "__sub__" = some (some (.ref (He.fAd K ("Bundle", some "__sub__"))))
  fn_Bundle___sub : PySem.W.isFn K (.ref (He.fAd K ("Bundle", some "__sub__"))) = true
  at_Bundle___neg : PySem.W.findIn K (.ref (He.ga K "Bundle")) "__neg__" = some (some (.ref (He.fAd K ("Bundle", some "__neg__"))))
  fn_Bundle___neg : PySem.W.isFn K (.ref (He.fAd K ("Bundle", some "__neg__"))) = true
end Bd
namespace Rb
open PySem PySem.Spec PyProof.Rows L2 Bd
section
variable {K : PySem.W.Frag} {σ : L2.St} {H : Hp} {n b c : L2.St → Hp → Prop} {r : VK} {Q : VK} {td ty tv tx ta te : TE}
theorem dnewT (k : ∀ p, H p = none → Q (.ref p) (upd H p (.dT []))) : tDNewT σ H Q := k
theorem dget2 (k : td σ H fun x H1 => ∃ a, x = .ref a ∧ IsD H1 a ∧ ty σ H1 fun y H2 => tx σ H2 fun z H3 => ∃ o, DGet H3 a y o ∧ Q (o.getD z) H3) : tDGet2 td ty tx σ H Q := k
theorem dget (k : td σ H fun x H1 => ty σ H1 fun y H2 => ∃ a v, x = .ref a ∧ DGet H2 a y (some v) ∧ Q v H2) : tDGet td ty σ H Q := k
theorem isD {a : Addr} {kvs : List (List Key × V)} {P : Addr → Prop} (h : H a = some (.dT kvs)) (k : P a) : ∃ a', V.ref a = .ref a' ∧ IsD H a' ∧ P a' := ⟨a, rfl, .inr ⟨kvs, .inl h⟩, k⟩
theorem dgetO {a z : Addr} {m : List (Ast × V)} {p : Ast} {P : Option V → Prop} (h : H a = some (.dT (eD m))) (hz : H z = some (.tup [.str p.1, .int p.2])) (k : P (valV m p)) : ∃ o, DGet H a (.ref z) o ∧ P o :=
  ⟨_, DGet.t (k := eK p) h hz, by rw [valV_eD]; exact k⟩
theorem dgetS {a z : Addr} {m : List (Ast × V)} {p : Ast} {v : V} {P : V → Prop} (h : H a = some (.dT (eD m))) (hz : H z = some (.tup [.str p.1, .int p.2])) (e : valV m p = some v) (k : P v) : ∃ a' v', V.ref a = .ref a' ∧ DGet H a' (.ref z) (some v') ∧ P v' :=
  ⟨a, v, rfl, by rw [← e, ← valV_eD]; exact DGet.t (k := eK p) h hz, k⟩
theorem dput (k : tv σ H fun v H1 => td σ H1 fun x H2 => ty σ H2 fun y H3 => ∃ a H4, x = .ref a ∧ DPut H3 a y v H4 ∧ n σ H4) : sDPut td ty tv ⟨n, r, b, c⟩ σ H := k
theorem dputT {a z : Addr} {m : List (Ast × V)} {p : Ast} {v : V} {P : Hp → Prop} (h : H a = some (.dT (eD m))) (hz : H z = some (.tup [.str p.1, .int p.2])) (hl : m.length < 100000) (k : P (upd H a (.dT (eD (putK m p v))))) : ∃ a' H4, V.ref a = .ref a' ∧ DPut H a' (.ref z) v H4 ∧ P H4 :=
  ⟨a, _, rfl, DPut.t (k := eK p) h hz (Rd.smallT (by unfold eD; rw [List.length_map]; exact hl)), by rw [putK_eD]; exact k⟩
theorem pair2 {z : Addr} {x y : V} {i j : Nat} {Qd : L2.St → Hp → Prop} (h : SqT K H z [x, y]) (k : Qd ((σ.set i (some x)).set j (some y)) H) : gTup K 2 (gCons (gName i) (gCons (gName j) gNil)) (.ref z) σ H Qd :=
  ⟨z, _, rfl, h, rfl, x, [y], rfl, y, [], rfl, rfl, k⟩
/-- for .. in a list or a tuple, by its name -/
theorem forLt {i₀ : Nat} {H0 : Hp} {a : Addr} {xs : List V} {g : TG} {tb : TS} (Pv : Nat → L2.St → Hp → Prop) (hv : σ[i₀]? = some (some (.ref a))) (h : SqL K H0 a xs ∨ SqT K H0 a xs) (e0 : Same H0 H) (h0 : Pv 0 σ H)
    (hl : ∀ i σ H', i ≤ xs.length → Pv i σ H' → Same H0 H') (hs : ∀ (i : Nat) (x : V) (σ' : L2.St) (H' : Hp), xs[i]? = some x → Pv i σ' H' → g x σ' H' fun σ2 H2 => tb ⟨Pv (i + 1), r, n, Pv (i + 1)⟩ σ2 H2)
    (hd : ∀ σ' H', Pv xs.length σ' H' → n σ' H') : tFor (iLt K (tVar i₀)) g tb ⟨n, r, b, c⟩ σ H := by
  rcases h with h | h
  · exact .inl ⟨.ref a, hv, a, rfl, ⟨_, e0.seq h⟩, for_list Pv h0 (fun i σ' H' hi p => (hl i σ' H' hi p).seq h) hs hd⟩
  · exact .inr ⟨.ref a, hv, a, rfl, ⟨_, Rd.same_tup e0 h⟩, for_tup Pv h0 (fun i σ' H' hi p => Rd.same_tup (hl i σ' H' hi p) h) hs hd⟩
theorem fld {f : Str} (k : ta σ H fun x H1 => ∃ a C dx fs v, x = .ref a ∧ H1 a = some (.ins C dx fs) ∧ Cls K C ∧ NoAttr K C f ∧ fs.lookup f = some v ∧ Q v H1) : tFld K ta f σ H Q := k
theorem sfld {f : Str} (k : tv σ H fun y H1 => ta σ H1 fun x H2 => ∃ a C dx fs, x = .ref a ∧ H2 a = some (.ins C dx fs) ∧ Cls K C ∧ NoAttr K C f ∧ fs.length < 1000 ∧ n σ (upd H2 a (.ins C dx (putF f y fs)))) : sFld K ta tv f ⟨n, r, b, c⟩ σ H := k
theorem dcT {wi : TI} {g : TG} {tt : TT} {tk : TE} {vs : List Nat} (k : wi σ H fun J H1 => DcJ g tt tk tv vs σ Q J H1) : tDcT wi g tt tk tv vs σ H Q := k
/-- a dict comprehension over a list with a test -/
theorem dcL {a : Addr} {xs : List V} {g : TG} {tt : TT} {tk : TE} {vs : List Nat} {H1 : Hp} (Pv : Addr → Nat → Hp → Prop) (h : SqL K H1 a xs) (h0 : ∀ D, H1 D = none → Pv D 0 (upd H1 D (.dT [])))
    (hl : ∀ D i H, i ≤ xs.length → Pv D i H → SqL K H a xs)
    (hs : ∀ D i x H, H1 D = none → xs[i]? = some x → Pv D i H → g x (wipe σ vs) H fun σ2 H2 => wipe σ2 vs = wipe σ vs ∧ tt σ2 H2 fun t H3 =>
      if t = true then tk σ2 H3 fun y H4 => tv σ2 H4 fun z H5 => ∃ kvs k b, y = .ref b ∧ H5 b = some (.tup (k.map kV)) ∧ H5 D = some (.dT kvs) ∧ kvs.length < sizeLine ∧ Pv D (i + 1) (upd H5 D (.dT (putK kvs k z))) else Pv D (i + 1) H3)
    (hd : ∀ D H, H1 D = none → Pv D xs.length H → Q (.ref D) H) : ∃ p, V.ref a = .ref p ∧ (∃ ys, SqL K H1 p ys) ∧ DcJ g tt tk tv vs σ Q (Itl K p) H1 := by
  refine ⟨a, rfl, ⟨_, h⟩, fun D hD => ⟨fun i m H => m = xs.length - i ∧ i ≤ xs.length ∧ Pv D i H, ⟨xs.length, by simp, Nat.zero_le _, h0 D hD⟩, ?_⟩⟩
  rintro i m H ⟨rfl, hi, p⟩
  have q := hl D i H hi p
  by_cases hlt : i < xs.length
  · refine .inr ⟨⟨xs, xs[i], q, by simp [hlt]⟩, Pv D (i + 1), fun H' p' => ⟨xs.length - (i + 1), by omega, rfl, hlt, p'⟩, fun x H' y => ?_⟩
    obtain ⟨e, y⟩ := y
    subst e
    exact hs D i x _ hD (y xs q) p
  · have e : i = xs.length := by omega
    subst e
    exact .inl ⟨⟨xs, q, Nat.le_refl _⟩, hd D H hD p⟩
end
end Rb
namespace Bd
open PySem PySem.Spec PyProof.Rows L2
theorem nfOf_yes {R : List (Ast × Int)} {S : List Ast} {p : Ast} (h : tot R p ≠ 0) : nfOf R (S ++ [p]) = nfOf R S ++ [(p, tot R p)] := by
  unfold nfOf
  have e : List.filter (fun p => decide (tot R p ≠ 0)) [p] = [p] := by simp [h]
  rw [List.filter_append, List.map_append, e]
  rfl
theorem nfOf_no {R : List (Ast × Int)} {S : List Ast} {p : Ast} (h : tot R p = 0) : nfOf R (S ++ [p]) = nfOf R S := by
  unfold nfOf
  have e : List.filter (fun p => decide (tot R p ≠ 0)) [p] = [] := by simp [h]
  rw [List.filter_append, List.map_append, e]
  simp
theorem nfOf_mem {R : List (Ast × Int)} {S : List Ast} {p : Ast} (h : p ∈ (nfOf R S).map (·.1)) : p ∈ S := by
  obtain ⟨e, he, rfl⟩ := List.mem_map.mp h
  obtain ⟨q, hq, rfl⟩ := List.mem_map.mp he
  exact (List.mem_filter.mp hq).1
theorem nfOf_len (R : List (Ast × Int)) (S : List Ast) : (nfOf R S).length ≤ S.length := by
  unfold nfOf; rw [List.length_map]; exact List.length_filter_le _ _
/-- the next asset in order is put behind -/
theorem put_nf {R : List (Ast × Int)} {S : List Ast} {p : Ast} (h : tot R p ≠ 0) (hp : p ∉ S) : putK ((nfOf R S).map fun e => (e.1, V.int e.2)) p (.int (tot R p)) = (nfOf R (S ++ [p])).map fun e => (e.1, V.int e.2) := by
  rw [putK_new, nfOf_yes h, List.map_append]
  · rfl
  · cases q : valV ((nfOf R S).map fun e => (e.1, V.int e.2)) p with
    | none => rfl
    | some v =>
      have : p ∈ ((nfOf R S).map fun e => (e.1, V.int e.2)).map (·.1) := valV_key.mp (by rw [q]; rfl)
      rw [List.map_map] at this
      exact absurd (nfOf_mem this) hp
end Bd
namespace Rb
open PySem PySem.Spec PyProof.Rows L2 Bd
section
variable {K : PySem.W.Frag} {σ : L2.St} {H : Hp} {Q : VK} {E : XK}
theorem make {C : Addr} {sp : Sp} {dvs : List V} {t : TA} (k : t σ H fun vs H1 => ∀ x dx, H1 x = none → H1 dx = none → dx ≠ x → sp (.ref x :: (vs ++ dvs)) (upd (upd H1 dx (.own x)) x (.ins C dx [])) (fun v H2 => v = .non ∧ Q (.ref x) H2) E) : tMake C sp dvs E t σ H Q := k
theorem catA {a b : Addr} {xs ys : List V} (ha : SqT K H a xs) (hb : SqT K H b ys) (hl : xs.length + ys.length ≤ 100000) (k : ∀ p H', Same H H' → SqT K H' p (xs ++ ys) → Q (.ref p) H') : rCatA K (.ref a) (.ref b) H Q :=
  ⟨a, b, xs, ys, rfl, rfl, ha, hb, Rd.small hl, fun e => k b H (Same.refl H) (by rw [e]; exact hb), fun _ e => k a H (Same.refl H) (by rw [e, List.append_nil]; exact ha), fun _ _ p hp => k p _ (Rd.same_new hp) Rd.slT⟩
theorem own2 {C a b : Addr} {sp : Sp} (ha : ∃ dx fs, H a = some (.ins C dx fs)) (hb : ∃ dx fs, H b = some (.ins C dx fs)) (k : sp [.ref a, .ref b] H Q E) : rOwn2 C sp E (.ref a) (.ref b) H Q := by
  obtain ⟨dx, fs, ha⟩ := ha
  obtain ⟨dy, gs, hb⟩ := hb
  exact ⟨a, b, dx, dy, fs, gs, rfl, rfl, ha, hb, k⟩
theorem own1 {C a : Addr} {sp : Sp} (ha : ∃ dx fs, H a = some (.ins C dx fs)) (k : sp [.ref a] H Q E) : rOwn1 C sp E (.ref a) H Q := by
  obtain ⟨dx, fs, ha⟩ := ha
  exact ⟨a, dx, fs, rfl, ha, k⟩
theorem insOf {b : Addr} {N : List (Ast × Int)} (h : BdAt K H b N) : ∃ dx fs, H b = some (.ins (He.ga K "Bundle") dx fs) := by
  obtain ⟨dx, r, d, xs, h1, _⟩ := h
  exact ⟨dx, _, h1⟩
/-- b.rows where b's value is already there -/
theorem rowsP {P : V → Prop} {mg : Str → Option Value} {b : Addr} {N : List (Ast × Int)} (Bf : BFacts K mg) (h : BdAt K H b N) (k : ∀ r xs, H r = some (.tup xs) → RowL H xs N → P (.ref r)) :
    ∃ a C dx fs v, V.ref b = .ref a ∧ H a = some (.ins C dx fs) ∧ Cls K C ∧ NoAttr K C ("rows" : Str) ∧ fs.lookup ("rows" : Str) = some v ∧ P v := by
  obtain ⟨dx, r, d, xs, h1, h2, h3, h4, _⟩ := h
  exact ⟨b, _, dx, _, .ref r, rfl, h1, Bf.cls, Bf.n1, rfl, k r xs h2 h3⟩
end
end Rb
namespace Rb
open PySem PySem.Spec PyProof.Rows L2 Bd
section
variable {K : PySem.W.Frag} {σ : L2.St} {H : Hp} {Q : VK}
/-- [.. for target in a tuple] without a test -/
theorem lcT {a : Addr} {xs : List V} {g : TG} {te : TE} {vs : List Nat} (Pv : Addr → Nat → List V → Hp → Prop) (h : SqT K H a xs) (h0 : ∀ D H', H D = none → Same H H' → H' D = some (.lst []) → Pv D 0 [] H')
    (hs : ∀ (i : Nat) (x : V) (acc : List V) (D : Addr) (H' : Hp), H D = none → Same H H' → xs[i]? = some x → acc.length = i → H' D = some (.lst acc) → Pv D i acc H' → g x (wipe σ vs) H' fun σ2 H2 => wipe σ2 vs = wipe σ vs ∧ te σ2 H2 (Rd.LcE H D i Pv))
    (hd : ∀ D acc H', H D = none → Same H H' → H' D = some (.lst acc) → acc.length = xs.length → Pv D xs.length acc H' → Q (.ref D) H') :
    ∃ p, V.ref a = .ref p ∧ (∃ ys, SqT K H p ys) ∧ Rd.LcJ g tYes te vs σ Q (Itt K p) H := by
  refine ⟨a, rfl, ⟨_, h⟩, fun D hD => ?_⟩
  refine lc_tup (xs := xs) (fun i H' => ∃ acc, Same H H' ∧ acc.length = i ∧ H' D = some (.lst acc) ∧ Pv D i acc H') ⟨[], Rd.same_new hD, rfl, upd_same, h0 D _ hD (Rd.same_new hD) upd_same⟩ (fun i H' _ ⟨acc, s, _⟩ => Rd.same_tup s h) ?_ ?_
  · rintro i x H' hi ⟨acc, s, e, hD', p⟩
    exact hs i x acc D H' hD s hi e hD' p
  · rintro H' ⟨acc, s, e, hD', p⟩
    exact hd D acc H' hD s hD' e p
theorem lcL2 {a : Addr} {xs : List V} {g : TG} {te : TE} {vs : List Nat} (Pv : Addr → Nat → List V → Hp → Prop) (h : SqL K H a xs) (h0 : ∀ D H', H D = none → Same H H' → H' D = some (.lst []) → Pv D 0 [] H')
    (hs : ∀ (i : Nat) (x : V) (acc : List V) (D : Addr) (H' : Hp), H D = none → Same H H' → xs[i]? = some x → acc.length = i → H' D = some (.lst acc) → Pv D i acc H' → g x (wipe σ vs) H' fun σ2 H2 => wipe σ2 vs = wipe σ vs ∧ te σ2 H2 (Rd.LcE H D i Pv))
    (hd : ∀ D acc H', H D = none → Same H H' → H' D = some (.lst acc) → acc.length = xs.length → Pv D xs.length acc H' → Q (.ref D) H') :
    ∃ p, V.ref a = .ref p ∧ (∃ ys, SqL K H p ys) ∧ Rd.LcJ g tYes te vs σ Q (Itl K p) H := by
  refine ⟨a, rfl, ⟨_, h⟩, fun D hD => ?_⟩
  refine lc_list (xs := xs) (fun i H' => ∃ acc, Same H H' ∧ acc.length = i ∧ H' D = some (.lst acc) ∧ Pv D i acc H') ⟨[], Rd.same_new hD, rfl, upd_same, h0 D _ hD (Rd.same_new hD) upd_same⟩ (fun i H' _ ⟨acc, s, _⟩ => s.seq h) ?_ ?_
  · rintro i x H' hi ⟨acc, s, e, hD', p⟩
    exact hs i x acc D H' hD s hi e hD' p
  · rintro H' ⟨acc, s, e, hD', p⟩
    exact hd D acc H' hD s hD' e p
end
end Rb
namespace Bd
open PySem PySem.Spec PyProof.Rows L2
section
variable {X : Cx}
/-- sorted(xs), xs a list of assets -/
def rSortedSI (K : PySem.W.Frag) : List V → Hp → VK → Prop := fun xs H Q => ∃ (a : Addr) (ps0 : List (Addr × (Str × Int))), xs = [.ref a] ∧ SqL K H a (ps0.map fun z => V.ref z.1) ∧ AsAt H ps0 ∧
  ∀ (ps : List (Addr × (Str × Int))) (p : Addr), ps.Perm ps0 → SrtO.Srtd ltSI (ps.map (·.2)) → H p = none → Q (.ref p) (upd H p (.lst (ps.map fun z => V.ref z.1)))
theorem cr_sortedSI : CallR X (.builtin "sorted") (rSortedSI X.K) := by
  intro pins s σ H xs us Q I r q
  obtain ⟨a, ps0, rfl, hs, hA, q⟩ := q
  obtain ⟨its, rv, hl, hz⟩ := I.list hs
  obtain ⟨u, rfl, ru⟩ := vals1 r
  obtain rfl : u = Value.ref a := ru
  have eb : its = ps0.map fun z => Value.ref z.1 := by
    have h1 : ∀ {ps : List (Addr × (Str × Int))} {us : List Value}, Vals (ps.map fun z => V.ref z.1) us → us = ps.map fun z => Value.ref z.1 := by
      intro ps
      induction ps with
      | nil => intro us h; cases h; rfl
      | cons z ps ih =>
        intro us h
        rw [List.map_cons] at h
        cases h with
        | cons h t => rw [ih t, List.map_cons, show _ = Value.ref z.1 from h]
    exact h1 rv
  have hsi : ∀ v ∈ its, IsSI s.heap v (siOf s.heap v) := fun v hv => by
    rw [eb] at hv
    obtain ⟨zz, hz, rfl⟩ := List.mem_map.mp hv
    have q := isSI_of I.hok (hA zz hz)
    rw [q.of]; exact q
  refine SrtO.sorted_ord (ltv := fun v u => ltSI (siOf s.heap v) (siOf s.heap u)) (swo_SI (siOf s.heap)) hl.isList (by rw [← rv.length]; exact hz) (fun h2 h₁ a' ha' kk => ?_) fun out h1 h2 => ?_
  · refine si_sortable (s := { s with heap := h₁ }) (by omega) (fun v hm => (hsi v hm).keeps fun b o e _ => (kk b o e).2) fun o e => ?_
    have e' : some o = some (seqObj "list" its.toArray 0) := e.symm.trans ha'
    cases e'
    intro c
    exact absurd (Value.type.inj c) (by decide)
  · obtain ⟨ps, b1, b2⟩ := perm_lift (fun z : Addr × (Str × Int) => Value.ref z.1) h2.perm ps0 eb.symm
    have hk2 : ∀ z ∈ ps, siOf s.heap (Value.ref z.1) = z.2 := fun z hz => (isSI_of I.hok (hA z (b1.mem_iff.mp hz))).of
    have hsr : SrtO.Srtd ltSI (ps.map (·.2)) := by
      rw [← b2] at h1
      have h1' := List.pairwise_map.mp h1
      refine List.pairwise_map.mpr (h1'.imp_of_mem fun {x y} hx hy hh => ?_)
      have hh' : ltSI (siOf s.heap (Value.ref y.1)) (siOf s.heap (Value.ref x.1)) = false := hh
      rw [hk2 x hx, hk2 y hy] at hh'
      exact hh'
    have hd : s.heap.objs.size ≤ s.heap.objs.size + 1 := Nat.le_succ _
    obtain ⟨n, hn⟩ := sortedAll_at s.heap its out.toArray
    refine ⟨.ref (s.heap.objs.size + 1), upd H (s.heap.objs.size + 1) (.lst (ps.map fun z => V.ref z.1)), I.laid (t' := s.toks) (fun b o e => sortedAll_old e) hd ⟨?_, out, n, ?_, hn⟩, rfl, q ps _ b1 hsr (I.hok.fresh hd)⟩
    · rw [List.length_map] at hz ⊢; rw [b1.length_eq]; exact hz
    · rw [← b2]
      have := vals_refs (ps.map (·.1))
      rw [List.map_map, List.map_map] at this
      exact this
end
end Bd
namespace Rb
open PySem PySem.Spec PyProof.Rows L2 Bd
section
variable {X : Cx} {K : PySem.W.Frag}
theorem ix_listK (h : X.K = K) : IxR X (rIxL K) := h ▸ ix_list
theorem ix_tupK (h : X.K = K) : IxR X (rIxT K) := h ▸ ix_tup
theorem op_eqDK (h : X.K = K) (hu : X.A.units + 64 < cLine) : OpR X (compareOp .Eq) (rEqD K) := h ▸ op_eqD hu
end
end Rb
namespace Rb
theorem units65 {k : Nat} {A : PySem.Around} (hr : L2.Room k A) : A.units + 65 < PySem.cLine := by have := hr.un; omega
end Rb
namespace Bd
open PySem PySem.Spec PyProof.Rows L2
theorem encR_eqv (e : Ast × Int) : PyData.eqv (encR e) (encR e) = true := by simp [encR, PyData.eqv, PyData.eqvAll]
theorem encR_eqvAll : ∀ N : List (Ast × Int), PyData.eqvAll (N.map encR) (N.map encR) = true
  | [] => by simp [PyData.eqvAll]
  | e :: N => by simp [PyData.eqvAll, encR_eqv e, encR_eqvAll N]
def OkA (p : Ast) : Prop := PyData.strOk p.1 = true
def OkR (R : List (Ast × Int)) : Prop := ∀ e ∈ R, OkA e.1
theorem strOk_S {l : List Nat} (h : ∀ c ∈ l, c < 1114112) : PyData.strOk (Rd.S l) = true := by
  unfold PyData.strOk Rd.S
  simpa using h
theorem strOk_app {x y : Str} (h1 : PyData.strOk x = true) (h2 : PyData.strOk y = true) : PyData.strOk (x ++ y) = true := by
  rw [Rd.S_of x] at h1 ⊢
  rw [Rd.S_of y] at h2 ⊢
  rw [Rd.S_app]
  unfold PyData.strOk Rd.S at *
  simp only [List.all_toArray, List.all_append, Bool.and_eq_true] at *
  exact ⟨h1, h2⟩
theorem OkR.of_tot {R N : List (Ast × Int)} (h : OkR R) (hn : Nrm N) (ht : ∀ p, tot N p = tot R p) : OkR N := fun e he => by
  have h1 : e.1 ∈ R.map (·.1) := by
    rcases Classical.em (e.1 ∈ R.map (·.1)) with z | z
    · exact z
    · have := tot_at hn.nd he
      rw [ht, tot_none z] at this
      exact absurd this.symm (hn.nz e he)
  obtain ⟨f, hf, ef⟩ := List.mem_map.mp h1
  rw [← ef]; exact h f hf
theorem encR_lay : ∀ N : List (Ast × Int), OkR N → PyData.canLayAll0 (N.map encR) = true
  | [], _ => by simp [PyData.canLayAll0]
  | e :: N, h => by
    have h1 : PyData.strOk e.1.1 = true := h e (List.mem_cons_self ..)
    simp [PyData.canLayAll0, PyData.canLay0, encR, encR_lay N fun x hx => h x (List.mem_cons_of_mem _ hx), h1]
theorem encR_depth : ∀ N : List (Ast × Int), PyData.depthAll (N.map encR) ≤ 2
  | [] => by simp [PyData.depthAll]
  | e :: N => by
    have := encR_depth N
    simp only [List.map_cons, PyData.depthAll]
    refine Nat.max_le.mpr ⟨?_, this⟩
    simp [encR, PyData.depth, PyData.depthAll]
theorem encR_shaped {N : List (Ast × Int)} (h : OkR N) : SeqAt.shaped (.tuple (N.map encR)) = true := by
  have := encR_depth N
  unfold SeqAt.shaped
  simp only [PyData.canLay0, encR_lay N h, PyData.depth, Bool.true_and]
  exact decide_eq_true (by omega)
def encA (p : Ast) : PyData := .tuple [.str p.1, .int p.2]
theorem encA_eqv (p q : Ast) : PyData.eqv (encA p) (encA q) = decide (p = q) := by
  have : (p = q) ↔ (p.1 = q.1 ∧ p.2 = q.2) := ⟨fun h => by rw [h]; exact ⟨rfl, rfl⟩, fun h => Prod.ext h.1 h.2⟩
  simp only [encA, PyData.eqv, PyData.eqvAll, Bool.and_true]
  rw [Bool.eq_iff_iff]
  simp [this]
theorem encA_shaped {p : Ast} (h : OkA p) : SeqAt.shaped (encA p) = true := by
  have h' : PyData.strOk p.1 = true := h
  unfold SeqAt.shaped
  simp [encA, PyData.canLay0, PyData.canLayAll0, PyData.depth, PyData.depthAll, h']
theorem encA_lay : ∀ N : List Ast, (∀ p ∈ N, OkA p) → PyData.canLayAll0 (N.map encA) = true
  | [], _ => by simp [PyData.canLayAll0]
  | e :: N, h => by
    have h1 : PyData.strOk e.1 = true := h e (List.mem_cons_self ..)
    simp [PyData.canLayAll0, PyData.canLay0, encA, encA_lay N fun x hx => h x (List.mem_cons_of_mem _ hx), h1]
theorem encA_depth : ∀ N : List Ast, PyData.depthAll (N.map encA) ≤ 1
  | [] => by simp [PyData.depthAll]
  | e :: N => by
    have := encA_depth N
    simp only [List.map_cons, PyData.depthAll]
    refine Nat.max_le.mpr ⟨?_, this⟩
    simp [encA, PyData.depth, PyData.depthAll]
theorem encAs_shaped {N : List Ast} (h : ∀ p ∈ N, OkA p) : SeqAt.shaped (.list (N.map encA)) = true := by
  have := encA_depth N
  unfold SeqAt.shaped
  simp only [PyData.canLay0, encA_lay N h, PyData.depth, Bool.true_and]
  exact decide_eq_true (by omega)
theorem encA_any (N : List Ast) (p : Ast) : ((N.map encA).any fun z => PyData.eqv z (encA p)) = decide (p ∈ N) := by
  induction N with
  | nil => rfl
  | cons e N ih =>
    rw [List.map_cons, List.any_cons, ih, encA_eqv]
    by_cases h : e = p
    · subst h
      rw [decide_eq_true rfl, Bool.true_or]
      exact (decide_eq_true (List.mem_cons_self ..)).symm
    · rw [decide_eq_false h, Bool.false_or]
      by_cases y : p ∈ N
      · rw [decide_eq_true y, decide_eq_true (List.mem_cons_of_mem _ y)]
      · rw [decide_eq_false y, decide_eq_false fun z => (List.mem_cons.mp z).elim (fun q => h q.symm) y]
theorem asAt_dp {K : PySem.W.Frag} {H : Hp} : ∀ {ps : List (Addr × Ast)}, AsAt H ps → DpAll K H (ps.map fun z => V.ref z.1) ((ps.map (·.2)).map encA)
  | [], _ => .nil
  | z :: ps, h => .cons (.tup (SqT.of (h z (List.mem_cons_self ..))) (.cons (.str _) (.cons (.int _) .nil))) (asAt_dp fun y hy => h y (List.mem_cons_of_mem _ hy))
end Bd
namespace Bd
open PySem PySem.Spec PyProof.Rows L2
theorem tot_take {R : List (Ast × Int)} {i : Nat} {p' : Ast} {q : Int} (h : R[i]? = some (p', q)) (p : Ast) : tot (R.take (i + 1)) p = tot (R.take i) p + (if p' = p then q else 0) := by
  rw [List.take_add_one, h, tot_append]
  simp [tot]
end Bd
namespace Rb
open PySem PySem.Spec PyProof.Rows L2 Bd
section
variable {K : PySem.W.Frag} {σ : L2.St} {H : Hp} {Q : VK}
/-- [q for row in rows if row[0] == asset]: the quantities of one asset -/
theorem lcTest {a : Addr} {xs : List V} {g : TG} {tt : TT} {te : TE} {vs : List Nat} (Pv : Nat → List Int → Prop) (h : SqL K H a xs) (hz : xs.length ≤ 100000) (h0 : Pv 0 [])
    (hs : ∀ (i : Nat) (x : V) (qs : List Int) (D : Addr) (H' : Hp) (R : Hp → Prop), H D = none → Same H H' → xs[i]? = some x → qs.length ≤ i → H' D = some (.lst (qs.map V.int)) → Pv i qs → (∀ q, Pv (i + 1) (qs ++ [q]) → R (upd H' D (.lst (qs.map V.int ++ [.int q])))) → (Pv (i + 1) qs → R H') →
      g x (wipe σ vs) H' fun σ2 H2 => wipe σ2 vs = wipe σ vs ∧ tt σ2 H2 fun b H3 => if b = true then te σ2 H3 fun y H4 => ∃ acc, H4 D = some (.lst acc) ∧ acc.length < sizeLine ∧ R (upd H4 D (.lst (acc ++ [y]))) else R H3)
    (hd : ∀ D qs H', H D = none → Same H H' → H' D = some (.lst (qs.map V.int)) → Pv xs.length qs → Q (.ref D) H') :
    ∃ p, V.ref a = .ref p ∧ (∃ ys, SqL K H p ys) ∧ Rd.LcJ g tt te vs σ Q (Itl K p) H := by
  refine ⟨a, rfl, ⟨_, h⟩, fun D hD => ?_⟩
  refine lc_list (xs := xs) (fun i H' => ∃ qs : List Int, Same H H' ∧ qs.length ≤ i ∧ H' D = some (.lst (qs.map V.int)) ∧ Pv i qs) ⟨[], Rd.same_new hD, Nat.le_refl _, upd_same, h0⟩ (fun i H' _ ⟨_, s, _⟩ => s.seq h) ?_ ?_
  · rintro i x H' hi ⟨qs, s, e, hD', p⟩
    refine hs i x qs D H' _ hD s hi e hD' p (fun q pq => ⟨qs ++ [q], Rd.same_mut s hD, by rw [List.length_append]; simp; omega, by rw [upd_same, List.map_append]; rfl, pq⟩) fun p' => ⟨qs, s, by omega, hD', p'⟩
  · rintro H' ⟨qs, s, e, hD', p⟩
    exact hd D qs H' hD s hD' p
end
end Rb
namespace Bd
open PySem PySem.Spec PyProof.Rows L2
theorem nd_len : ∀ {A B : List Ast}, A.Nodup → (∀ x ∈ A, x ∈ B) → A.length ≤ B.length
  | [], _, _, _ => Nat.zero_le _
  | a :: A, B, h, s => by
    rw [List.nodup_cons] at h
    have ha := s a (List.mem_cons_self ..)
    have h2 := nd_len (A := A) (B := B.erase a) h.2 fun x hx => (List.mem_erase_of_ne fun e => h.1 (by rw [← e]; exact hx)).mpr (s x (List.mem_cons_of_mem _ hx))
    have h3 := List.length_erase_of_mem ha
    have h4 : 0 < B.length := List.length_pos_of_mem ha
    rw [List.length_cons]
    omega
theorem Nrm.len {N R : List (Ast × Int)} (h : Nrm N) (ht : ∀ p, tot N p = tot R p) : N.length ≤ R.length := by
  have := nd_len h.nd (B := R.map (·.1)) fun x hx => by
    rcases Classical.em (x ∈ R.map (·.1)) with z | z
    · exact z
    · exact absurd (by rw [ht, tot_none z]) ((h.key x).mp hx)
  simpa using this
theorem OkR.append {R S : List (Ast × Int)} (h : OkR R) (k : OkR S) : OkR (R ++ S) := fun e he => (List.mem_append.mp he).elim (h e) (k e)
theorem OkR.neg {R : List (Ast × Int)} (h : OkR R) : OkR (R.map fun e => (e.1, -e.2)) := fun e he => by
  obtain ⟨f, hf, rfl⟩ := List.mem_map.mp he
  exact h f hf
end Bd

set_option Elab.async false
set_option linter.all false
set_option maxRecDepth 100000
set_option maxHeartbeats 4000000
/-! x != y by the object's own __ne__, which asks an own __eq__. -/
namespace Bd
open PySem PySem.W PySem.Calls PyProof.Rows
section
variable {prog : Program} {w : World} {A : Around} {E : Value → Shared → Prop} {s : Shared} {K : Frag} {x y C L f : Addr} {h₀ : Heap} {m : Str → Option Value} {ox oy : Obj} {od od' : Option Obj}
theorem ne_check {M : Model} {rest : List Value} {Q : Unit → Shared → Prop} (X : K.In s.heap) (I : InstAt s.heap x ox C od) (hso : subIn K (.ref C) (.type "object") = some true) (ha : argsOk "object.__ne__" ⟨.ref x :: rest, []⟩) (hq : Q () s) :
    wpAny M A (checkBuiltinCall "object.__ne__" ⟨.ref x :: rest, []⟩) Q E s := by
  simp only [checkBuiltinCall, PySem.F.cmpKind_ne, PySem.F.cmpSplit_ne]
  refine wpAny_bind ?_
  unfold isInstance
  refine wpAny_bind (I.type.here ?_)
  refine (looks_subIn X hso).here ?_
  cases hsig : Manifest.signature? "object.__ne__" with
  | none => 
    repeat (first | exact hq | wp_step)
  | some sig =>
    simp only [argsOk, hsig] at ha
    have h2 : Bind.checkArgs "object.__ne__" sig ⟨.ref x :: rest, []⟩ = pure () := ha
    simp only [if_true]
    rw [h2]
    repeat (first | exact hq | exact wpAny_pure hq | wp_step)
theorem ne_entry {Q : Fin → Shared → Prop} (X : K.In s.heap) (I : InstAt s.heap x ox C od) (hu : A.units < cLine) (hs : findIn K (.ref C) "__eq__" = some (some (.ref f))) (hf : isFn K (.ref f) = true)
    (hcall : wpAny (model prog w) A (call (.ref f) [.ref x, .ref y]) (fun v s' => ∃ b, v = .bool b ∧ Q (.done (.ret (.bool (!b)))) s') E s) :
    wpAny (model prog w) A (Builtin.«object.__ne__» ⟨[.ref x, .ref y], []⟩) Q E s := by
  unfold Builtin.«object.__ne__»
  repeat (first
    | with_reducible refine wpAny_cRoomFor hu ?_
    | (refine wpAny_bind (m := callSpecialIfBound? (.ref x) (Str.ofString "__eq__") [.ref y])
        (ifBound_K X I hs hf (wpAny_mono hcall (fun r s' hr => by
          obtain ⟨b, rfl, hq⟩ := hr
          repeat (first | exact hq | exact wpAny_pure hq | exact wpAny_truthy_bool hq | (refine wpAny_bind (m := truthy (.bool _)) (wpAny_truthy_bool ?_)) | wp_step)) fun _ _ e => e)))
    | wp_step)
theorem ne_K {Q : Value → Shared → Prop} (hu : A.units + 1 < cLine) (F : Fr h₀ L s.heap m) (X₀ : K.In h₀) (I : InstAt s.heap x ox C od) (J : InstAt s.heap y oy C od')
    (hne : findIn K (.ref C) "__ne__" = some (some (.builtin "object.__ne__"))) (hso : subIn K (.ref C) (.type "object") = some true)
    (hs : findIn K (.ref C) "__eq__" = some (some (.ref f))) (hf : isFn K (.ref f) = true)
    (h : wpAny (model prog w) A.in1 (call (.ref f) [.ref x, .ref y]) (fun v s' => ∃ b, v = .bool b ∧ Q (.bool (!b)) s') E s) :
    wpAny (model prog w) A (richCompare .NotEq (.ref x) (.ref y)) Q E s := by
  have X := X₀.keeps F.keep
  have bd : bindSpecial (.builtin "object.__ne__") (.ref x) = pure (.builtin "object.__ne__", [.ref x]) := PySem.F.cmp_object.ne.bind _
  have cl : wpAny (model prog w) A (call (.builtin "object.__ne__") [.ref x, .ref y]) (fun v s' => ∃ b, v = .bool b ∧ Q (.bool b) s') E s := by
    refine wpAny_call (codeAny_call_builtin PySem.F.cmp_object.ne.plain PySem.F.cmpEntry_ne (ne_check X I hso (PySem.F.cmpArgs_ne _ _) (ne_entry (A := A.in1) X I hu hs hf (wpAny_mono h (fun v s' hv => ?_) fun _ _ e => e))))
    obtain ⟨b, rfl, hq⟩ := hv
    exact ⟨b, rfl, _, rfl, hq⟩
  have one : wpAny (model prog w) A (tryCompare (.ref x) "__ne__" (.ref y)) (fun r s' => ∃ v, r = some v ∧ Q v s') E s := by
    unfold tryCompare
    refine wpAny_bind (Q := _) ?_
    simp only [callSpecialIfBound?, bindSpecialIfBound?]
    refine wpAny_holding (wpAny_bind (wpAny_bind (wpAny_bind (I.type.here ((looks_findIn X hne).here ?_)))))
    simp only [bd]
    refine wpAny_bind (wpAny_askSetting (wpAny_ite ?_))
    have fin : wpAny (model prog w) A (call (.builtin "object.__ne__") ([.ref x] ++ [.ref y]) >>= fun v => pure (some v)) (fun r s' => wpAny (model prog w) A (match r with | some .notImplemented | none => pure none | some r => pure (some r)) (fun r s' => ∃ v, r = some v ∧ Q v s') E s') E s :=
      wpAny_bind (wpAny_mono cl (fun v s' h' => by
        obtain ⟨b, rfl, hq⟩ := h'
        exact wpAny_pure (wpAny_pure ⟨_, rfl, hq⟩)) fun _ _ h' => h')
    split
    · exact wpAny_bind (wpAny_pure (wpAny_pure fin))
    · exact wpAny_tryCatch (wpAny_bind (wpAny_pure (wpAny_pure fin)))
  unfold richCompare
  simp only [oneThing_ref]
  refine wpAny_holding (wpAny_bind (wpAny_cRoomFor (Nat.lt_of_succ_lt hu) ?_))
  rw [cmpInfo_NotEq]
  dsimp only
  refine wpAny_bind (I.type.here (wpAny_bind (J.type.here ?_)))
  rw [show (Value.ref C != Value.ref C) = false from by simp]
  simp only [Bool.false_eq_true, if_false]
  refine wpAny_bind (wpAny_pure ?_)
  simp only [Bool.false_eq_true, if_false]
  refine wpAny_bind (wpAny_mono one (fun r s' z => ?_) fun _ _ e => e)
  obtain ⟨v, rfl, hq⟩ := z
  exact wpAny_pure hq
end
end Bd
namespace Bd
open PySem PySem.Spec PyProof.Rows L2
section
variable {X : Cx} {pins : List (Addr × Obj)} {σ : L2.St} {H : Hp} {s : Shared} {CT : CXT} {n : Nat} {C f : Addr} {fd : FuncData} {ps : List Str} {sp : Sp} {E : XK}
theorem call_def1 {vs : List V} {us : List Value} {Q : VK} (F : FnOk X.prog X.w X.K X.mg X.base CT n f fd ps sp) (hb : Binds X.K fd ps []) (hx : Passes CT X E) (hr : Room n X.A.in1) (I : Inv X pins σ H s) (r : Vals vs us) (hsp : sp vs H Q E) :
    wpAny (model X.prog X.w) X.A.in1 (call (.ref f) us) (EP X pins σ Q) X.xe s := by
  have hl := F.len _ _ _ _ hsp
  have hu : us.length = ps.length := by rw [← r.length]; exact hl
  refine wpAny_call (codeAny_mono (F.run X.A.in1 X.stack s H ⟨us, []⟩ us vs Q E hr I.env0.in1 (by
    have := hb s us I.kIn (by simpa using hu)
    simpa using this) r hsp) fun z s' hq => ?_)
  cases z with
  | error e => exact hx pins σ H s e s' I hq
  | ok fl =>
    cases fl with
    | ret w => exact I.after hq
    | next => exact False.elim hq
    | brk => exact False.elim hq
    | cont => exact False.elim hq
/-- x != y, both of the class at C -/
def rNeOwn (C : Addr) (sp : Sp) (E : XK) : R2 := fun x y H Q => ∃ a b dx dy fs gs, x = .ref a ∧ y = .ref b ∧ H a = some (.ins C dx fs) ∧ H b = some (.ins C dy gs) ∧ sp [.ref a, .ref b] H (fun v H' => ∃ t, v = .bl t ∧ Q (.bl (!t)) H') E
theorem op_neOwn (F : FnOk X.prog X.w X.K X.mg X.base CT n f fd ps sp) (hne : PySem.W.findIn X.K (.ref C) "__ne__" = some (some (.builtin "object.__ne__"))) (hso : PySem.W.subIn X.K (.ref C) (.type "object") = some true)
    (hs : PySem.W.findIn X.K (.ref C) "__eq__" = some (some (.ref f))) (hf : PySem.W.isFn X.K (.ref f) = true)
    (hb : Binds X.K fd ps []) (hx : Passes CT X E) (hr : Room (n + 1) X.A) : OpR X (compareOp .NotEq) (rNeOwn C sp E) := by
  intro pins s σ H x y v u Q I rx ry h
  obtain ⟨a, b, dx, dy, fs, gs, rfl, rfl, ha, hb', hsp⟩ := h
  obtain rfl : v = Value.ref a := rx
  obtain rfl : u = Value.ref b := ry
  obtain ⟨mA, J, _⟩ := ins_get I.hok ha
  obtain ⟨mB, J', _⟩ := ins_get I.hok hb'
  obtain ⟨od, J, _⟩ := J.look
  obtain ⟨od', J', _⟩ := J'.look
  obtain ⟨m, hF⟩ := I.fr
  show wpAny (model X.prog X.w) X.A (richCompare .NotEq (.ref a) (.ref b)) _ _ _
  refine ne_K (by have := hr.un; omega) hF I.ok.mod.kin J J' hne hso hs hf ?_
  refine wpAny_mono (call_def1 F hb hx hr.in1 I (vs := [.ref a, .ref b]) (.cons rfl (.cons rfl .nil)) hsp) (fun z s' q => ?_) fun _ _ e => e
  obtain ⟨v, H', I', r, t, rfl, q⟩ := q
  exact ⟨t, r, .bl (!t), H', I', rfl, q⟩
end
end Bd
namespace Rb
open PySem PySem.Spec PyProof.Rows L2 Bd
section
variable {K : PySem.W.Frag} {H : Hp} {Q : VK} {E : XK}
theorem own3 {C a b : Addr} {sp : Sp} (ha : ∃ dx fs, H a = some (.ins C dx fs)) (hb : ∃ dx fs, H b = some (.ins C dx fs)) (k : sp [.ref a, .ref b] H (fun v H' => ∃ t, v = .bl t ∧ Q (.bl (!t)) H') E) : rNeOwn C sp E (.ref a) (.ref b) H Q := by
  obtain ⟨dx, fs, ha⟩ := ha
  obtain ⟨dy, gs, hb⟩ := hb
  exact ⟨a, b, dx, dy, fs, gs, rfl, rfl, ha, hb, k⟩
end
end Rb
namespace Bd
open PySem PySem.Spec PyProof.Rows L2
/-- an empty tuple that stands with the classes -/
def emptyT (K : PySem.W.Frag) (a : Addr) : Bool := match K.lookup a with
  | some o => decide (o.cls = .type "tuple") && (o.dict.isNone && (match o.data with
    | .seq its _ => its.isEmpty
    | _ => false))
  | none => false
theorem emptyT_ok {K : PySem.W.Frag} {a : Addr} (h : emptyT K a = true) (H : Hp) : SqT K H a [] := by
  unfold emptyT at h
  split at h
  · rename_i o e
    rw [Bool.and_eq_true, Bool.and_eq_true] at h
    obtain ⟨h1, h2, h3⟩ := h
    split at h3
    · rename_i its n hd
      have e0 : its = #[] := by simpa using h3
      subst e0
      exact .inr ⟨o, #[], n, e, of_decide_eq_true h1, hd, by decide, .nil⟩
    · cases h3
  · cases h
def clsN : Str := "__class__"
def exE (K : PySem.W.Frag) (C : Addr) : Bool :=
  He.eqO (PySem.W.findIn K (.ref C) "__class__") (some (some (.builtin "object.__class__"))) &&
  (decide (PySem.W.specialIn K (.builtin "object.__class__") "__get__" = some (some (.builtin "getset_descriptor.__get__"))) &&
  (decide (PySem.W.takesIn K (.builtin "object.__class__") = some true) &&
  (decide (PySem.W.mroIn K C (.type "object") = some true) &&
  (decide (PySem.W.kitOne K (.ref C) (.ref C) = some true) &&
  (He.eqO (PySem.W.findIn K (.ref C) "__ne__") (some (some (.builtin "object.__ne__"))) &&
  (decide (PySem.W.subIn K (.ref C) (.type "object") = some true)))))))
/-- more of what is told of the class -/
structure BQ (K : PySem.W.Frag) (mg : Str → Option Value) : Prop where
  b : BFacts K mg
  isc : C8.InsC K (He.ga K "Bundle")
  ne : PySem.W.findIn K (.ref (He.ga K "Bundle")) "__ne__" = some (some (.builtin "object.__ne__"))
  ob : PySem.W.subIn K (.ref (He.ga K "Bundle")) (.type "object") = some true
  at_Bundle___eq : PySem.W.findIn K (.ref (He.ga K "Bundle")) "__eq__" = some (some (.ref (He.fAd K ("Bundle", some "__eq__"))))
  fn_Bundle___eq : PySem.W.isFn K (.ref (He.fAd K ("Bundle", some "__eq__"))) = true
  dfl : ∀ H, SqT K H (He.dflAt ("Bundle", some "__init__") 0 K) []
theorem BQ.mk' {K : PySem.W.Frag} {mg : Str → Option Value} (b : BFacts K mg) (h : exE K (He.ga K "Bundle") = true) (ha : PySem.W.findIn K (.ref (He.ga K "Bundle")) "__eq__" = some (some (.ref (He.fAd K ("Bundle", some "__eq__")))))
    (hf : PySem.W.isFn K (.ref (He.fAd K ("Bundle", some "__eq__"))) = true) (hd : emptyT K (He.dflAt ("Bundle", some "__init__") 0 K) = true) : BQ K mg := by
  unfold exE at h
  simp only [Bool.and_eq_true] at h
  obtain ⟨h1, h2, h3, h4, h5, h6, h7⟩ := h
  exact ⟨b, ⟨b.cls, He.eqO_ok h1, of_decide_eq_true h2, of_decide_eq_true h3, of_decide_eq_true h4, of_decide_eq_true h5⟩, He.eqO_ok h6, of_decide_eq_true h7, ha, hf, emptyT_ok hd⟩
theorem cut_drop {xs : List V} {k : Nat} (h : k ≤ xs.length) : cutV xs (some (k : Int)) none = xs.drop k := by
  unfold cutV
  have e1 : HT.sIx xs.length 0 (some (k : Int)) = k := by rw [HT.sIx_nat]; exact Nat.min_eq_left h
  have e2 : HT.sIx xs.length xs.length none = xs.length := by simp [HT.sIx]
  rw [e1, e2]
  exact List.take_of_length_le (by rw [List.length_drop]; omega)
end Bd

set_option Elab.async false
set_option linter.all false
set_option maxRecDepth 100000
set_option maxHeartbeats 4000000
/-! The rows of a bundle that are above nothing. -/
namespace Bd
open PySem PySem.Spec PyProof.Rows L2
def posF (D : List (Ast × Int)) : List (Ast × Int) := D.filter fun e => decide (0 < e.2)
variable {D : List (Ast × Int)}
theorem posF_nrm (h : Nrm D) : Nrm (posF D) := ⟨List.Pairwise.filter _ h.srt, (List.filter_sublist.map _).nodup h.nd, fun e he => h.nz e (List.mem_filter.mp he).1⟩
theorem posF_tot (h : Nrm D) (p : Ast) : tot (posF D) p = if 0 < tot D p then tot D p else 0 := by
  by_cases m : p ∈ (posF D).map (·.1)
  · obtain ⟨e, he, rfl⟩ := List.mem_map.mp m
    have h1 := List.mem_filter.mp he
    have h2 := of_decide_eq_true h1.2
    rw [tot_at (posF_nrm h).nd he, tot_at h.nd h1.1, if_pos h2]
  · rw [tot_none m]
    split
    · rename_i q
      have : p ∈ D.map (·.1) := (h.key p).mpr (by omega)
      obtain ⟨e, he, rfl⟩ := List.mem_map.mp this
      rw [tot_at h.nd he] at q
      exact absurd (List.mem_map_of_mem (f := (·.1)) (List.mem_filter.mpr ⟨he, decide_eq_true q⟩)) m
    · rfl
theorem posF_take {i : Nat} {e : Ast × Int} (h : D[i]? = some e) : posF (D.take (i + 1)) = posF (D.take i) ++ (if 0 < e.2 then [e] else []) := by
  unfold posF
  rw [List.take_add_one, h, List.filter_append]
  by_cases q : 0 < e.2 <;> simp [q]
theorem posF_len (D : List (Ast × Int)) : (posF D).length ≤ D.length := List.length_filter_le _ _
theorem posF_ok (h : OkR D) : OkR (posF D) := fun e he => h e (List.mem_filter.mp he).1
theorem posF_nil (h : Nrm D) : posF D = [] ↔ ∀ p, tot D p ≤ 0 := by
  constructor
  · intro e p
    have := posF_tot h p
    rw [e, show tot [] p = 0 from rfl] at this
    split at this <;> omega
  · intro q
    refine List.filter_eq_nil_iff.mpr fun e he => ?_
    have := q e.1
    rw [tot_at h.nd he] at this
    simp; omega
theorem allPos {L N M : List (Ast × Int)} (nm : Nrm L) (ht : ∀ p, tot L p = tot N p - tot M p) : (L.map fun e => decide (e.2 > 0)).all id = true ↔ ∀ p, tot M p ≤ tot N p := by
  rw [List.all_eq_true]
  constructor
  · intro h p
    have := ht p
    by_cases m : p ∈ L.map (·.1)
    · obtain ⟨e, he, rfl⟩ := List.mem_map.mp m
      have h1 := of_decide_eq_true (h _ (List.mem_map_of_mem (f := fun e : Ast × Int => decide (e.2 > 0)) he))
      rw [tot_at nm.nd he] at this
      omega
    · rw [tot_none m] at this; omega
  · intro h b hb
    obtain ⟨e, he, rfl⟩ := List.mem_map.mp hb
    have h1 := ht e.1
    rw [tot_at nm.nd he] at h1
    have h2 := nm.nz e he
    have h3 := h e.1
    exact decide_eq_true (by omega)
end Bd
namespace Rb
open PySem PySem.Spec PyProof.Rows L2 Bd
section
variable {K : PySem.W.Frag} {σ : L2.St} {H : Hp} {Q : VK}
theorem asgG {te : TE} {g : TG} {n b c : L2.St → Hp → Prop} {r : VK} (k : te σ H fun x H1 => g x σ H1 n) : tAsg te g ⟨n, r, b, c⟩ σ H := k
/-- [.. for target in a tuple if ..] -/
theorem lcTestT {a : Addr} {xs : List V} {g : TG} {tt : TT} {te : TE} {vs : List Nat} (Pv : Addr → Nat → List V → Hp → Prop) (h : SqT K H a xs) (h0 : ∀ D H', H D = none → Same H H' → H' D = some (.lst []) → Pv D 0 [] H')
    (hs : ∀ (i : Nat) (x : V) (acc : List V) (D : Addr) (H' : Hp), H D = none → Same H H' → xs[i]? = some x → acc.length ≤ i → H' D = some (.lst acc) → Pv D i acc H' →
      g x (wipe σ vs) H' fun σ2 H2 => wipe σ2 vs = wipe σ vs ∧ tt σ2 H2 fun b H3 => if b = true then te σ2 H3 fun y H4 => ∃ acc, H4 D = some (.lst acc) ∧ acc.length < sizeLine ∧ (fun H5 => ∃ acc, Same H H5 ∧ acc.length ≤ i + 1 ∧ H5 D = some (.lst acc) ∧ Pv D (i + 1) acc H5) (upd H4 D (.lst (acc ++ [y])))
        else (fun H5 => ∃ acc, Same H H5 ∧ acc.length ≤ i + 1 ∧ H5 D = some (.lst acc) ∧ Pv D (i + 1) acc H5) H3)
    (hd : ∀ D acc H', H D = none → Same H H' → H' D = some (.lst acc) → acc.length ≤ xs.length → Pv D xs.length acc H' → Q (.ref D) H') :
    ∃ p, V.ref a = .ref p ∧ (∃ ys, SqT K H p ys) ∧ Rd.LcJ g tt te vs σ Q (Itt K p) H := by
  refine ⟨a, rfl, ⟨_, h⟩, fun D hD => ?_⟩
  refine lc_tup (xs := xs) (fun i H' => ∃ acc, Same H H' ∧ acc.length ≤ i ∧ H' D = some (.lst acc) ∧ Pv D i acc H') ⟨[], Rd.same_new hD, Nat.le_refl _, upd_same, h0 D _ hD (Rd.same_new hD) upd_same⟩ (fun i H' _ ⟨acc, s, _⟩ => Rd.same_tup s h) ?_ ?_
  · rintro i x H' hi ⟨acc, s, e, hD', p⟩
    exact hs i x acc D H' hD s hi e hD' p
  · rintro H' ⟨acc, s, e, hD', p⟩
    exact hd D acc H' hD s hD' e p
/-- one more row at the end of the list that is made -/
theorem rowE {H0 H' : Hp} {Dd t kq : Addr} {i : Nat} {acc : List V} {R : List (Ast × Int)} {p : Ast} {q : Int} (hD : H0 Dd = none) (hs : Same H0 H') (hDl : H' Dd = some (.lst acc)) (ht : H' t = none) (hl : acc.length ≤ i) (hi : i < 100000)
    (hrow : RowL H' acc R) (hk : H' kq = some (.tup [.str p.1, .int p.2])) (Pv : Addr → Nat → List V → Hp → Prop) (hp : ∀ acc' H5, RowL H5 acc' (R ++ [(p, q)]) → Pv Dd (i + 1) acc' H5) :
    ∃ acc', (upd H' t (.tup [.ref kq, .int q])) Dd = some (.lst acc') ∧ acc'.length < sizeLine ∧ (fun H5 => ∃ acc, Same H0 H5 ∧ acc.length ≤ i + 1 ∧ H5 Dd = some (.lst acc) ∧ Pv Dd (i + 1) acc H5) (upd (upd H' t (.tup [.ref kq, .int q])) Dd (.lst (acc' ++ [.ref t]))) := by
  have nDt : Dd ≠ t := fun y => by rw [← y, hDl] at ht; cases ht
  refine ⟨acc, (upd_ne nDt).trans hDl, Rd.smallT (by omega), acc ++ [.ref t], Rd.same_mut (hs.trans (Rd.same_new ht)) hD, by rw [List.length_append]; simp; omega, upd_same, hp _ _ ?_⟩
  refine (hrow.keepT fun y w hy => ?_).append (.cons (kq := kq) ?_ ?_ .nil)
  · exact (upd_ne fun e => by rw [e, hDl] at hy; cases hy).trans (Rd.same_new ht _ _ hy)
  · exact (upd_ne (Ne.symm nDt)).trans upd_same
  · exact (upd_ne fun e => by rw [e, hDl] at hk; cases hk).trans (Rd.same_new ht _ _ hk)
end
end Rb
namespace Rb
open PySem PySem.Spec PyProof.Rows L2 Bd
section
variable {K : PySem.W.Frag} {σ : L2.St} {H : Hp} {Q : VK} {E : XK}
theorem meth {C : Addr} {m : Str} {sp : Sp} {ta : TE} {t : TA} (k : ta σ H fun x H1 => ∃ a dx fs, x = .ref a ∧ H1 a = some (.ins C dx fs) ∧ fs.lookup m = none ∧ t σ H1 fun vs H2 => sp (x :: (vs ++ [])) H2 Q E) : tMeth C m sp [] E ta t σ H Q := k
theorem mth {b : Addr} {N : List (Ast × Int)} {R : Prop} (h : BdAt K H b N) (k : R) : ∃ a dx fs, V.ref b = .ref a ∧ H a = some (.ins (He.ga K "Bundle") dx fs) ∧ fs.lookup ("covers" : Str) = none ∧ R := by
  obtain ⟨dx, r, d, xs, h1, _⟩ := h
  exact ⟨b, dx, _, rfl, h1, rfl, k⟩
end
end Rb
namespace Bd
open PySem PySem.Spec PyProof.Rows L2
theorem encRl_shaped {N : List (Ast × Int)} (h : OkR N) : SeqAt.shaped (.list (N.map encR)) = true := by
  have := encR_depth N
  unfold SeqAt.shaped
  simp only [PyData.canLay0, encR_lay N h, PyData.depth, Bool.true_and]
  exact decide_eq_true (by omega)
theorem eqv_nil {N : List (Ast × Int)} {t : Bool} (h : t = true ↔ N = []) : PyData.eqv (.bool t) (.bool (PyData.eqv (.list (N.map encR)) (.list []))) = true := by
  cases N with
  | nil => rw [h.mpr rfl]; simp [PyData.eqv, PyData.eqvAll]
  | cons e N =>
    have : t = false := by cases t; rfl; exact absurd (h.mp rfl) (by simp)
    rw [this]; simp [PyData.eqv, PyData.eqvAll]
end Bd

set_option Elab.async false
set_option linter.all false
set_option maxRecDepth 100000
set_option maxHeartbeats 4000000
/-! xs.extend of a tuple; x == a tuple, by an own __eq__. -/
namespace Bd
open PySem PySem.SeqAt
open AutoSeq1 MeetsSeq MeetsSeq2 MeetsSeq3 SeqRoads2
theorem ext_tup (l : Addr) (items : Array Value) (n : Nat) (b : Addr) (o : Obj) (items2 : Array Value) (n2 : Nat) (hc : o.cls = .type "tuple") (hd : o.data = .seq items2 n2) (hs0 : ¬(!items.isEmpty && Builtin.List.listTooLong (items.size + items2.size)) = true) (hs1 : items.size ≤ sizeLine) (hs2 : items.size + items2.size ≤ sizeLine + 1) :
    Meets (Builtin.«list.extend» ⟨[.ref l, .ref b], []⟩) (fun _ R s => s.heap.get? l = some { cls := .type "list", dict := none, data := .seq items n, slots := #[] } ∧ s.heap.get? b = some o ∧ R (.ok (.ret Value.none)) { s with heap := s.heap.update l (Obj.mapSeq fun x => x ++ items2), toks := s.toks }) :=
  .of_wp fun prog w A R s h => by
    obtain ⟨oc, od, dt, sl⟩ := o
    cases hc
    cases hd
    obtain ⟨hp, g, d, tk, os⟩ := s; obtain ⟨hl, hb, h⟩ := h; have f1 := idx_int; have f2 := sub_tuple_tuple; have f3 := sub_list_list; have f4 := sub_tuple_list; have f5 := sub_list_tuple;
    have hz' : (items ++ items2).size ≤ sizeLine + 1 := by rw [Array.size_append]; exact hs2
    wp_walk using (wpAny_updateSeq hl rfl (hz := hs1) (_hz' := hz')), wpAny_loadPart' hl, wpAny_loadPart' hb; exact ⟨_, rfl, h⟩
end Bd
namespace Bd
open PySem PySem.Spec PyProof.Rows L2
section
variable {X : Cx}
/-- xs.extend(t), t a tuple of the heap -/
def rExtendT : V → List V → Hp → VK → Prop := fun x vs H Q => ∃ l b xs zs, x = .ref l ∧ vs = [.ref b] ∧ H l = some (.lst xs) ∧ H b = some (.tup zs) ∧ xs.length + zs.length ≤ sizeLine ∧ Q .non (upd H l (.lst (xs ++ zs)))
theorem mt_extendT : MtM X "list.extend" rExtendT := by
  intro pins s σ H x vs v us Q I rx rv h
  obtain ⟨l, b, xs, zs, rfl, rfl, hH, hB, hz, q⟩ := h
  cases rx
  obtain ⟨u, rfl, ru⟩ := rv.one
  cases ru
  obtain ⟨z, its, n, r, hl, e⟩ := I.lstM hH
  obtain ⟨_, its2, r2, o, ho, hc, n2, hd⟩ := (show ObjOk X.prog X.w H s.heap b (.tup zs) from I.hok b _ hB)
  have l2 := r2.length
  have hsz : its.toArray.size + its2.toArray.size ≤ sizeLine := by rw [List.size_toArray, List.size_toArray]; omega
  have hlong : ¬ (!its.toArray.isEmpty && Builtin.List.listTooLong (its.toArray.size + its2.toArray.size)) = true := by
    rw [notLongL hsz, Bool.and_false]
    exact Bool.false_ne_true
  refine call_meets F.slot_list_extend ⟨_, e, rfl⟩ F.entry_list_extend (F.args_list_extend_2 _ _)
    (ext_tup l its.toArray n b o its2.toArray n2 hc hd hlong (by rw [List.size_toArray]; omega) (by omega)) ⟨e, ho, ?_⟩
  refine ⟨.non, _, I.lset (its' := its ++ its2) hH e (by simp) (r.append r2) ?_, rfl, q⟩
  rw [List.length_append]
  omega
end
section
variable {X : Cx} {CT : CXT} {n : Nat} {C f : Addr} {fd : FuncData} {ps : List Str} {sp : Sp} {E : XK}
/-- x == t, x of the class at C, t a tuple of the heap -/
def rEqTup (C : Addr) (sp : Sp) (E : XK) : R2 := fun x y H Q => ∃ a b dx fs ys, x = .ref a ∧ y = .ref b ∧ H a = some (.ins C dx fs) ∧ H b = some (.tup ys) ∧ sp [.ref a, .ref b] H Q E
theorem op_eqTup (F : FnOk X.prog X.w X.K X.mg X.base CT n f fd ps sp) (hs : PySem.W.findIn X.K (.ref C) "__eq__" = some (some (.ref f))) (hf : PySem.W.isFn X.K (.ref f) = true) (hsub : PySem.W.subIn X.K (.type "tuple") (.ref C) = some false)
    (hb : Binds X.K fd ps []) (hx : Passes CT X E) (hr : Room n X.A) : OpR X (compareOp .Eq) (rEqTup C sp E) := by
  intro pins s σ H x y v u Q I rx ry h
  obtain ⟨a, b, dx, fs, ys, rfl, rfl, ha, hb', hsp⟩ := h
  obtain rfl : v = Value.ref a := rx
  obtain rfl : u = Value.ref b := ry
  obtain ⟨mA, J, _⟩ := ins_get I.hok ha
  obtain ⟨od, J, _⟩ := J.look
  obtain ⟨_, its, r, o, ho, hc, n, hd⟩ := (show ObjOk X.prog X.w H s.heap b (.tup ys) from I.hok b _ hb')
  obtain ⟨m, hF⟩ := I.fr
  show wpAny (model X.prog X.w) X.A (richCompare .Eq (.ref a) (.ref b)) _ _ _
  refine PySem.W.cmp_K (op := .Eq) (tb := .type "tuple") hr.units0 hF I.ok.mod.kin J (hc ▸ (PySem.W.Looks.ld ho).andThen .now) (by simp [PySem.W.notFirst, hsub]) hs hf ?_
  exact wpAny_mono (call_def F hb hx hr I (vs := [.ref a, .ref b]) (.cons rfl (.cons rfl .nil)) hsp) (fun _ _ h => back_ep h) fun _ _ e => e
end
end Bd
namespace Bd
open PySem PySem.Spec PyProof.Rows L2
theorem encR_eqv2 (e f : Ast × Int) : PyData.eqv (encR e) (encR f) = decide (e = f) := by
  have : (e = f) ↔ ((e.1.1 = f.1.1 ∧ e.1.2 = f.1.2) ∧ e.2 = f.2) := ⟨fun h => by rw [h]; exact ⟨⟨rfl, rfl⟩, rfl⟩, fun h => Prod.ext (Prod.ext h.1.1 h.1.2) h.2⟩
  simp only [encR, PyData.eqv, PyData.eqvAll, Bool.and_true]
  rw [Bool.eq_iff_iff]
  simp [this]
theorem encRs_eqv : ∀ (N M : List (Ast × Int)), PyData.eqv (.tuple (N.map encR)) (.tuple (M.map encR)) = decide (N = M)
  | [], [] => by simp [PyData.eqv, PyData.eqvAll]
  | [], f :: M => by simp [PyData.eqv, PyData.eqvAll]
  | e :: N, [] => by simp [PyData.eqv, PyData.eqvAll]
  | e :: N, f :: M => by
    have h := encRs_eqv N M
    simp only [PyData.eqv] at h ⊢
    simp only [List.map_cons, PyData.eqvAll, encR_eqv2, h]
    rw [Bool.eq_iff_iff]
    simp
end Bd
namespace Rb
open PySem PySem.Spec PyProof.Rows L2 Bd
theorem ext {K : PySem.W.Frag} {σ : L2.St} {H : Hp} {to : TE} {t : TA} {Q : VK} (k : to σ H fun x H1 => tyV K "list" x H1 ∧ t σ H1 fun xs H2 => rExtendT x xs H2 Q) : tBM K "list" rExtendT to t σ H Q := k
end Rb

set_option Elab.async false
set_option linter.all false
set_option maxRecDepth 100000
/-! Data: values that are trees of ints, texts, tuples; comprehensions and loops over them. -/
namespace Dj
open PySem PySem.Spec PyProof.Rows L2
mutual
/-- no list and no dict anywhere -/
def nl : PyData → Bool
  | .none | .bool _ | .int _ | .str _ => true
  | .tuple ds => nlAll ds
  | .list _ | .dict _ => false
def nlAll : List PyData → Bool
  | [] => true
  | d :: ds => nl d && nlAll ds
end
theorem nlAll_mem : ∀ {ds : List PyData}, nlAll ds = true ↔ ∀ d ∈ ds, nl d = true
  | [] => by simp [nlAll]
  | d :: ds => by simp only [nlAll, Bool.and_eq_true, List.mem_cons, forall_eq_or_imp, nlAll_mem (ds := ds)]
/-- what is no list stays -/
def SameT (H H' : Hp) : Prop := ∀ a o, H a = some o → (∀ l, o ≠ .lst l) → H' a = some o
theorem SameT.refl (H : Hp) : SameT H H := fun _ _ h _ => h
theorem SameT.of {H H' : Hp} (e : Same H H') : SameT H H' := fun a o h _ => e a o h
theorem SameT.trans {H H1 H2 : Hp} (a : SameT H H1) (b : SameT H1 H2) : SameT H H2 := fun c o h n => b c o (a c o h n) n
theorem SameT.put {H : Hp} {p : Addr} {l : List V} {o : HO} (h : H p = some (.lst l)) : SameT H (L2.upd H p o) := fun a u ha n => by
  rw [upd_ne fun e => by subst e; rw [h] at ha; exact n l (Option.some.inj ha).symm]
  exact ha
theorem SameT.new {H : Hp} {p : Addr} {o : HO} (h : H p = none) : SameT H (upd H p o) := .of (Rd.same_new h)
theorem sqT_keep {K : PySem.W.Frag} {H H' : Hp} {a : Addr} {xs : List V} (e : SameT H H') (h : SqT K H a xs) : SqT K H' a xs := by
  rcases h with (h | ⟨o, h⟩) | h
  · exact .inl (.inl (e _ _ h fun l => by simp))
  · exact .inl (.inr ⟨o, e _ _ h fun l => by simp⟩)
  · exact .inr h
theorem dp_keep {K : PySem.W.Frag} {H H' : Hp} (e : SameT H H') : ∀ {x : V} {d : PyData}, nl d = true → Dp K H x d → Dp K H' x d
  | _, _, _, .non => .non
  | _, _, _, .bl b => .bl b
  | _, _, _, .int i => .int i
  | _, _, _, .str x => .str x
  | _, _, n, .lst h a => by simp [nl] at n
  | _, _, n, .tup h a => .tup (sqT_keep e h) (go e (by simpa [nl] using n) a)
where go {K : PySem.W.Frag} {H H' : Hp} (e : SameT H H') : ∀ {xs : List V} {ds : List PyData}, nlAll ds = true → DpAll K H xs ds → DpAll K H' xs ds
  | _, _, _, .nil => .nil
  | _, _, n, .cons h t => .cons (dp_keep e (by simp only [nlAll, Bool.and_eq_true] at n; exact n.1) h) (go e (by simp only [nlAll, Bool.and_eq_true] at n; exact n.2) t)
theorem dpAll_keep {K : PySem.W.Frag} {H H' : Hp} (e : SameT H H') {xs : List V} {ds : List PyData} (n : nlAll ds = true) (h : DpAll K H xs ds) : DpAll K H' xs ds := dp_keep.go e n h
theorem dpAll_same {K : PySem.W.Frag} {H H' : Hp} (e : Same H H') {xs : List V} {ds : List PyData} (h : DpAll K H xs ds) : DpAll K H' xs ds := Rd.dp_same.go e h
theorem dpAll_app {K : PySem.W.Frag} {H : Hp} : ∀ {xs ys : List V} {ds es : List PyData}, DpAll K H xs ds → DpAll K H ys es → DpAll K H (xs ++ ys) (ds ++ es)
  | _, _, _, _, .nil, k => k
  | _, _, _, _, .cons h t, k => .cons h (dpAll_app t k)
theorem dpAll_one {K : PySem.W.Frag} {H : Hp} {x : V} {d : PyData} (h : Dp K H x d) : DpAll K H [x] [d] := .cons h .nil
theorem dpAll_at {K : PySem.W.Frag} {H : Hp} : ∀ {xs : List V} {ds : List PyData}, DpAll K H xs ds → ∀ {i : Nat} {x : V}, xs[i]? = some x → ∃ d, ds[i]? = some d ∧ Dp K H x d
  | _, _, .nil, i, x, h => by simp at h
  | _, _, .cons h t, 0, x, e => by simp only [List.getElem?_cons_zero, Option.some.injEq] at e; subst e; exact ⟨_, rfl, h⟩
  | _, _, .cons h t, i + 1, x, e => by simp only [List.getElem?_cons_succ] at e ⊢; exact dpAll_at t e
theorem dpAll_ints {K : PySem.W.Frag} {H : Hp} : ∀ {xs : List V} {ns : List Int}, DpAll K H xs (ns.map PyData.int) → xs = ns.map V.int
  | _, [], .nil => rfl
  | _, n :: ns, .cons h t => by cases h; rw [dpAll_ints t]; rfl
theorem dp_ints {K : PySem.W.Frag} {H : Hp} : ∀ {ns : List Int}, DpAll K H (ns.map V.int) (ns.map PyData.int)
  | [] => .nil
  | n :: ns => .cons (.int n) dp_ints
theorem dp_pair {K : PySem.W.Frag} {H : Hp} {x : V} {d e : PyData} (h : Dp K H x (.tuple [d, e])) : ∃ z u v, x = .ref z ∧ SqT K H z [u, v] ∧ Dp K H u d ∧ Dp K H v e := by
  cases h with
  | tup h a => cases a with | cons h1 t => cases t with | cons h2 t2 => cases t2; exact ⟨_, _, _, rfl, h, h1, h2⟩
theorem dp_triple {K : PySem.W.Frag} {H : Hp} {x : V} {d e f : PyData} (h : Dp K H x (.tuple [d, e, f])) : ∃ z u v y, x = .ref z ∧ SqT K H z [u, v, y] ∧ Dp K H u d ∧ Dp K H v e ∧ Dp K H y f := by
  cases h with
  | tup h a => cases a with | cons h1 t => cases t with | cons h2 t2 => cases t2 with | cons h3 t3 => cases t3; exact ⟨_, _, _, _, rfl, h, h1, h2, h3⟩
theorem dp_tup {K : PySem.W.Frag} {H : Hp} {x : V} {ds : List PyData} (h : Dp K H x (.tuple ds)) : ∃ z us, x = .ref z ∧ SqT K H z us ∧ DpAll K H us ds := by
  cases h with | tup h a => exact ⟨_, _, rfl, h, a⟩
theorem dp_lst {K : PySem.W.Frag} {H : Hp} {x : V} {ds : List PyData} (h : Dp K H x (.list ds)) : ∃ z us, x = .ref z ∧ SqL K H z us ∧ DpAll K H us ds := by
  cases h with | lst h a => exact ⟨_, _, rfl, h, a⟩
theorem dp_int {K : PySem.W.Frag} {H : Hp} {x : V} {i : Int} (h : Dp K H x (.int i)) : x = .int i := by cases h; rfl
theorem dp_str {K : PySem.W.Frag} {H : Hp} {x : V} {i : Str} (h : Dp K H x (.str i)) : x = .str i := by cases h; rfl
theorem dp_bool {K : PySem.W.Frag} {H : Hp} {x : V} {i : Bool} (h : Dp K H x (.bool i)) : x = .bl i := by cases h; rfl
theorem dp_none {K : PySem.W.Frag} {H : Hp} {x : V} (h : Dp K H x .none) : x = .non := by cases h; rfl
theorem push {K : PySem.W.Frag} {H H4 : Hp} {r : Addr} {xs ys : List V} {ds : List PyData} {v : V} {d : PyData} {o : HO} (hx : DpAll K H xs ds) (n : nlAll ds = true) (s : Same H H4) (hr : H4 r = some (.lst ys)) (hv : Dp K H4 v d) (nd : nl d = true) : DpAll K (L2.upd H4 r o) (xs ++ [v]) (ds ++ [d]) :=
  dpAll_app (dpAll_keep (SameT.trans (.of s) (.put hr)) n hx) (dpAll_one (dp_keep (.put hr) nd hv))
theorem nlMap {α : Type} {R : List α} {f : α → PyData} (h : ∀ e, nl (f e) = true) : nlAll (R.map f) = true := nlAll_mem.mpr fun d hd => by
  obtain ⟨e, _, rfl⟩ := List.mem_map.mp hd
  exact h e
/-! equality -/
mutual
/-- no truth and no dict anywhere: equal are the same ones alone -/
def nb : PyData → Bool
  | .none | .int _ | .str _ => true
  | .tuple ds | .list ds => nbAll ds
  | .bool _ | .dict _ => false
def nbAll : List PyData → Bool
  | [] => true
  | d :: ds => nb d && nbAll ds
end
theorem nbAll_mem : ∀ {ds : List PyData}, nbAll ds = true ↔ ∀ d ∈ ds, nb d = true
  | [] => by simp [nbAll]
  | d :: ds => by simp only [nbAll, Bool.and_eq_true, List.mem_cons, forall_eq_or_imp, nbAll_mem (ds := ds)]
mutual
theorem eqv_nb : ∀ (d e : PyData), nb d = true → nb e = true → (PyData.eqv d e = true ↔ d = e)
  | .none, e, _, h => by cases e <;> simp_all [PyData.eqv, nb]
  | .int i, e, _, h => by cases e <;> simp_all [PyData.eqv, nb]
  | .str i, e, _, h => by cases e <;> simp_all [PyData.eqv, nb]
  | .bool _, _, h, _ => by simp [nb] at h
  | .dict _, _, h, _ => by simp [nb] at h
  | .list xs, e, h, k => by
    cases e with
    | list ys => simp only [nb] at h k; simp only [PyData.eqv, eqv_nbAll xs ys h k, PyData.list.injEq]
    | _ => simp_all [PyData.eqv, nb]
  | .tuple xs, e, h, k => by
    cases e with
    | tuple ys => simp only [nb] at h k; simp only [PyData.eqv, eqv_nbAll xs ys h k, PyData.tuple.injEq]
    | _ => simp_all [PyData.eqv, nb]
theorem eqv_nbAll : ∀ (xs ys : List PyData), nbAll xs = true → nbAll ys = true → (PyData.eqvAll xs ys = true ↔ xs = ys)
  | [], [], _, _ => by simp [PyData.eqvAll]
  | [], _ :: _, _, _ => by simp [PyData.eqvAll]
  | _ :: _, [], _, _ => by simp [PyData.eqvAll]
  | x :: xs, y :: ys, h, k => by
    simp only [nbAll, Bool.and_eq_true] at h k
    simp only [PyData.eqvAll, Bool.and_eq_true, eqv_nb x y h.1 k.1, eqv_nbAll xs ys h.2 k.2, List.cons.injEq]
end
mutual
/-- no dict anywhere: each is equal to itself -/
def nd : PyData → Bool
  | .none | .int _ | .str _ | .bool _ => true
  | .tuple ds | .list ds => ndAll ds
  | .dict _ => false
def ndAll : List PyData → Bool
  | [] => true
  | d :: ds => nd d && ndAll ds
end
mutual
theorem eqv_self : ∀ (d : PyData), nd d = true → PyData.eqv d d = true
  | .none, _ => by simp [PyData.eqv]
  | .int i, _ => by simp [PyData.eqv]
  | .str i, _ => by simp [PyData.eqv]
  | .bool _, h => by simp [PyData.eqv]
  | .dict _, h => by simp [nd] at h
  | .list xs, h => by simp only [nd] at h; simp only [PyData.eqv, eqv_selfAll xs h]
  | .tuple xs, h => by simp only [nd] at h; simp only [PyData.eqv, eqv_selfAll xs h]
theorem eqv_selfAll : ∀ (xs : List PyData), ndAll xs = true → PyData.eqvAll xs xs = true
  | [], _ => by simp [PyData.eqvAll]
  | x :: xs, h => by
    simp only [ndAll, Bool.and_eq_true] at h
    simp only [PyData.eqvAll, eqv_self x h.1, eqv_selfAll xs h.2, Bool.and_self]
end
/-! shape -/
theorem lay_mem : ∀ {ds : List PyData}, PyData.canLayAll0 ds = true ↔ ∀ d ∈ ds, PyData.canLay0 d = true
  | [] => by simp [PyData.canLayAll0]
  | d :: ds => by simp only [PyData.canLayAll0, Bool.and_eq_true, List.mem_cons, forall_eq_or_imp, lay_mem (ds := ds)]
theorem depth_mem {n : Nat} : ∀ {ds : List PyData}, PyData.depthAll ds ≤ n ↔ ∀ d ∈ ds, PyData.depth d ≤ n
  | [] => by simp [PyData.depthAll]
  | d :: ds => by simp only [PyData.depthAll, Nat.max_le, List.mem_cons, forall_eq_or_imp, depth_mem (ds := ds)]
/-- good and at most so deep -/
def Sh (n : Nat) (d : PyData) : Prop := PyData.canLay0 d = true ∧ PyData.depth d ≤ n
theorem Sh.shaped {n : Nat} {d : PyData} (h : Sh n d) (hn : n ≤ 64) : SeqAt.shaped d = true := by
  unfold SeqAt.shaped
  rw [h.1, Bool.true_and]
  exact decide_eq_true (Nat.le_trans h.2 hn)
theorem Sh.int (i : Int) (n : Nat) : Sh n (.int i) := ⟨by simp [PyData.canLay0], by simp [PyData.depth]⟩
theorem Sh.bool (i : Bool) (n : Nat) : Sh n (.bool i) := ⟨by simp [PyData.canLay0], by simp [PyData.depth]⟩
theorem Sh.none (n : Nat) : Sh n .none := ⟨by simp [PyData.canLay0], by simp [PyData.depth]⟩
theorem Sh.str {x : Str} (n : Nat) (h : PyData.strOk x = true) : Sh n (.str x) := ⟨by simpa [PyData.canLay0] using h, by simp [PyData.depth]⟩
theorem Sh.tuple {n : Nat} {ds : List PyData} (h : ∀ d ∈ ds, Sh n d) : Sh (n + 1) (.tuple ds) := ⟨by simp only [PyData.canLay0]; exact lay_mem.mpr fun d hd => (h d hd).1, by simp only [PyData.depth]; exact Nat.succ_le_succ (depth_mem.mpr fun d hd => (h d hd).2)⟩
theorem Sh.list {n : Nat} {ds : List PyData} (h : ∀ d ∈ ds, Sh n d) : Sh (n + 1) (.list ds) := ⟨by simp only [PyData.canLay0]; exact lay_mem.mpr fun d hd => (h d hd).1, by simp only [PyData.depth]; exact Nat.succ_le_succ (depth_mem.mpr fun d hd => (h d hd).2)⟩
theorem Sh.mono {n m : Nat} {d : PyData} (h : Sh n d) (hm : n ≤ m) : Sh m d := ⟨h.1, Nat.le_trans h.2 hm⟩
theorem gN {σ : L2.St} {H : Hp} {i : Nat} {x : V} {Qd : L2.St → Hp → Prop} (k : Qd (σ.set i (some x)) H) : gName i x σ H Qd := k
theorem dpS {K : PySem.W.Frag} {H H' : Hp} {xs : List V} {ds : List PyData} (h : DpAll K H xs ds) (e : Same H H') : DpAll K H' xs ds := dpAll_same e h
theorem dpS1 {K : PySem.W.Frag} {H H' : Hp} {x : V} {d : PyData} (h : Dp K H x d) (e : Same H H') : Dp K H' x d := Rd.dp_same e h
theorem sat {H0 H : Hp} {a : Addr} {o : HO} (s : Same H0 H) (h : H0 a = some o) : H a = some o := s _ _ h
theorem satL {K : PySem.W.Frag} {H0 H : Hp} {a : Addr} {xs : List V} (s : Same H0 H) (h : SqL K H0 a xs) : SqL K H a xs := s.seq h
theorem satT {K : PySem.W.Frag} {H0 H : Hp} {a : Addr} {xs : List V} (s : Same H0 H) (h : SqT K H0 a xs) : SqT K H a xs := Rd.same_tup s h
theorem fldK {K : PySem.W.Frag} {H : Hp} {Q : VK} {a C dx : Addr} {fs : List (Str × V)} {f : Str} {v : V} (h : H a = some (.ins C dx fs)) (c : Cls K C) (n : NoAttr K C f) (l : fs.lookup f = some v) (k : Q v H) :
    ∃ a' C' dx' fs' v', V.ref a = .ref a' ∧ H a' = some (.ins C' dx' fs') ∧ Cls K C' ∧ NoAttr K C' f ∧ fs'.lookup f = some v' ∧ Q v' H := ⟨a, C, dx, fs, v, rfl, h, c, n, l, k⟩
/-! tests whose outcome is known -/
theorem iteDt {p : Prop} [Decidable p] {A B : Prop} (h : p) (k : A) : if decide p = true then A else B := by rw [decide_eq_true h]; exact Rd.iteT k
theorem iteDf {p : Prop} [Decidable p] {A B : Prop} (h : ¬ p) (k : B) : if decide p = true then A else B := by rw [decide_eq_false h]; exact Rd.iteF k
theorem iteNt {p : Prop} [Decidable p] {A B : Prop} (h : ¬ p) (k : A) : if (!decide p) = true then A else B := by rw [decide_eq_false h]; exact Rd.iteT k
theorem iteNf {p : Prop} [Decidable p] {A B : Prop} (h : p) (k : B) : if (!decide p) = true then A else B := by rw [decide_eq_true h]; exact Rd.iteF k
/-! drawn numbers -/
def B3 (ns : List Int) : Prop := ∀ x ∈ ns, 0 ≤ x ∧ x < 1000
theorem B3.app {ns ms : List Int} (h : B3 ns) (k : B3 ms) : B3 (ns ++ ms) := fun x hx => (List.mem_append.mp hx).elim (h x) (k x)
theorem B3.drop {ns : List Int} (h : B3 ns) (n : Nat) : B3 (ns.drop n) := fun x hx => h x (List.mem_of_mem_drop hx)
theorem B3.take {ns : List Int} (h : B3 ns) (n : Nat) : B3 (ns.take n) := fun x hx => h x (List.mem_of_mem_take hx)
theorem B3.nil : B3 [] := fun _ h => absurd h List.not_mem_nil
theorem B3.push {ns : List Int} {x : Int} (h : B3 ns) (hx : 0 ≤ x ∧ x < 1000) : B3 (ns ++ [x]) := h.app fun y hy => by rw [List.mem_singleton.mp hy]; exact hx
section
variable {K : PySem.W.Frag} {H : Hp} {Q : VK} {l : Addr} {ns : List Int} {i : Int}
theorem ixB (h : SqL K H l (ns.map V.int)) (hb : B3 ns) (h0 : 0 ≤ i) (h1 : i < (ns.length : Int)) (k : ∀ v : Int, 0 ≤ v → v < 1000 → Q (.int v) H) : rIxL K (.ref l) (.int i) H Q := by
  have hg := hb (ns.getD i.toNat 0) (by
    have h2 : i.toNat < ns.length := by omega
    rw [List.getD_eq_getElem?_getD, List.getElem?_eq_getElem h2]
    exact List.getElem_mem h2)
  exact Rd.ixL h (Rd.atI_ints h0 h1) (k _ hg.1 hg.2)
theorem ixBm (h : SqL K H l (ns.map V.int)) (hb : B3 ns) (hn : 0 < ns.length) (k : ∀ v : Int, 0 ≤ v → v < 1000 → Q (.int v) H) : rIxL K (.ref l) (.int (i % (ns.length : Int))) H Q :=
  ixB h hb (Int.emod_nonneg _ (by omega)) (Int.emod_lt_of_pos i (by omega)) k
theorem ixAll {xs : List V} (P : V → Prop) (h : SqL K H l xs) (h0 : 0 ≤ i) (h1 : i < (xs.length : Int)) (hp : ∀ v ∈ xs, P v) (k : ∀ v, P v → Q v H) : rIxL K (.ref l) (.int i) H Q := Rd.ixLmem h h0 h1 fun v hv => k v (hp v hv)
theorem modBd {a lo hi : Int} (h : lo ≤ hi) : lo ≤ lo + a % (hi - lo + 1) ∧ lo + a % (hi - lo + 1) ≤ hi := by
  have h1 := Int.emod_nonneg a (b := hi - lo + 1) (by omega)
  have h2 := Int.emod_lt_of_pos a (b := hi - lo + 1) (by omega)
  omega
/-- an item of a list of ints, only that it is an int -/
theorem ixI (h : SqL K H l (ns.map V.int)) (h0 : 0 ≤ i) (h1 : i < (ns.length : Int)) (k : ∀ v : Int, Q (.int v) H) : rIxL K (.ref l) (.int i) H Q := Rd.ixL h (Rd.atI_ints h0 h1) (k _)
theorem lenI {n : Nat} (h : SqL K H l (ns.map V.int)) (e : ns.length = n) (k : Q (.int n) H) : Rd.LenK K [.ref l] H Q := Rd.lenL h (by rw [List.length_map]; exact e) k
end
section
variable {K : PySem.W.Frag} {H : Hp} {Q : VK} {x y : V} {d : PyData}
theorem neSame (h1 : Dp K H x d) (h2 : Dp K H y d) (n : nd d = true) (s : SeqAt.shaped d = true) (k : Q (.bl false) H) : rNeD K x y H Q := ⟨d, d, h1, h2, s, s, by rw [eqv_self d n]; exact k⟩
theorem eqSame (h1 : Dp K H x d) (h2 : Dp K H y d) (n : nd d = true) (s : SeqAt.shaped d = true) (k : Q (.bl true) H) : rEqD K x y H Q := ⟨d, d, h1, h2, s, s, by rw [eqv_self d n]; exact k⟩
end
theorem ndAll_mem : ∀ {ds : List PyData}, ndAll ds = true ↔ ∀ d ∈ ds, nd d = true
  | [] => by simp [ndAll]
  | d :: ds => by simp only [ndAll, Bool.and_eq_true, List.mem_cons, forall_eq_or_imp, ndAll_mem (ds := ds)]
theorem ndMap {α : Type} {R : List α} {f : α → PyData} (h : ∀ e, nd (f e) = true) : ndAll (R.map f) = true := ndAll_mem.mpr fun d hd => by
  obtain ⟨e, _, rfl⟩ := List.mem_map.mp hd
  exact h e
/-! comprehensions over data -/
section
variable {K : PySem.W.Frag} {σ : L2.St} {H : Hp} {Q : VK} {α : Type}
theorem map_at {R : List α} {f : α → PyData} {i : Nat} {d : PyData} (h : (R.map f)[i]? = some d) : ∃ e, R[i]? = some e ∧ f e = d := by
  rw [List.getElem?_map] at h
  cases q : R[i]? with
  | none => rw [q] at h; cases h
  | some e => rw [q] at h; exact ⟨e, rfl, Option.some.inj h⟩
theorem take_map {β : Type} {R : List α} {f : α → β} {i : Nat} {e : α} (h : R[i]? = some e) : (R.take (i + 1)).map f = (R.take i).map f ++ [f e] := by
  rw [List.take_add_one, h, List.map_append]; rfl
theorem lcD {a : Addr} {xs : List V} {g : TG} {te : TE} {vs : List Nat} {R : List α} (enc : α → PyData) (F : α → PyData) (h : SqL K H a xs) (hx : DpAll K H xs (R.map enc)) (hl : xs.length ≤ 100000) (hn : ∀ e ∈ R, nl (F e) = true)
    (hs : ∀ (e : α) (x : V) (D : Addr) (acc : List V) (H' : Hp) (C : VK), H D = none → Same H H' → e ∈ R → Dp K H' x (enc e) → H' D = some (.lst acc) → (∀ y H3, Same H' H3 → Dp K H3 y (F e) → C y H3) →
      g x (wipe σ vs) H' fun σ2 H2 => wipe σ2 vs = wipe σ vs ∧ te σ2 H2 C)
    (hd : ∀ D acc H', H D = none → Same H H' → H' D = some (.lst acc) → DpAll K H' acc (R.map F) → Q (.ref D) H') :
    ∃ p, V.ref a = .ref p ∧ (∃ ys, SqL K H p ys) ∧ Rd.LcJ g tYes te vs σ Q (Itl K p) H := by
  have hxl := Rd.dpAll_len hx
  rw [List.length_map] at hxl
  refine Rb.lcL2 (fun D i acc H' => DpAll K H' acc ((R.take i).map F)) h (fun D H' _ _ _ => .nil) ?_ ?_
  · intro i x acc D H' hD s hi hl2 hDl hacc
    obtain ⟨d, hd2, hdp⟩ := dpAll_at hx hi
    obtain ⟨e, he, rfl⟩ := map_at hd2
    have hi2 : i < xs.length := (List.getElem?_eq_some_iff.mp hi).1
    refine hs e x D acc H' _ hD s (List.mem_of_getElem? he) (Rd.dp_same s hdp) hDl fun y H3 s3 hy => ?_
    refine Rd.lcE hD (s3 _ _ hDl) (s.trans s3) hl2 (by omega) ?_
    have st : SameT H3 (upd H3 D (.lst (acc ++ [y]))) := .put (s3 _ _ hDl)
    rw [take_map he]
    refine dpAll_app (dpAll_keep (SameT.trans (.of s3) st) ?_ hacc) (dpAll_one (dp_keep st (hn e (List.mem_of_getElem? he)) hy))
    refine nlAll_mem.mpr fun d hd => ?_
    obtain ⟨e', he', rfl⟩ := List.mem_map.mp hd
    exact hn e' (List.mem_of_mem_take he')
  · intro D acc H' hD s hDl hal hacc
    rw [hxl, List.take_length] at hacc
    exact hd D acc H' hD s hDl hacc
theorem lcDT {a : Addr} {xs : List V} {g : TG} {te : TE} {vs : List Nat} {R : List α} (enc : α → PyData) (F : α → PyData) (h : SqT K H a xs) (hx : DpAll K H xs (R.map enc)) (hl : xs.length ≤ 100000) (hn : ∀ e ∈ R, nl (F e) = true)
    (hs : ∀ (e : α) (x : V) (D : Addr) (acc : List V) (H' : Hp) (C : VK), H D = none → Same H H' → e ∈ R → Dp K H' x (enc e) → H' D = some (.lst acc) → (∀ y H3, Same H' H3 → Dp K H3 y (F e) → C y H3) →
      g x (wipe σ vs) H' fun σ2 H2 => wipe σ2 vs = wipe σ vs ∧ te σ2 H2 C)
    (hd : ∀ D acc H', H D = none → Same H H' → H' D = some (.lst acc) → DpAll K H' acc (R.map F) → Q (.ref D) H') :
    ∃ p, V.ref a = .ref p ∧ (∃ ys, SqT K H p ys) ∧ Rd.LcJ g tYes te vs σ Q (Itt K p) H := by
  have hxl := Rd.dpAll_len hx
  rw [List.length_map] at hxl
  refine Rb.lcT (fun D i acc H' => DpAll K H' acc ((R.take i).map F)) h (fun D H' _ _ _ => .nil) ?_ ?_
  · intro i x acc D H' hD s hi hl2 hDl hacc
    obtain ⟨d, hd2, hdp⟩ := dpAll_at hx hi
    obtain ⟨e, he, rfl⟩ := map_at hd2
    have hi2 : i < xs.length := (List.getElem?_eq_some_iff.mp hi).1
    refine hs e x D acc H' _ hD s (List.mem_of_getElem? he) (Rd.dp_same s hdp) hDl fun y H3 s3 hy => ?_
    refine Rd.lcE hD (s3 _ _ hDl) (s.trans s3) hl2 (by omega) ?_
    have st : SameT H3 (upd H3 D (.lst (acc ++ [y]))) := .put (s3 _ _ hDl)
    rw [take_map he]
    refine dpAll_app (dpAll_keep (SameT.trans (.of s3) st) ?_ hacc) (dpAll_one (dp_keep st (hn e (List.mem_of_getElem? he)) hy))
    refine nlAll_mem.mpr fun d hd => ?_
    obtain ⟨e', he', rfl⟩ := List.mem_map.mp hd
    exact hn e' (List.mem_of_mem_take he')
  · intro D acc H' hD s hDl hal hacc
    rw [hxl, List.take_length] at hacc
    exact hd D acc H' hD s hDl hacc
/-- [e for target in xs if test]: F none where the test fails -/
theorem lcDF {a : Addr} {xs : List V} {g : TG} {tt : TT} {te : TE} {vs : List Nat} {R : List α} (enc : α → PyData) (F : α → Option PyData) (h : SqL K H a xs) (hx : DpAll K H xs (R.map enc)) (hl : xs.length ≤ 100000) (hn : ∀ e ∈ R, ∀ d, F e = some d → nl d = true)
    (hs : ∀ (e : α) (x : V) (D : Addr) (acc : List V) (H' : Hp) (C : VK) (N : Hp → Prop), H D = none → Same H H' → e ∈ R → Dp K H' x (enc e) → H' D = some (.lst acc) → (∀ y H3 d, Same H' H3 → F e = some d → Dp K H3 y d → C y H3) → (∀ H3, Same H' H3 → F e = none → N H3) →
      g x (wipe σ vs) H' fun σ2 H2 => wipe σ2 vs = wipe σ vs ∧ tt σ2 H2 fun b H3 => if b = true then te σ2 H3 C else N H3)
    (hd : ∀ D acc H', H D = none → Same H H' → H' D = some (.lst acc) → DpAll K H' acc (R.filterMap F) → Q (.ref D) H') :
    ∃ p, V.ref a = .ref p ∧ (∃ ys, SqL K H p ys) ∧ Rd.LcJ g tt te vs σ Q (Itl K p) H := by
  have hxl := Rd.dpAll_len hx
  rw [List.length_map] at hxl
  refine ⟨a, rfl, ⟨_, h⟩, fun D hD => ?_⟩
  refine lc_list (xs := xs) (fun i H' => ∃ acc, Same H H' ∧ acc.length ≤ i ∧ H' D = some (.lst acc) ∧ DpAll K H' acc ((R.take i).filterMap F)) ⟨[], Rd.same_new hD, Nat.le_refl _, upd_same, .nil⟩ (fun i H' _ ⟨_, s, _⟩ => s.seq h) ?_ ?_
  · rintro i x H' hi ⟨acc, s, hal, hDl, hacc⟩
    obtain ⟨d, hd2, hdp⟩ := dpAll_at hx hi
    obtain ⟨e, he, rfl⟩ := map_at hd2
    have hi2 : i < xs.length := (List.getElem?_eq_some_iff.mp hi).1
    have hnA : nlAll ((R.take i).filterMap F) = true := nlAll_mem.mpr fun d hd => by
      obtain ⟨e', he', q⟩ := List.mem_filterMap.mp hd
      exact hn e' (List.mem_of_mem_take he') d q
    refine hs e x D acc H' _ _ hD s (List.mem_of_getElem? he) (Rd.dp_same s hdp) hDl (fun y H3 d s3 hF hy => ?_) (fun H3 s3 hF => ?_)
    · have st : SameT H3 (upd H3 D (.lst (acc ++ [y]))) := .put (s3 _ _ hDl)
      refine ⟨acc, s3 _ _ hDl, Rd.smallT (by omega), acc ++ [y], Rd.same_mut (s.trans s3) hD, by rw [List.length_append]; simp; omega, upd_same, ?_⟩
      rw [List.take_add_one, he, List.filterMap_append]
      refine dpAll_app (dpAll_keep (SameT.trans (.of s3) st) hnA hacc) ?_
      simp only [Option.toList, List.filterMap_cons, hF, List.filterMap_nil]
      exact dpAll_one (dp_keep st (hn e (List.mem_of_getElem? he) d hF) hy)
    · refine ⟨acc, s.trans s3, by omega, s3 _ _ hDl, ?_⟩
      rw [List.take_add_one, he, List.filterMap_append]
      simp only [Option.toList, List.filterMap_cons, hF, List.filterMap_nil, List.append_nil]
      exact dpAll_same s3 hacc
  · rintro H' ⟨acc, s, hal, hDl, hacc⟩
    rw [hxl, List.take_length] at hacc
    exact hd D acc H' hD s hDl hacc
/-- [e for target in xs if test]: F none where the test fails -/
theorem lcDTF {a : Addr} {xs : List V} {g : TG} {tt : TT} {te : TE} {vs : List Nat} {R : List α} (enc : α → PyData) (F : α → Option PyData) (h : SqT K H a xs) (hx : DpAll K H xs (R.map enc)) (hl : xs.length ≤ 100000) (hn : ∀ e ∈ R, ∀ d, F e = some d → nl d = true)
    (hs : ∀ (e : α) (x : V) (D : Addr) (acc : List V) (H' : Hp) (C : VK) (N : Hp → Prop), H D = none → Same H H' → e ∈ R → Dp K H' x (enc e) → H' D = some (.lst acc) → (∀ y H3 d, Same H' H3 → F e = some d → Dp K H3 y d → C y H3) → (∀ H3, Same H' H3 → F e = none → N H3) →
      g x (wipe σ vs) H' fun σ2 H2 => wipe σ2 vs = wipe σ vs ∧ tt σ2 H2 fun b H3 => if b = true then te σ2 H3 C else N H3)
    (hd : ∀ D acc H', H D = none → Same H H' → H' D = some (.lst acc) → DpAll K H' acc (R.filterMap F) → Q (.ref D) H') :
    ∃ p, V.ref a = .ref p ∧ (∃ ys, SqT K H p ys) ∧ Rd.LcJ g tt te vs σ Q (Itt K p) H := by
  have hxl := Rd.dpAll_len hx
  rw [List.length_map] at hxl
  refine ⟨a, rfl, ⟨_, h⟩, fun D hD => ?_⟩
  refine lc_tup (xs := xs) (fun i H' => ∃ acc, Same H H' ∧ acc.length ≤ i ∧ H' D = some (.lst acc) ∧ DpAll K H' acc ((R.take i).filterMap F)) ⟨[], Rd.same_new hD, Nat.le_refl _, upd_same, .nil⟩ (fun i H' _ ⟨_, s, _⟩ => Rd.same_tup s h) ?_ ?_
  · rintro i x H' hi ⟨acc, s, hal, hDl, hacc⟩
    obtain ⟨d, hd2, hdp⟩ := dpAll_at hx hi
    obtain ⟨e, he, rfl⟩ := map_at hd2
    have hi2 : i < xs.length := (List.getElem?_eq_some_iff.mp hi).1
    have hnA : nlAll ((R.take i).filterMap F) = true := nlAll_mem.mpr fun d hd => by
      obtain ⟨e', he', q⟩ := List.mem_filterMap.mp hd
      exact hn e' (List.mem_of_mem_take he') d q
    refine hs e x D acc H' _ _ hD s (List.mem_of_getElem? he) (Rd.dp_same s hdp) hDl (fun y H3 d s3 hF hy => ?_) (fun H3 s3 hF => ?_)
    · have st : SameT H3 (upd H3 D (.lst (acc ++ [y]))) := .put (s3 _ _ hDl)
      refine ⟨acc, s3 _ _ hDl, Rd.smallT (by omega), acc ++ [y], Rd.same_mut (s.trans s3) hD, by rw [List.length_append]; simp; omega, upd_same, ?_⟩
      rw [List.take_add_one, he, List.filterMap_append]
      refine dpAll_app (dpAll_keep (SameT.trans (.of s3) st) hnA hacc) ?_
      simp only [Option.toList, List.filterMap_cons, hF, List.filterMap_nil]
      exact dpAll_one (dp_keep st (hn e (List.mem_of_getElem? he) d hF) hy)
    · refine ⟨acc, s.trans s3, by omega, s3 _ _ hDl, ?_⟩
      rw [List.take_add_one, he, List.filterMap_append]
      simp only [Option.toList, List.filterMap_cons, hF, List.filterMap_nil, List.append_nil]
      exact dpAll_same s3 hacc
  · rintro H' ⟨acc, s, hal, hDl, hacc⟩
    rw [hxl, List.take_length] at hacc
    exact hd D acc H' hD s hDl hacc
theorem lcDTJ {a : Addr} {xs : List V} {g : TG} {te : TE} {vs : List Nat} {R : List α} (enc : α → PyData) (F : α → PyData) (h : SqT K H a xs) (hx : DpAll K H xs (R.map enc)) (hl : xs.length ≤ 100000) (hn : ∀ e ∈ R, nl (F e) = true)
    (hs : ∀ (e : α) (x : V) (D : Addr) (acc : List V) (H' : Hp) (C : VK), H D = none → Same H H' → e ∈ R → Dp K H' x (enc e) → H' D = some (.lst acc) → (∀ y H3, Same H' H3 → Dp K H3 y (F e) → C y H3) →
      g x (wipe σ vs) H' fun σ2 H2 => wipe σ2 vs = wipe σ vs ∧ te σ2 H2 C)
    (hd : ∀ D acc H', H D = none → Same H H' → H' D = some (.lst acc) → DpAll K H' acc (R.map F) → Q (.ref D) H') : Rd.LcJ g tYes te vs σ Q (Itt K a) H := by
  obtain ⟨p, e, _, hL⟩ := lcDT (σ := σ) (Q := Q) (g := g) (te := te) (vs := vs) enc F h hx hl hn hs hd
  cases e
  exact hL
theorem pair_of {z : Addr} {x y : V} {i j : Nat} {Qd : L2.St → Hp → Prop} (h : SqT K H z [x, y]) (k : Qd ((σ.set i (some x)).set j (some y)) H) : gTup K 2 (gCons (gName i) (gCons (gName j) gNil)) (.ref z) σ H Qd :=
  ⟨z, _, rfl, h, rfl, x, [y], rfl, y, [], rfl, rfl, k⟩
theorem lcDI {a : Addr} {xs : List V} {g : TG} {te : TE} {vs : List Nat} {R : List α} (enc : α → PyData) (F : α → Int) (h : SqL K H a xs) (hx : DpAll K H xs (R.map enc)) (hl : xs.length ≤ 100000)
    (hs : ∀ (e : α) (x : V) (D : Addr) (acc : List V) (H' : Hp) (C : VK), H D = none → Same H H' → e ∈ R → Dp K H' x (enc e) → H' D = some (.lst acc) → (∀ H3, Same H' H3 → C (.int (F e)) H3) →
      g x (wipe σ vs) H' fun σ2 H2 => wipe σ2 vs = wipe σ vs ∧ te σ2 H2 C)
    (hd : ∀ D H', H D = none → Same H H' → H' D = some (.lst ((R.map F).map V.int)) → Q (.ref D) H') :
    ∃ p, V.ref a = .ref p ∧ (∃ ys, SqL K H p ys) ∧ Rd.LcJ g tYes te vs σ Q (Itl K p) H := by
  refine lcD enc (fun e => .int (F e)) h hx hl (fun _ _ => rfl) (fun e x D acc H' C hD s he hx hDl hC => hs e x D acc H' C hD s he hx hDl fun H3 s3 => hC _ _ s3 (.int _)) ?_
  intro D acc H' hD s hDl hacc
  have e : R.map (fun e => PyData.int (F e)) = (R.map F).map PyData.int := by rw [List.map_map]; rfl
  rw [e] at hacc
  rw [dpAll_ints hacc] at hDl
  exact hd D H' hD s hDl
theorem lcDFI {a : Addr} {xs : List V} {g : TG} {tt : TT} {te : TE} {vs : List Nat} {R : List α} (enc : α → PyData) (F : α → Option Int) (h : SqL K H a xs) (hx : DpAll K H xs (R.map enc)) (hl : xs.length ≤ 100000)
    (hs : ∀ (e : α) (x : V) (D : Addr) (acc : List V) (H' : Hp) (C : VK) (N : Hp → Prop), H D = none → Same H H' → e ∈ R → Dp K H' x (enc e) → H' D = some (.lst acc) → (∀ H3 d, Same H' H3 → F e = some d → C (.int d) H3) → (∀ H3, Same H' H3 → F e = none → N H3) →
      g x (wipe σ vs) H' fun σ2 H2 => wipe σ2 vs = wipe σ vs ∧ tt σ2 H2 fun b H3 => if b = true then te σ2 H3 C else N H3)
    (hd : ∀ D H', H D = none → Same H H' → H' D = some (.lst ((R.filterMap F).map V.int)) → Q (.ref D) H') :
    ∃ p, V.ref a = .ref p ∧ (∃ ys, SqL K H p ys) ∧ Rd.LcJ g tt te vs σ Q (Itl K p) H := by
  refine lcDF enc (fun e => (F e).map PyData.int) h hx hl (fun e _ d q => by cases hF : F e with | none => rw [hF] at q; cases q | some i => rw [hF] at q; cases q; rfl) (fun e x D acc H' C N hD s he hx hDl hC hN => hs e x D acc H' C N hD s he hx hDl (fun H3 d s3 q => hC _ _ (.int d) s3 (by rw [q]; rfl) (.int _)) (fun H3 s3 q => hN H3 s3 (by rw [q]; rfl))) ?_
  intro D acc H' hD s hDl hacc
  have e : R.filterMap (fun e => (F e).map PyData.int) = (R.filterMap F).map PyData.int := by rw [List.map_filterMap]
  rw [e] at hacc
  rw [dpAll_ints hacc] at hDl
  exact hd D H' hD s hDl
end
end Dj
namespace Rb
open PySem PySem.Spec PyProof.Rows L2
theorem call_lenK {X : Cx} {K : PySem.W.Frag} (h : X.K = K) : CallR X (.builtin "len") (fun xs H Q => ∃ p ys, xs = [V.ref p] ∧ (SqL K H p ys ∨ SqT K H p ys) ∧ Q (.int ys.length) H) := by
  subst h; exact call_len_seq
end Rb

set_option Elab.async false
set_option linter.all false
set_option maxRecDepth 100000
set_option maxHeartbeats 4000000
/-! Dicts whose keys are tuples, tracked ones or constants of the module: the dict's own entries stand in dX, its keys are told by SqT. -/
namespace Es
open PySem PySem.Spec PyProof.Rows L2 Bd
/-- tuples stay when something else is written -/
theorem sqT_upd {K : PySem.W.Frag} {H : Hp} {a p : Addr} {xs : List V} {o o' : HO} (hp : H p = some o) (h1 : ∀ ys, o ≠ .tup ys) (h2 : ∀ z u, o ≠ .frz z u) (h : SqT K H a xs) : SqT K (upd H p o') a xs := by
  rcases h with (h | ⟨z, h⟩) | h
  · exact .inl (.inl ((upd_ne fun e => by rw [e, hp] at h; exact h1 _ (Option.some.inj h)).trans h))
  · exact .inl (.inr ⟨z, (upd_ne fun e => by rw [e, hp] at h; exact h2 _ _ (Option.some.inj h)).trans h⟩)
  · exact .inr h
/-- keys (where their tuples stand) and values -/
abbrev KTS (K : PySem.W.Frag) (H : Hp) : List (List Key × V) → List (List Key × Addr × Value) → Prop := Paired fun p q => p.1 = q.1 ∧ SqT K H q.2.1 (p.1.map kV) ∧ RelV p.2 q.2.2
theorem KTS.val {K : PySem.W.Frag} {H : Hp} {kvs : List (List Key × V)} {xs : List (List Key × Addr × Value)} (r : KTS K H kvs xs) (k : List Key) : RelO (valV kvs k) ((atKey xs k).map (·.2)) := by
  induction r with
  | nil => exact True.intro
  | @cons p q ps qs h t ih =>
    obtain ⟨z1, _, z2⟩ := h
    by_cases e : p.1 = k
    · rw [valV_pos e, show atKey (q :: qs) k = some q.2 by simp [atKey, List.find?_cons, z1.symm.trans e]]; exact z2
    · rw [valV_neg e, show atKey (q :: qs) k = atKey qs k by simp [atKey, List.find?_cons, show ¬ q.1 = k from fun y => e (z1.trans y)]]; exact ih
theorem KTS.repl {K : PySem.W.Frag} {H : Hp} {kvs : List (List Key × V)} {xs : List (List Key × Addr × Value)} (r : KTS K H kvs xs) (k : List Key) {y : V} {u : Value} (ry : RelV y u) : KTS K H (kvs.map fun kv => if kv.1 = k then (kv.1, y) else kv) (xs.map (putAt k u)) := by
  induction r with
  | nil => exact .nil
  | @cons p q ps qs h t ih =>
    rw [List.map_cons, List.map_cons]
    refine .cons ?_ ih
    unfold putAt
    by_cases e : p.1 = k
    · rw [if_pos e, if_pos (h.1.symm.trans e)]; exact ⟨h.1, h.2.1, ry⟩
    · rw [if_neg e, if_neg fun z => e (h.1.trans z)]; exact h
theorem KTS.put {K : PySem.W.Frag} {H : Hp} {kvs : List (List Key × V)} {xs : List (List Key × Addr × Value)} (r : KTS K H kvs xs) (k : List Key) {b : Addr} {y : V} {u : Value} (hb : SqT K H b (k.map kV)) (ry : RelV y u) : KTS K H (putK kvs k y) (storedH xs k b u) := by
  unfold putK storedH
  rw [show (kvs.any fun kv => decide (kv.1 = k)) = (atKey xs k).isSome by rw [valV_any, (r.val k).isSome_eq, Option.isSome_map]]
  by_cases q : (atKey xs k).isSome = true
  · rw [if_pos q, if_pos q]; exact r.repl k ry
  · rw [if_neg q, if_neg q]; exact Paired.snoc r ⟨rfl, hb, ry⟩
theorem KTS.keeps {K : PySem.W.Frag} {H H' : Hp} {kvs : List (List Key × V)} {xs : List (List Key × Addr × Value)} (r : KTS K H kvs xs) (ht : ∀ b ys, SqT K H b ys → SqT K H' b ys) : KTS K H' kvs xs := Paired.mapP r fun _ _ z => ⟨z.1, ht _ _ z.2.1, z.2.2⟩
theorem KTS.drop {K : PySem.W.Frag} {H : Hp} (k : List L2.Key) : ∀ {kvs : List (List L2.Key × V)} {xs : List (List L2.Key × Addr × Value)}, KTS K H kvs xs → KTS K H (L2.dropK kvs k) (DT.dropH xs k)
  | _, _, Paired.nil => Paired.nil
  | _, _, Paired.cons (a := p) (b := q) (l₁ := kvs) (l₂ := xs) h t => by
    have ih := KTS.drop k t
    by_cases e : p.1 = k
    · rw [show L2.dropK (p :: kvs) k = L2.dropK kvs k from List.filter_cons_of_neg (by simp [e]), show DT.dropH (q :: xs) k = DT.dropH xs k from List.filter_cons_of_neg (by simp [h.1.symm.trans e])]
      exact ih
    · rw [show L2.dropK (p :: kvs) k = p :: L2.dropK kvs k from List.filter_cons_of_pos (by simp [e]), show DT.dropH (q :: xs) k = q :: DT.dropH xs k from List.filter_cons_of_pos (by simp [show ¬ q.1 = k from fun z => e (h.1.trans z)])]
      exact Paired.cons h ih
def AsS (K : PySem.W.Frag) (H : Hp) (ps : List (Addr × (Str × Int))) : Prop := ∀ z ∈ ps, SqT K H z.1 [.str z.2.1, .int z.2.2]
theorem kts_as {K : PySem.W.Frag} {H : Hp} : ∀ {m : List ((Str × Int) × V)} {ks : List (List Key × Addr × Value)}, KTS K H (m.map fun e => (eK e.1, e.2)) ks → ∃ ps : List (Addr × (Str × Int)), AsS K H ps ∧ ps.map (·.2) = m.map (·.1) ∧ ps.map (·.1) = ks.map fun x => x.2.1
  | [], _, Paired.nil => ⟨[], fun _ h => absurd h List.not_mem_nil, rfl, rfl⟩
  | e :: m, _, Paired.cons (b := x) h t => by
    obtain ⟨ps, h1, h2, h3⟩ := kts_as (m := m) t
    refine ⟨(x.2.1, e.1) :: ps, fun z hz => ?_, by rw [List.map_cons, List.map_cons, h2], by rw [List.map_cons, List.map_cons, h3]⟩
    rcases List.mem_cons.mp hz with rfl | hz
    · exact h.2.1
    · exact h1 z hz
/-- the dict at a, its keys where xs says -/
def dX (P : Program) (w : World) (a : Addr) (xs : List (List Key × Addr × Value)) : HO := .ext fun h => (a == sysModules) = false ∧ ∃ o es ep, h.get? a = some o ∧ o.ExactDict ∧ o.data = .dict es ep ∧ es.toList = xs.map (entryOfKey (tupleKind (mixKind P w))) ∧ (xs.map (·.1)).Nodup
theorem dX_ok {P : Program} {w : World} {H : Hp} {h : Heap} {a : Addr} {xs : List (List Key × Addr × Value)} (z : (a == sysModules) = false)
    (d : ∃ o es ep, h.get? a = some o ∧ o.ExactDict ∧ o.data = .dict es ep ∧ es.toList = xs.map (entryOfKey (tupleKind (mixKind P w))) ∧ (xs.map (·.1)).Nodup) : ObjOk P w H h a (dX P w a xs) := by
  obtain ⟨o, es, ep, e1, e2⟩ := d
  exact ⟨⟨z, o, es, ep, e1, e2⟩, ⟨o, e1⟩, fun g g' ⟨y, o', es', ep', f1, f2⟩ k => ⟨y, o', es', ep', k _ f1, f2⟩⟩
/-- at a stands a dict with the keys and values kvs -/
def DS (P : Program) (w : World) (K : PySem.W.Frag) (H : Hp) (a : Addr) (kvs : List (List Key × V)) : Prop := kvs.length ≤ sizeLine ∧ ∃ xs, H a = some (dX P w a xs) ∧ KTS K H kvs xs
theorem dX_mut {P : Program} {w : World} {a : Addr} {xs : List (List Key × Addr × Value)} : Mut (some (dX P w a xs)) := True.intro
theorem dX_tup {P : Program} {w : World} {a : Addr} {xs : List (List Key × Addr × Value)} {ys : List V} : HO.tup ys ≠ dX P w a xs := fun z => by
  have z' : HO.tup ys = HO.ext _ := z
  cases z'
section
variable {X : Cx} {pins : List (Addr × Obj)} {σ : L2.St} {H : Hp} {s : Shared} {a b : Addr} {k : List Key} {kvs : List (List Key × V)} {y v : V} {u r : Value} {A : Around} {E : Value → Shared → Prop}
theorem keyC (I : Inv X pins σ H s) (e : SqT X.K H b (k.map kV)) : (tupleKind (mixKind X.prog X.w)).is s.heap k b := by
  obtain ⟨its, rel, ⟨o, h1, h2, n, h3⟩, _⟩ := I.tuple e
  exact ⟨o, its.toArray, n, h1, h2, h3, by simpa using items_are rel⟩
theorem dx_at (I : Inv X pins σ H s) (d : DS X.prog X.w X.K H a kvs) : (a == sysModules) = false ∧ ∃ xs, H a = some (dX X.prog X.w a xs) ∧ KTS X.K H kvs xs ∧ s.heap.DictOfH (tupleKind (mixKind X.prog X.w)) a xs := by
  obtain ⟨_, xs, e, rel⟩ := d
  have q : ObjOk X.prog X.w H s.heap a (.ext fun h => (a == sysModules) = false ∧ ∃ o es ep, h.get? a = some o ∧ o.ExactDict ∧ o.data = .dict es ep ∧ es.toList = xs.map (entryOfKey (tupleKind (mixKind X.prog X.w))) ∧ (xs.map (·.1)).Nodup) := I.hok a _ e
  obtain ⟨⟨z, o, es, ep, f1, f2, f3, f4, f5⟩, _⟩ := q
  refine ⟨z, xs, e, rel, o, es, ep, f1, f2, f3, f4, fun x hx => ?_, f5⟩
  have all : ∀ (l : List (List Key × V)) (m : List (List Key × Addr × Value)), KTS X.K H l m → ∀ x ∈ m, (tupleKind (mixKind X.prog X.w)).is s.heap x.1 x.2.1 := by
    intro l m p
    induction p with
    | nil => exact fun x h => absurd h List.not_mem_nil
    | cons t _ ih =>
      intro x hx
      cases List.mem_cons.mp hx with
      | inl e' => rw [e', ← t.1]; exact keyC I t.2.1
      | inr e' => exact ih x e'
  exact all _ _ rel x hx
/-- what the dict holds at the key y -/
def GX (P : Program) (w : World) (K : PySem.W.Frag) (H : Hp) (a : Addr) (y : V) (o : Option V) : Prop := ∃ kvs k b, DS P w K H a kvs ∧ y = .ref b ∧ SqT K H b (k.map kV) ∧ o = valV kvs k
theorem dx_get {Q : Value → Shared → Prop} (hu : A.units + 1 < cLine) (I : Inv X pins σ H s) (g : GX X.prog X.w X.K H a y (some v)) (ry : RelV y u) (h : ∀ w' s', Inv X pins σ H s' → RelV v w' → Q w' s') :
    wpAny (model X.prog X.w) A (getItem (.ref a) u) Q E s := by
  obtain ⟨kvs, k, b, d, rfl, eb, l⟩ := g
  cases (show u = Value.ref b from ry)
  obtain ⟨_, xs, _, rel, dd⟩ := dx_at I d
  have q := rel.val k
  rw [← l] at q
  obtain ⟨w', hw, rw'⟩ := RelO.some_of q
  obtain ⟨p, hp, hp2⟩ := Option.map_eq_some_iff.mp hw
  exact wpAny_getItem_heap (tupleKind_room_in1 hu) (keyC I eb) dd hp (by rw [hp2]; exact h w' _ (I.tok _) rw')
theorem dx_get2 {o : Option V} {d0 : V} {Q : Value → Shared → Prop} (hu : A.units + 1 < cLine) (I : Inv X pins σ H s) (g : GX X.prog X.w X.K H a y o) (ry : RelV y u) (rd : RelV d0 r) (h : ∀ w' s', Inv X pins σ H s' → RelV (o.getD d0) w' → Q w' s') :
    wpAny (model X.prog X.w) A (call (.builtin "dict.get") [.ref a, u, r]) Q E s := by
  obtain ⟨kvs, k, b, d, rfl, eb, rfl⟩ := g
  cases (show u = Value.ref b from ry)
  obtain ⟨hd, xs, _, rel, dd⟩ := dx_at I d
  exact call_meetsIn PySem.F.slot_dict_get dd.typeIs PySem.F.entry_dict_get (PySem.F.args_dict_get_3 _ _ _) (meetsH_dict_get_default (tupleKind (mixKind X.prog X.w)) a b hd r) ⟨tupleKind_room_in1 hu, k, xs, keyC I eb, dd, h _ _ (I.tok _) ((rel.val k).getD rd)⟩
theorem dx_in {o : Option V} {Q : Value → Shared → Prop} (hu : A.units + 1 < cLine) (I : Inv X pins σ H s) (g : GX X.prog X.w X.K H a y o) (ry : RelV y u) (h : ∀ s', Inv X pins σ H s' → Q (.bool o.isSome) s') :
    wpAny (model X.prog X.w) A (compareOp .In u (.ref a)) Q E s := by
  obtain ⟨kvs, k, b, d, rfl, eb, rfl⟩ := g
  cases (show u = Value.ref b from ry)
  obtain ⟨hd, xs, _, rel, dd⟩ := dx_at I d
  refine wpAny_in_heap (tupleKind_room_in1 hu) (keyC I eb) hd dd ?_
  have q := (rel.val k).isSome_eq
  rw [Option.isSome_map] at q
  rw [← q]
  exact h _ (I.tok _)
/-- the dict with one more value, in the heap that has it -/
theorem dx_put {xs : List (List Key × Addr × Value)} {h' : Heap} {t' : Nat} (I : Inv X pins σ H s) (e : H a = some (dX X.prog X.w a xs)) (rel : KTS X.K H kvs xs) (hz : kvs.length < sizeLine) (hd : (a == sysModules) = false)
    (eb : SqT X.K H b (k.map kV)) (rv : RelV v r) (dd' : h'.DictOfH (tupleKind (mixKind X.prog X.w)) a (storedH xs k b r)) (hs : Heap.SameBut a s.heap h') :
    Inv X pins σ (upd H a (dX X.prog X.w a (storedH xs k b r))) { s with heap := h', toks := t' } ∧ DS X.prog X.w X.K (upd H a (dX X.prog X.w a (storedH xs k b r))) a (putK kvs k v) := by
  obtain ⟨o, es, ep, f1, f2, f3, f4, _, f5⟩ := dd'
  refine ⟨d_write I (by rw [e]; exact dX_mut) hs ⟨o, f1⟩ (dX_ok hd ⟨o, es, ep, f1, f2, f3, f4, f5⟩), ?_, _, upd_same, (rel.put k eb rv).keeps fun q ys eq => ?_⟩
  · have := length_putK kvs k v; omega
  · exact sqT_upd (o := dX X.prog X.w a xs) e (fun ys q => by cases q) (fun o u q => by cases q) eq
theorem dx_set {Q : Unit → Shared → Prop} (hu : A.units + 1 < cLine) (I : Inv X pins σ H s) (d : DS X.prog X.w X.K H a kvs) (hz : kvs.length < sizeLine) (eb : SqT X.K H b (k.map kV)) (ry : RelV (.ref b) u) (rv : RelV v r)
    (h : ∀ s' ys, Inv X pins σ (upd H a (dX X.prog X.w a ys)) s' → DS X.prog X.w X.K (upd H a (dX X.prog X.w a ys)) a (putK kvs k v) → Q () s') : wpAny (model X.prog X.w) A (setItem (.ref a) u r) Q E s := by
  cases (show u = Value.ref b from ry)
  obtain ⟨hd, xs, e, rel, dd⟩ := dx_at I d
  have hl : xs.length ≤ sizeLine := by rw [← Paired.length rel]; omega
  exact wpAny_setItem_heap (hsz := hl) (tupleKind_room_in1 hu) (keyC I eb) dd fun h' dd' hs => by
    obtain ⟨J, d'⟩ := dx_put (t' := s.toks + (tupleKind (mixKind X.prog X.w)).draws k) I e rel hz hd eb rv dd' hs
    exact h _ _ J d'
theorem isSI_C {p : Str × Int} (I : Inv X pins σ H s) (e : SqT X.K H b [.str p.1, .int p.2]) : IsSI s.heap (.ref b) p := by
  obtain ⟨its, rel, ⟨o, h1, h2, n, h3⟩, _⟩ := I.tuple e
  cases rel with
  | cons ra rest =>
    cases rest with
    | cons rb rest =>
      cases rest
      obtain ⟨t1, e1⟩ := (show ∃ t, _ = Value.str p.1 t from ra)
      obtain ⟨t2, e2⟩ := (show ∃ t, _ = Value.int p.2 t from rb)
      subst e1 e2
      exact ⟨b, o, t1, t2, n, rfl, h1, h2, h3⟩
end
section
variable {X : Cx}
def rSortedX (P : Program) (w : World) (K : PySem.W.Frag) : List V → Hp → VK → Prop := fun xs H Q => ∃ (a : Addr) (m : List ((Str × Int) × V)), xs = [.ref a] ∧ DS P w K H a (m.map fun e => (eK e.1, e.2)) ∧
  ∀ (ps : List (Addr × (Str × Int))) (p : Addr), AsS K H ps → SrtO.Srtd ltSI (ps.map (·.2)) → (ps.map (·.2)).Perm (m.map (·.1)) → H p = none → Q (.ref p) (upd H p (.lst (ps.map fun z => V.ref z.1)))
theorem cr_sortedX (hcalm : X.calm = true) : CallR X (.builtin "sorted") (rSortedX X.prog X.w X.K) := by
  intro pins s σ H xs us Q I r q
  obtain ⟨a, m, rfl, hd, q⟩ := q
  obtain ⟨u, rfl, rx⟩ := vals1 r
  cases rx
  have z := hd.1
  obtain ⟨hs, ks, _, pr, o, es, ep, ho, hx, hdt, he, _, hn⟩ := dx_at I hd
  have l1 : es.size = ks.length := size_of_entries he
  have l2 : (m.map fun e => (eK e.1, e.2)).length = ks.length := Paired.length pr
  have l3 : m.length = ks.length := by simpa using l2
  refine Calls.call_function_entry PyProof.Rows.kind_sorted PyProof.Rows.plain_sorted PyProof.Rows.entry_sorted (PyProof.Rows.args_sorted1 _) ?_
  unfold Builtin.«sorted»
  refine wpAny_bind (m := checkCount "sorted" 1 1 _) (wpAny_pure ?_)
  refine wpAny_bind (PySem.W.kdu_collect (A := X.A.in1) (kdl_raw hs hx hdt) (I.ok.hd hcalm) ho (by omega) fun h' tk acc hk it => ?_)
  have ea : acc.toList = (ks.map fun x => x.2.1).map Value.ref := by
    have hl : acc.toList.length = ks.length := by rw [Array.length_toList, it.1]; exact l1
    apply List.ext_getElem?
    intro j
    rw [List.map_map, List.getElem?_map]
    cases hj : acc.toList[j]? with
    | none =>
      have h1 := List.getElem?_eq_none_iff.mp hj
      rw [List.getElem?_eq_none (by omega)]
      rfl
    | some v =>
      obtain ⟨en, hen, hv⟩ := it.2 j v (by rw [← Array.getElem?_toList]; exact hj)
      have qe := entry_at he j
      rw [hen] at qe
      cases hb : ks[j]? with
      | none =>
        rw [hb] at qe
        exact nomatch (show some en = none from qe)
      | some b =>
        rw [hb] at qe
        have e2 : en = entryOfKey (tupleKind (mixKind X.prog X.w)) b := Option.some.inj qe
        rw [hv, e2]
        rfl
  have I1 : Inv X pins σ H { s with heap := h', toks := tk } := I.kept hk
  obtain ⟨ps0, a1, a2, a3⟩ := kts_as pr
  have eb : acc.toList = ps0.map fun z => Value.ref z.1 := by rw [ea, ← a3, List.map_map]; rfl
  have hal : acc.toList.length ≤ sizeLine := by
    rw [Array.length_toList, it.1]; omega
  refine wpAny_bind (wpAny_newList ?_ hal)
  have hoL : (h'.push (seqObj "list" acc.toList.toArray 0)).get? h'.objs.size = some (seqObj "list" acc.toList.toArray 0) := Heap.get?_push_size _ rfl
  have hsi : ∀ v ∈ acc.toList, IsSI (h'.push (seqObj "list" acc.toList.toArray 0)) v (siOf s.heap v) := fun v hv => by
    rw [eb] at hv
    obtain ⟨zz, hz, rfl⟩ := List.mem_map.mp hv
    have q := isSI_C I (a1 zz hz)
    rw [q.of]
    exact (isSI_C I1 (a1 zz hz)).keeps fun b ob e _ => Heap.get?_push_of_some _ e
  show wpAny _ _ _ _ _ { s with heap := h'.push (seqObj "list" acc.toList.toArray 0), toks := tk }
  refine wpAny_bind (wpAny_holding (wpAny_call_entry PyProof.Rows.slot_list_sort ⟨_, hoL, rfl⟩ PyProof.Rows.entry_list_sort
    (SrtO.list_sort_ord (ltv := fun v u => ltSI (siOf s.heap v) (siOf s.heap u)) (s := { s with heap := h'.push (seqObj "list" acc.toList.toArray 0), toks := tk }) (swo_SI (siOf s.heap)) hoL hal (fun h2 => si_sortable (by omega) hsi fun ob e => by
      have e' := e.symm.trans hoL
      cases e'
      intro c
      exact absurd (Value.type.inj c) (by decide)) fun out h1 h2 => ⟨_, rfl, ?_⟩)
    (PyProof.Rows.args_list_sort _)))
  obtain ⟨ps, b1, b2⟩ := perm_lift (fun z : Addr × (Str × Int) => Value.ref z.1) h2.perm ps0 eb.symm
  have hAs : AsS X.K H ps := fun z hz => a1 z (b1.mem_iff.mp hz)
  have hk2 : ∀ z ∈ ps, siOf s.heap (Value.ref z.1) = z.2 := fun z hz => (isSI_C I (hAs z hz)).of
  have hsr : SrtO.Srtd ltSI (ps.map (·.2)) := by
    rw [← b2] at h1
    have h1' := List.pairwise_map.mp h1
    refine List.pairwise_map.mpr (h1'.imp_of_mem fun {x y} hx hy hh => ?_)
    have hh' : ltSI (siOf s.heap (Value.ref y.1)) (siOf s.heap (Value.ref x.1)) = false := hh
    rw [hk2 x hx, hk2 y hy] at hh'
    exact hh'
  obtain ⟨e', he'⟩ := PyProof.Rows.sortedHeap_at (vs := acc.toList) (out := out.toArray) hoL
  have hlen : (ps.map fun z => V.ref z.1).length ≤ sizeLine := by
    rw [List.length_map, b1.length_eq]
    have : ps0.length = acc.toList.length := by rw [eb, List.length_map]
    omega
  refine wpAny_pure ⟨_, rfl, .ref h'.objs.size, upd H h'.objs.size (.lst (ps.map fun z => V.ref z.1)), I1.laid (t' := tk) (fun b u e => ?_) (Nat.le_refl _)
    (show ObjOk X.prog X.w _ _ _ (.lst _) from ⟨hlen, out, e', ?_, he'⟩), rfl, q ps _ hAs hsr ((b1.map _).trans (by rw [a2])) (I1.hok.fresh (Nat.le_refl _))⟩
  · have hb : b < h'.objs.size := Heap.lt_size e
    rw [PyProof.Rows.sortedHeap_old (Nat.ne_of_lt hb) (by rw [size_push']; exact Nat.lt_succ_of_lt hb)]
    exact Heap.get?_push_of_some _ e
  · rw [← b2]
    have := vals_refs (ps.map (·.1))
    rw [List.map_map, List.map_map] at this
    exact this
end
end Es
namespace Es
open PySem PySem.Spec PyProof.Rows L2 L2.DX Bd
section
variable {X : Cx}
/-- tuple(d.items()): a row of pairs (asset, value) -/
def rTupX (P : Program) (w : World) (K : PySem.W.Frag) : List V → Hp → VK → Prop := fun vs H Q => ∃ (p a : Addr) (m : List ((Str × Int) × V)), vs = [.ref p] ∧ H p = some (itemsO p a) ∧ DS P w K H a (m.map fun e => (eK e.1, e.2)) ∧
  ∀ (H' : Hp) (q : Addr) (zs : List (Addr × ((Str × Int) × V))), (∀ b o, H b = some o → H' b = some o) → H q = none → zs.map (·.2) = m → H' q = some (.tup (zs.map fun z => V.ref z.1)) →
    (∀ z ∈ zs, ∃ kq, H' z.1 = some (.tup [.ref kq, z.2.2]) ∧ SqT K H' kq [.str z.2.1.1, .int z.2.1.2]) → Q (.ref q) H'
theorem cr_tupX (hc : X.calm = true) : CallR X (.type "tuple") (rTupX X.prog X.w X.K) := by
  intro pins s σ H xs us Q I r h
  obtain ⟨p, a, m, rfl, hp, ha, q⟩ := h
  obtain ⟨u, rfl, ru⟩ := vals1 r
  obtain rfl : u = Value.ref p := ru
  have view : s.heap.IsItemsView p a := (show ObjOk X.prog X.w H s.heap p (itemsO p a) from I.hok p _ hp).1
  have z := ha.1
  obtain ⟨hd, xs', _, rel, o, es, ep, ho, hx, hdat, hes, his, hn⟩ := dx_at I ha
  have l1 : (m.map fun e => (eK e.1, e.2)).length = xs'.length := Paired.length rel
  rw [List.length_map] at l1 z
  have l2 : es.size = xs'.length := size_of_entries hes
  refine call_tuple_items (es := es) (ep := ep) (I.ok.hd hc) view ⟨o, ho, hx, hdat⟩ (by omega) fun h' tk as hk hlt hl hG => ?_
  have lam : as.length = m.length := by omega
  have nd : as.Nodup := List.Pairwise.imp (fun h => Nat.ne_of_lt h) hG.rise
  have hN : s.heap.objs.size < h'.objs.size := hlt
  generalize hh : h'.push { cls := .type "tuple", data := .seq (as.map Value.ref).toArray } = h2
  have ka : ∀ b o, h'.get? b = some o → h2.get? b = some o := fun b o e => by rw [← hh]; exact Heap.get?_push_of_some _ e
  have hob : h2.get? h'.objs.size = some { cls := .type "tuple", data := .seq (as.map Value.ref).toArray } := by rw [← hh]; exact Heap.get?_push_size _ rfl
  have I1 : Inv X pins σ H { s with heap := h2, toks := tk } := I.kept (t' := tk) fun b o e => ka _ _ (hk b o e)
  have hn0 : H h'.objs.size = none := I.hok.fresh (Nat.le_of_lt hN)
  have I2 : Inv X pins σ (upd H h'.objs.size (.tup (as.map V.ref))) { s with heap := h2, toks := tk } :=
    I1.take (h' := h2) (t' := tk) (fun b ob _ e => e) (I.fpOk (Nat.le_of_lt hN) hn0) ⟨by rw [List.length_map]; omega, as.map Value.ref, vals_refs as, ⟨_, hob, rfl, 0, rfl⟩⟩
  obtain ⟨H2, I3, g, qt⟩ := takeT (P := fun b vs => ∃ (j : Nat) (e : (Str × Int) × V) (kq : Addr), as[j]? = some b ∧ m[j]? = some e ∧ vs = [.ref kq, e.2] ∧ SqT X.K H kq [.str e.1.1, .int e.1.2]) I as _ I2 nd fun b hb => by
    obtain ⟨j, hj⟩ := List.mem_iff_getElem?.mp hb
    obtain ⟨en, he, hg⟩ := hG.pairs j b hj
    rw [entry_at hes j] at he
    cases hxj : xs'[j]? with
    | none =>
      rw [hxj] at he
      exact nomatch (show (none : Option DictEntry) = some en from he)
    | some x =>
      rw [hxj] at he
      have een : entryOfKey (tupleKind (mixKind X.prog X.w)) x = en := Option.some.inj he
      obtain ⟨e0, he0, r1, r2, r3⟩ := pget rel hxj
      rw [List.getElem?_map] at he0
      cases hkj : m[j]? with
      | none =>
        rw [hkj] at he0
        exact nomatch (show (none : Option (List L2.Key × V)) = some e0 from he0)
      | some e =>
        rw [hkj] at he0
        have ee : (eK e.1, e.2) = e0 := Option.some.inj he0
        rw [← ee] at r2 r3
        have hbl : s.heap.objs.size ≤ b := Nat.le_of_lt (hG.above b hb)
        have hbn : b ≠ h'.objs.size := Nat.ne_of_lt (Heap.lt_size hg)
        refine ⟨hbl, by rw [upd_ne hbn]; exact I.hok.fresh hbl, [.ref x.2.1, e.2], ⟨j, e, x.2.1, hj, hkj, rfl, r2⟩, fun H3 => ⟨by rw [sizeLine_eq]; show 2 ≤ 16777216; omega, [Value.ref x.2.1, x.2.2], .cons rfl (.cons r3 .nil), ⟨_, ka _ _ hg, rfl, 0, ?_⟩⟩⟩
        rw [← een]
        rfl
  have gr : ∀ b o, H b = some o → H2 b = some o := fun b o e => g b o (by rw [upd_ne (ne_of_none e hn0)]; exact e)
  refine ⟨.ref h'.objs.size, H2, I3, rfl, q H2 h'.objs.size (as.zip m) gr hn0 (List.map_snd_zip (by omega)) ?_ fun z' hz' => ?_⟩
  · have e1 : ((as.zip m).map fun z => V.ref z.1) = as.map V.ref := by
      have := List.map_fst_zip (l₁ := as) (l₂ := m) (by omega)
      conv => rhs; rw [← this]
      rw [List.map_map]; rfl
    rw [e1]
    exact g _ _ upd_same
  · obtain ⟨i, hi⟩ := List.mem_iff_getElem?.mp hz'
    obtain ⟨i1, i2⟩ := List.getElem?_zip_eq_some.mp hi
    obtain ⟨vs, ⟨j, e, kq, j1, j2, ev, hkq⟩, hH⟩ := qt z'.1 (List.mem_of_getElem? i1)
    have eij : i = j := (List.getElem?_inj (List.getElem?_eq_some_iff.mp i1).1 nd).mp (i1.trans j1.symm)
    subst eij
    have ee : e = z'.2 := Option.some.inj (j2.symm.trans i2)
    rw [ev, ee] at hH
    rw [ee] at hkq
    exact ⟨kq, hH, Rd.same_tup gr hkq⟩
end
end Es
namespace Es
open PySem PySem.Spec PyProof.Rows L2 Bd
section
variable {X : Cx} {pins : List (Addr × Obj)} {σ : L2.St} {H : Hp} {s : Shared} {a b : Addr} {k : List Key} {kvs : List (List Key × V)} {y v : V} {u r : Value} {A : Around} {E : Value → Shared → Prop}
theorem dX_new {P : Program} {w : World} {H : Hp} (h : Heap) (hb : sysModules < h.objs.size) : ObjOk P w H (h.push { cls := .type "dict", data := .dict #[] }) h.objs.size (dX P w h.objs.size []) :=
  dX_ok (beq_eq_false_iff_ne.mpr (Ne.symm (Nat.ne_of_lt hb))) ⟨_, #[], 0, Heap.get?_push_size _ rfl, ⟨rfl, rfl, rfl⟩, rfl, rfl, List.nodup_nil⟩
theorem DS.nil {P : Program} {w : World} {K : PySem.W.Frag} {a : Addr} {H : Hp} : DS P w K (upd H a (dX P w a [])) a [] := ⟨Nat.zero_le _, [], upd_same, .nil⟩
theorem dx_dset {Q : Unit → Shared → Prop} (hu : X.A.units + 1 < cLine) (I : Inv X pins σ H s) (d : DS X.prog X.w X.K H a kvs) (hz : kvs.length < sizeLine) (eb : SqT X.K H b (k.map kV)) (ry : RelV (.ref b) u) (rv : RelV v r)
    (h : ∀ s' ys, Inv X pins σ (upd H a (dX X.prog X.w a ys)) s' → DS X.prog X.w X.K (upd H a (dX X.prog X.w a ys)) a (putK kvs k v) → Q () s') : wpAny (model X.prog X.w) X.A (dictSet a u r) Q E s := by
  cases (show u = Value.ref b from ry)
  obtain ⟨hd, xs, e, rel, dd⟩ := dx_at I d
  have hl : xs.length ≤ sizeLine := by rw [← Paired.length rel]; omega
  exact wpAny_dictSet_heap (hsz := hl) (show (tupleKind (mixKind X.prog X.w)).room X.A from (show X.A.units < cLine by omega)) (keyC I eb) dd fun h' dd' hs => by
    obtain ⟨J, d'⟩ := dx_put (t' := s.toks + (tupleKind (mixKind X.prog X.w)).draws k) I e rel hz hd eb rv dd' hs
    exact h _ _ J d'
end
section
variable {X : Cx}
def DcX (P : Program) (w : World) (K : PySem.W.Frag) (g : TG) (tt : TT) (tk tv : TE) (vs : List Nat) (σ : L2.St) (Q : VK) (J : It) (H1 : Hp) : Prop := ∀ D, H1 D = none → ∃ W : Nat → Nat → Hp → Prop, (∃ m, W 0 m (upd H1 D (dX P w D []))) ∧ ∀ i m H, W i m H →
  (J.stop i H ∧ Q (.ref D) H) ∨ (J.go i H ∧ ∃ Nx : Hp → Prop, (∀ H', Nx H' → ∃ m', m' < m ∧ W (i + 1) m' H') ∧ ∀ x H', J.yld i H x H' → g x (wipe σ vs) H' fun σ2 H2 => wipe σ2 vs = wipe σ vs ∧ tt σ2 H2 fun t H3 =>
    if t = true then tk σ2 H3 fun y H4 => tv σ2 H4 fun z H5 => ∃ kvs k b, y = .ref b ∧ SqT K H5 b (k.map kV) ∧ DS P w K H5 D kvs ∧ kvs.length < sizeLine ∧ (∀ ys, DS P w K (upd H5 D (dX P w D ys)) D (putK kvs k z) → Nx (upd H5 D (dX P w D ys))) else Nx H3)
def tDcX (P : Program) (w : World) (K : PySem.W.Frag) (wi : TI) (g : TG) (tt : TT) (tk tv : TE) (vs : List Nat) : TE := fun σ H Q => wi σ H fun J H1 => DcX P w K g tt tk tv vs σ Q J H1
theorem pe_dcX {kx vx tg iter : Expr} {ifs : List Expr} {scope : Scope} {own : List (Str × Nat)} {pos : Pos} {wi : TI} {g : TG} {tt : TT} {tk tv : TE} (hu : X.A.units + 1 < cLine) (hc : X.calm = true) (hN : X.N.Nodup) (hi : PI X tg iter wi) (ok : BlkOk X.N X.env.scope scope own)
    (hg : ∀ (s : Shared) (H : Hp) (C : Addr) (cl : List (Str × Addr)) (fp : List Addr), PG (X.blk s H scope (compEnvC scope cl C X.env) fp) tg g) (ht : ∀ (s : Shared) (H : Hp) (C : Addr) (cl : List (Str × Addr)) (fp : List Addr), PTs (X.blk s H scope (compEnvC scope cl C X.env) fp) ifs tt)
    (hk : ∀ (s : Shared) (H : Hp) (C : Addr) (cl : List (Str × Addr)) (fp : List Addr), PE (X.blk s H scope (compEnvC scope cl C X.env) fp) kx tk)
    (he : ∀ (s : Shared) (H : Hp) (C : Addr) (cl : List (Str × Addr)) (fp : List Addr), PE (X.blk s H scope (compEnvC scope cl C X.env) fp) vx tv) (hs : ∀ x, foldedSetIterable iter X.env x = pure x := by intro _; rfl) :
    PE X (.DictComp kx vx [⟨tg, iter, ifs, 0⟩] scope pos) (tDcX X.prog X.w X.K wi g tt tk tv (own.map (·.2))) := by
  refine ⟨fun pins s σ H Q I h => ?_⟩
  rw [arm_eval_DictComp]
  have free : ∀ y ∈ scope.names, y.2 = .free → ∃ c, X.env.cells.lookup y.1 = some c := fun y hy e => by
    rcases ok.free y hy e with k | k
    · exact I.ok.has _ (.inl k)
    · exact I.ok.has _ (.inr k)
  refine wpAny_comprehension_free rfl hs (closure_ok free) ok.kind (fun y hy e => by rw [ok.uniq y hy, e]) (thn (hi.run pins s σ H _ I h) fun xv s1 hx => thn hx fun itv s2 h2 => ?_)
  obtain ⟨it, fp, tn, J, H2, rfl, I2, T, st2, f2, q⟩ := h2
  -- the dict that is made, at D
  obtain ⟨D, hD⟩ : ∃ D : Addr, D = s2.heap.objs.size := ⟨_, rfl⟩
  have D0 : H2 D = none := I2.hok.fresh (Nat.le_of_eq hD.symm)
  obtain ⟨W, ⟨m0, w0⟩, turn⟩ := q D D0
  refine wpAny_newObj_type (newEnv_comp ?_)
  rw [← hD]
  obtain ⟨s3, e3⟩ : ∃ s3 : Shared, s3 = { s2 with heap := s2.heap.push { cls := .type "dict", data := .dict #[] } } := ⟨_, rfl⟩
  have p3 : ∀ b o, s2.heap.get? b = some o → s3.heap.get? b = some o := fun b o e => by rw [e3]; exact Heap.get?_push_of_some _ e
  have I3 : Inv X pins σ (upd H2 D (dX X.prog X.w D [])) s3 := by
    rw [e3]
    exact I2.laid (t' := s2.toks) (fun b o e => Heap.get?_push_of_some _ e) (Nat.le_of_eq hD.symm) (by rw [hD]; exact dX_new s2.heap I2.big)
  have f3 : ∀ b ∈ fp, FpOk X pins (upd H2 D (dX X.prog X.w D [])) b ∧ b < s3.heap.objs.size := fun b hb => by
    obtain ⟨o, e, _⟩ := T.obj _ _ st2 b hb
    exact ⟨⟨by rw [upd_ne (by rw [hD]; exact Nat.ne_of_lt (Heap.lt_size e))]; exact (f2 b hb).1, (f2 b hb).2⟩, Heap.lt_size (p3 b o e)⟩
  have I4 := block_start I3 ok hN f3
  have pg := hg s3 (upd H2 D (dX X.prog X.w D [])) s3.heap.objs.size (cellsFrom (s3.heap.objs.size + 1) scope.names (cloFrom X.env.cells scope.names [])) fp
  have pt := ht s3 (upd H2 D (dX X.prog X.w D [])) s3.heap.objs.size (cellsFrom (s3.heap.objs.size + 1) scope.names (cloFrom X.env.cells scope.names [])) fp
  have pk := hk s3 (upd H2 D (dX X.prog X.w D [])) s3.heap.objs.size (cellsFrom (s3.heap.objs.size + 1) scope.names (cloFrom X.env.cells scope.names [])) fp
  have pe := he s3 (upd H2 D (dX X.prog X.w D [])) s3.heap.objs.size (cellsFrom (s3.heap.objs.size + 1) scope.names (cloFrom X.env.cells scope.names [])) fp
  rw [← e3]
  show codeAny _ _ (.compStart (.DictComp kx vx [⟨tg, iter, ifs, 0⟩] scope pos) 0 (.ref it) (.ref D) (compEnvC scope (cellsFrom (s3.heap.objs.size + 1) scope.names (cloFrom X.env.cells scope.names [])) s3.heap.objs.size X.env))
    (compPost (model X.prog X.w) X.A X.xe none (EP X pins σ Q) (.ref D) s3.heap.objs.size) { s3 with heap := pushCells (s3.heap.push { cls := .type "dict", data := .dict #[] }) scope.names }
  have nf : ∀ b ∈ fp, (upd H2 D (dX X.prog X.w D [])) b = none := fun b hb => (f3 b hb).1.1
  have t4 : tn 0 (pushCells (s3.heap.push { cls := .type "dict", data := .dict #[] }) scope.names) := T.keep _ _ _ st2 fun b _ o e => pushCells_keeps _ _ _ _ (Heap.get?_push_of_some _ (p3 b o e))
  generalize hce : compEnvC scope (cellsFrom (s3.heap.objs.size + 1) scope.names (cloFrom X.env.cells scope.names [])) s3.heap.objs.size X.env = ce at I4 pg pt pk pe ⊢
  have cL : ce.locals = s3.heap.objs.size := by rw [← hce]; rfl
  generalize upd H2 D (dX X.prog X.w D []) = H3 at I3 f3 I4 pg pt pk pe nf w0
  generalize hs4 : ({ s3 with heap := pushCells (s3.heap.push { cls := .type "dict", data := .dict #[] }) scope.names } : Shared) = s4 at I4 ⊢
  have t4' : tn 0 s4.heap := by rw [← hs4]; exact t4
  -- the iterator's objects stand outside of the block
  have outer : ∀ {σ' : L2.St} {H' : Hp} {s' : Shared}, Inv (X.blk s3 H3 scope ce fp) [] σ' H' s' → (∀ b ∈ fp, H' b = none) → ∀ b ∈ fp, FpOk (X.blk s3 H3 scope ce fp) [] H' b := fun {σ' H' s'} J n b hb =>
    ⟨n b hb, (J.ok.exf b hb).1, J.ok.exfs b hb, .inl hb, fun x c e => (J.ok.exf b hb).2 x c e, fun p hp => absurd (show p ∈ ([] : List (Addr × Obj)) ++ [] from hp) (by simp)⟩
  have loop : codeAny (model X.prog X.w) X.A (.compLoop (.DictComp kx vx [⟨tg, iter, ifs, 0⟩] scope pos) 0 (.ref it) (.ref D) ce) (compPost (model X.prog X.w) X.A X.xe none (EP X pins σ Q) (.ref D) s3.heap.objs.size) s4 := by
    refine compLoop_anyD (fun n s' => ∃ i H', Inv (X.blk s3 H3 scope ce fp) [] (wipe σ (own.map (·.2))) H' s' ∧ tn i s'.heap ∧ (∀ b ∈ fp, H' b = none) ∧ W i n H') ?_ m0 ⟨0, H3, I4, t4', nf, w0⟩
    rintro n s5 ⟨i, H5, I5, t5, n5, w5⟩
    rcases turn i n H5 w5 with ⟨stop, fin⟩ | ⟨go, Nx, hNx, step⟩
    · -- the walk is at its end: the def goes on
      refine thnF (T.done (X.blk s3 H3 scope ce fp) rfl rfl rfl hc i [] s5 _ H5 (fun _ _ => False) I5 (outer I5 n5) t5 stop) fun r s6 ⟨hr, I6⟩ => ?_
      subst hr
      have I7 : Inv X pins σ H5 s6 := I3.call' (ch := fp) I6.os I6.base I6.hok I6.bare fun b hb => ⟨(f3 b hb).1.2.2.2.1, (f3 b hb).1.2.1, (f3 b hb).1.2.2.2.2.1, (f3 b hb).1.2.2.2.2.2⟩
      have nC : H5 s3.heap.objs.size = none := by rw [← cL]; exact I6.free
      obtain ⟨m, hn, _⟩ := I6.loc
      have hn' : s6.heap.Ns s3.heap.objs.size m := by rw [← cL]; exact hn
      obtain ⟨g0, g1, g2, g3, g4, g5⟩ := I3.fpOk (Nat.le_refl _) nC
      exact ⟨m, hn', fun h'' sb => ⟨.ref D, H5, I7.turned (t' := s6.toks) (fun b o hb e => (sb.2 b hb).trans e) g0 g1 g3 g4 g5, rfl, fin⟩⟩
    · -- one more turn
      refine thnF (T.item (X.blk s3 H3 scope ce fp) rfl rfl rfl hc i [] s5 _ H5 (fun _ _ => False) I5 (outer I5 n5) t5 go) fun r s6 ⟨u, hr, h6⟩ => ?_
      subst hr
      refine thnF h6 fun _ s7 ⟨x, H7, I7, r7, y7, t7, n7⟩ => ?_
      have I7' := I7.pinned (outer I7 n7) (T.obj _ _ t7)
      refine thnF (pg.run _ s7 _ H7 x u _ I7' r7 (step x H7 y7)) fun _ s8 ⟨σ8, H8, I8, w8, q8⟩ => ?_
      refine thnF (pt.run _ s8 σ8 H8 _ I8 q8) fun b s9 ⟨H9, I9, q9⟩ => ?_
      have again : ∀ {s' : Shared} {H' : Hp}, Inv (X.blk s3 H3 scope ce fp) ([] ++ pinsAt fp s7.heap) σ8 H' s' → Nx H' → ∃ m, m < n ∧ ∃ i H', Inv (X.blk s3 H3 scope ce fp) [] (wipe σ (own.map (·.2))) H' s' ∧ tn i s'.heap ∧ (∀ b ∈ fp, H' b = none) ∧ W i m H' := by
        intro s' H' J nx
        obtain ⟨m', hm, w'⟩ := hNx H' nx
        have stay : ∀ b ∈ fp, ∀ o, s7.heap.get? b = some o → s'.heap.get? b = some o ∧ H' b = none := fun b hb o e => by
          have z := J.pin (b, o) (List.mem_append_right _ (List.mem_append_right _ (mem_pinsAt hb e)))
          exact ⟨z.1, z.2.1⟩
        refine ⟨m', hm, i + 1, H', (J.unpinned (pins := [])).weak (by rw [← w8, wipe_length]) (fun j v e => ?_), T.keep _ _ _ t7 fun b hb o e => (stay b hb o e).1, fun b hb => ?_, w'⟩
        · rw [← w8] at e; exact (wipe_some e).1
        · obtain ⟨o, e, _⟩ := T.obj _ _ t7 b hb
          exact (stay b hb o e).2
      cases b with
      | false =>
        simp only [Bool.false_eq_true, if_false] at q9 ⊢
        exact again I9 q9
      | true =>
        simp only [if_true] at q9 ⊢
        refine thnF (pk.run _ s9 σ8 H9 _ I9 q9) fun ky s10 ⟨yk, H10, I10, r10, q10⟩ => ?_
        refine thnF (pe.run _ s10 σ8 H10 _ I10 q10) fun vv s11 ⟨yv, H11, I11, r11, kvs, k, kb, ek, hkb, hD11, hz11, nx⟩ => ?_
        subst ek
        exact dx_dset (X := X.blk s3 H3 scope ce fp) hu I11 hD11 hz11 hkb r10 r11 fun s12 ys I12 d12 => again I12 (nx ys d12)
  exact codeAny_compStart_dict loop (T.self X.A 0 _ _ _ t4' loop)
end
/-- d[y] -/
def tDGetX (P : Program) (w : World) (K : PySem.W.Frag) (td ty : TE) : TE := fun σ H Q => td σ H fun x H1 => ty σ H1 fun y H2 => ∃ a v, x = .ref a ∧ GX P w K H2 a y (some v) ∧ Q v H2
/-- d.get(y, z) -/
def tDGet2X (P : Program) (w : World) (K : PySem.W.Frag) (td ty tx : TE) : TE := fun σ H Q => td σ H fun x H1 => ∃ a, x = .ref a ∧ (∃ kvs, DS P w K H1 a kvs) ∧ ty σ H1 fun y H2 => tx σ H2 fun z H3 => ∃ o, GX P w K H3 a y o ∧ Q (o.getD z) H3
/-- y in d -/
def tDInX (P : Program) (w : World) (K : PySem.W.Frag) (ty td : TE) : TE := fun σ H Q => ty σ H fun y H1 => td σ H1 fun x H2 => ∃ a o, x = .ref a ∧ GX P w K H2 a y o ∧ Q (.bl o.isSome) H2
/-- d[y] = v -/
def sDPutX (P : Program) (w : World) (K : PySem.W.Frag) (td ty tv : TE) : TS := fun D σ H => tv σ H fun v H1 => td σ H1 fun x H2 => ty σ H2 fun y H3 => ∃ a kvs k b, x = .ref a ∧ y = .ref b ∧ DS P w K H3 a kvs ∧ kvs.length < sizeLine ∧
  SqT K H3 b (k.map kV) ∧ ∀ ys, DS P w K (upd H3 a (dX P w a ys)) a (putK kvs k v) → D.nx σ (upd H3 a (dX P w a ys))
/-- {} -/
def tDNewX (P : Program) (w : World) (K : PySem.W.Frag) : TE := fun _ H Q => ∀ p, H p = none → DS P w K (upd H p (dX P w p [])) p [] → Q (.ref p) (upd H p (dX P w p []))
section
variable {X : Cx} {o i e f value : Expr} {pos pos' apos cpos : Pos} {td ty tv tx : TE}
theorem dx_typeIs {pins : List (Addr × Obj)} {σ : L2.St} {H : Hp} {s : Shared} {a : Addr} {kvs : List (List Key × V)} (I : Inv X pins σ H s) (d : DS X.prog X.w X.K H a kvs) :
    s.TypeIs (.ref a) "dict" ∧ ∀ b, Value.ref a = .ref b → ∃ ob, s.heap.get? b = some ob ∧ ob.dict = none := by
  obtain ⟨_, xs, _, _, dd⟩ := dx_at I d
  refine ⟨dd.typeIs, fun b q => ?_⟩
  cases q
  obtain ⟨ob, _, _, h1, h2, _⟩ := dd
  exact ⟨ob, h1, h2.2.1⟩
theorem pe_dgetX (hu : X.A.units + 1 < cLine) (ho : PE X o td) (hi : PE X i ty) (hs : NoSl i) : PE X (.Subscript o i pos) (tDGetX X.prog X.w X.K td ty) := by
  refine ⟨fun pins s σ H Q I h => ?_⟩
  refine subD_of PySem.F.slot_dict_getitem.lookup hs (thn (ho.run pins s σ H _ I h) fun u s1 ⟨x, H1, I1, rx, q1⟩ => thn (hi.run pins s1 σ H1 _ I1 q1) fun iv s2 ⟨y, H2, I2, ry, a, v, ex, g, q2⟩ => ?_)
  subst ex
  obtain rfl : u = Value.ref a := rx
  have t := dx_typeIs I2 g.choose_spec.choose_spec.choose_spec.1
  exact ⟨t.1, dx_get hu I2 g ry fun w' s3 I3 rw' => ⟨v, H2, I3, rw', q2⟩⟩
theorem pc_dinX (hu : X.A.units + 1 < cLine) (hi : PE X i ty) (ho : PE X o td) : PC X .In i o (tDInX X.prog X.w X.K ty td) := by
  refine ⟨fun pins s σ H Q I h => ?_⟩
  refine thn (hi.run pins s σ H _ I h) fun iv s1 ⟨y, H1, I1, ry, q1⟩ => thn (ho.run pins s1 σ H1 _ I1 q1) fun u s2 ⟨x, H2, I2, rx, a, ov, ex, g, q2⟩ => ?_
  subst ex
  obtain rfl : u = Value.ref a := rx
  exact dx_in hu I2 g ry fun s3 I3 => ⟨.bl ov.isSome, H2, I3, rfl, q2⟩
theorem pe_dget2X (hu : X.A.units + 1 < cLine) (ho : PE X o td) (he : PE X e ty) (hf : PE X f tx) (m : M2 X o "get" apos e f cpos) : PE X (.Call (.Attribute o "get" apos) [e, f] [] cpos) (tDGet2X X.prog X.w X.K td ty tx) := by
  refine ⟨fun pins s σ H Q I h => ?_⟩
  refine wpAny_Call_method m.base m.few m.line PySem.F.plainAttrs_dict PySem.F.slot_dict_get PySem.F.type_dict_get (thn (ho.run pins s σ H _ I h) fun u s1 ⟨x, H1, I1, rx, a, ex, ⟨kvs, d⟩, q1⟩ => ?_)
  subst ex
  obtain rfl : u = Value.ref a := rx
  obtain ⟨t1, t2⟩ := dx_typeIs I1 d
  refine ⟨t1, t2, ?_⟩
  rw [m.trees]
  refine Calls.callWith_builtin rfl (Calls.evalArgs_plain (Calls.spliced_cons (thn (he.run pins s1 σ H1 _ I1 q1) fun iv s2 ⟨y, H2, I2, ry, q2⟩ =>
    Calls.spliced_cons (thn (hf.run pins s2 σ H2 _ I2 q2) fun fv s3 ⟨z, H3, I3, rz, ov, g, q3⟩ => Calls.spliced_nil ?_))))
  exact dx_get2 hu I3 g ry rz fun w' s4 I4 rw' => ⟨_, H3, I4, rw', q3⟩
theorem ps_dputX (hu : X.A.units + 1 < cLine) (ho : PE X o td) (hi : PE X i ty) (hv : PE X value tv) (hs : swapsWith value (some (.Subscript o i pos')) pos.line X.env = pure false) :
    PS X (.Assign [.Subscript o i pos'] value pos) (sDPutX X.prog X.w X.K td ty tv) := by
  refine ⟨fun pins s σ H D I h => ?_⟩
  refine wpAny_Assign_Subscript (thn (hv.run pins s σ H _ I h) fun r s1 ⟨v, H1, I1, rv, q1⟩ => thn (ho.run pins s1 σ H1 _ I1 q1) fun u s2 ⟨x, H2, I2, rx, q2⟩ => thn (hi.run pins s2 σ H2 _ I2 q2) fun iv s3 ⟨y, H3, I3, ry, a, kvs, k, b, ex, ey, d, hz, eb, q3⟩ => ?_) hs
  subst ex ey
  obtain rfl : u = Value.ref a := rx
  exact dx_set hu I3 d hz eb ry rv fun s4 ys I4 d4 => ⟨σ, _, I4, q3 ys d4⟩
theorem pe_dnewX : PE X (.Dict [] [] pos) (tDNewX X.prog X.w X.K) := ⟨fun pins s σ H Q I h =>
  wpAny_Dict_empty ⟨.ref s.heap.objs.size, _, I.laid (a := s.heap.objs.size) (o := dX X.prog X.w s.heap.objs.size []) (t' := s.toks) (fun _ _ q => Heap.get?_push_of_some _ q) (Nat.le_refl _) (dX_new s.heap I.big), rfl,
    h _ (I.hok.fresh (Nat.le_refl _)) DS.nil⟩⟩
theorem pe_dgetXk {K : PySem.W.Frag} {P : Program} {w : World} (hu : X.A.units + 1 < cLine) (ho : PE X o td) (hi : PE X i ty) (e : X.K = K) (e1 : X.prog = P) (e2 : X.w = w) (hs : NoSl i) : PE X (.Subscript o i pos) (tDGetX P w K td ty) := by
  subst e e1 e2
  exact pe_dgetX hu ho hi hs
/-- d.items() -/
def tItemsX (P : Program) (w : World) (K : PySem.W.Frag) (td : TE) : TE := fun σ H Q => td σ H fun x H1 => ∃ a kvs, x = .ref a ∧ DS P w K H1 a kvs ∧ ∀ p, H1 p = none → Q (.ref p) (upd H1 p (L2.DX.itemsO p a))
theorem pe_ditemsX (ho : PE X o td) (hbase : attributeBase o "items" X.env (eval o X.env) = eval o X.env := by rfl) (hline : (apos.endLine == cpos.line) = true := by rfl) : PE X (.Call (.Attribute o "items" apos) [] [] cpos) (tItemsX X.prog X.w X.K td) := by
  refine ⟨fun pins s σ H Q I h => ?_⟩
  refine wpAny_Call_method0_late hbase hline (thn (ho.run pins s σ H _ I h) fun v s1 ⟨x, H1, I1, r1, a, kvs, ex, d, q⟩ => ?_)
  subst ex
  obtain rfl : v = Value.ref a := r1
  obtain ⟨t1, t2⟩ := dx_typeIs I1 d
  refine ⟨"dict", _, PySem.F.plainAttrs_dict, PySem.F.slot_dict_items, PySem.F.type_dict_items, t1, t2, Calls.callWith_builtin rfl (PySem.evalArgs_none ?_)⟩
  obtain ⟨hd, xs, _, _, o', es, ep, e1, e2, e3, _⟩ := dx_at I1 d
  exact DT.callItems (es := es) (ep := ep) hd ⟨o', e1, e2, e3⟩ ⟨.ref s1.heap.objs.size, upd H1 s1.heap.objs.size (L2.DX.itemsO s1.heap.objs.size a), I1.laid (t' := s1.toks) (fun b u e => Heap.get?_push_of_some _ e) (Nat.le_refl _) (L2.DX.itemsO_ok (Heap.get?_push_size _ rfl)), rfl, q _ (I1.hok.fresh (Nat.le_refl _))⟩
end
end Es

set_option Elab.async false
set_option linter.all false
set_option maxRecDepth 100000
set_option maxHeartbeats 4000000
/-! iter of a tuple; for .. in an object of an own class, by its own __iter__ that gives a tuple's iterator. -/
namespace Bd
open PySem PySem.Spec PyProof.Rows L2
open Builtin Builtin.ObjectAttr
/-- at it an iterator over the tuple at t that has given nothing -/
def TtO (t it : Addr) : HO := .ext fun h => h.get? it = some { cls := .type "tuple_iterator", data := .fields #[.ref t, .int 0 0] }
theorem ttO_ok {P : Program} {w : World} {H : Hp} {h : Heap} {t it : Addr} (e : h.get? it = some { cls := .type "tuple_iterator", data := .fields #[.ref t, .int 0 0] }) : ObjOk P w H h it (TtO t it) := ⟨e, ⟨_, e⟩, fun _ _ q k => k _ q⟩
theorem call_iterTup {prog : Program} {w : World} {A : Around} {E : Value → Shared → Prop} {s : Shared} {t : Addr} {items : Array Value} {Q : Value → Shared → Prop} (ht : s.heap.IsTuple t items)
    (hQ : Q (.ref s.heap.objs.size) { s with heap := s.heap.push { cls := .type "tuple_iterator", data := .fields #[.ref t, .int 0 0] } }) : wpAny (model prog w) A (call (.builtin "iter") [.ref t]) Q E s := by
  refine PySem.Calls.call_function_entry (by decide +kernel) (by decide +kernel) PySem.W.kdk_entry_iter (PySem.W.kdk_args_iter _) ?_
  unfold PySem.Builtin.«iter»
  refine wpAny_bind (m := someArgs "iter" 1 2 _) (wpAny_of_eq (a := [Value.ref t]) (by first | rfl | kernel_rfl!) ?_)
  show wpAny _ _ (pyIter (.ref t) >>= _) _ _ _
  exact wpAny_bind (wpAny_pyIter_tuple ht (wpAny_pure ⟨_, rfl, hQ⟩))
def rIterT (K : PySem.W.Frag) : List V → Hp → VK → Prop := fun xs H Q => ∃ (t : Addr) (zs : List V), xs = [.ref t] ∧ SqT K H t zs ∧ ∀ it, H it = none → (∀ z o, H z = some o → z < it) → Q (.ref it) (upd H it (TtO t it))
/-- {}, and it is younger than the frame -/
def tDNewN (n : Nat) : TE := fun _ H Q => ∀ p, H p = none → n ≤ p → Q (.ref p) (upd H p (.dT []))
/-- list(xs), and it is younger than the frame -/
def rListN (K : PySem.W.Frag) (n : Nat) : List V → Hp → VK → Prop := fun xs H Q => ∃ p ys, xs = [.ref p] ∧ SqL K H p ys ∧ ∀ l, H l = none → n ≤ l → Q (.ref l) (upd H l (.lst ys))
section
variable {X : Cx}
theorem cr_iterT : CallR X (.builtin "iter") (rIterT X.K) := by
  intro pins s σ H xs us Q I r h
  obtain ⟨t, zs, rfl, hq, q⟩ := h
  obtain rfl := Vals.ref1 r
  obtain ⟨its, rv, p, hz⟩ := I.tuple hq
  refine call_iterTup (show s.heap.IsTuple t its.toArray from p) ?_
  refine ⟨.ref s.heap.objs.size, _, I.laid (t' := s.toks) (fun b u e => Heap.get?_push_of_some _ e) (Nat.le_refl _) (ttO_ok (Heap.get?_push_size _ rfl)), rfl, q _ (I.hok.fresh (Nat.le_refl _)) fun z o e => ?_⟩
  obtain ⟨u, hu⟩ := objOk_get (I.hok z o e)
  exact Heap.lt_size hu
theorem pe_dnewN {pos : Pos} : PE X (.Dict [] [] pos) (tDNewN X.s_0.heap.objs.size) := ⟨fun pins s σ H Q I h =>
  wpAny_Dict_empty ⟨.ref s.heap.objs.size, _, I.laid (a := s.heap.objs.size) (o := .dT []) (t' := s.toks) (fun _ _ q => Heap.get?_push_of_some _ q) (Nat.le_refl _) (dt_empty s.heap I.big), rfl, h _ (I.hok.fresh (Nat.le_refl _)) I.sz⟩⟩
theorem call_listN : CallR X (.type "list") (rListN X.K X.s_0.heap.objs.size) := by
  intro pins s σ H xs us Q I r h
  obtain ⟨p, ys, rfl, hq, q⟩ := h
  obtain ⟨u, rfl, rx⟩ := vals1 r
  cases rx
  obtain ⟨its, r', pl, hz⟩ := I.list hq
  have hlen := r'.length
  obtain ⟨o, ho, hc, n, hd⟩ := pl.isList
  refine call_list_seq p (.inl rfl) ho hc hd (fun h' c' kp e => ?_) (by simp only [List.size_toArray] <;> omega)
  exact ⟨.ref s.heap.objs.size, _, I.laid (t' := s.toks) kp (Nat.le_refl _) (show ObjOk X.prog X.w _ h' _ (.lst ys) from ⟨hz, its, c', r', e⟩), rfl, q _ (I.hok.fresh (Nat.le_refl _)) I.sz⟩
variable {pins : List (Addr × Obj)} {σ : L2.St} {H : Hp} {s : Shared} {CT : CXT} {n : Nat} {C f : Addr} {fd : FuncData} {ps : List Str} {sp : Sp} {E : XK} {tg e : Expr} {te : TE}
/-- e an object of the class at C, walked by its own __iter__ -/
def iOwn (K : PySem.W.Frag) (n : Nat) (C : Addr) (sp : Sp) (E : XK) (te : TE) : TI := fun σ H R => te σ H fun x H1 => ∃ a dx fs, x = .ref a ∧ H1 a = some (.ins C dx fs) ∧
  sp [.ref a] H1 (fun v H2 => ∃ it t xs, v = .ref it ∧ n ≤ it ∧ H2 it = some (TtO t it) ∧ SqT K H2 t xs ∧ R (Itt K t) (ItX.dropH H2 it)) E
theorem pi_own (F : FnOk X.prog X.w X.K X.mg X.base CT n f fd ps sp) (hs : PySem.W.findIn X.K (.ref C) "__iter__" = some (some (.ref f))) (hf : PySem.W.isFn X.K (.ref f) = true) (hb : Binds X.K fd ps []) (hx : Passes CT X E) (hr : Room n X.A) (he : PE X e te) :
    PI X tg e (iOwn X.K X.s_0.heap.objs.size C sp E te) := by
  refine ⟨fun pins s σ H R I h => ?_⟩
  refine thn (he.run pins s σ H _ I h) fun u s1 ⟨x, H1, I1, r1, a, dx, fs, ex, ea, hsp⟩ => ?_
  subst ex
  obtain rfl : u = Value.ref a := r1
  obtain ⟨mA, J, _⟩ := ins_get I1.hok ea
  obtain ⟨od, J, _⟩ := J.look
  obtain ⟨m, hF⟩ := I1.fr
  refine PySem.W.owit_iter hF I1.ok.mod.kin J hs hf ?_
  refine thn (call_def F hb hx hr I1 (vs := [.ref a]) (.cons rfl .nil) hsp) fun u s2 ⟨v, H2, I2, r2, it, t, xs, ev, hsz, hit, hq, hR⟩ => ?_
  subst ev
  obtain rfl : u = Value.ref it := r2
  have ho : s2.heap.get? it = some { cls := .type "tuple_iterator", data := .fields #[.ref t, .int 0 0] } := (I2.hok it _ hit).1
  have hT : s2.TypeIs (.ref it) "tuple_iterator" := ⟨_, ho, rfl⟩
  unfold PySem.W.OwitIt
  refine wpAny_specialOf (name := Str.ofString "__next__") hT slot_tupleiter_next.lookup ?_
  have hit' := hit
  unfold TtO at hit'
  refine ⟨it, [it], _, _, ItX.dropH H2 it, rfl, ItX.inv_drop I2 hit', turn_tuple t it, ⟨_, ho, rfl, rfl⟩, fun b hb => ?_, hR⟩
  have e : b = it := by simpa using hb
  rw [e]
  exact ItX.inv_fp I2 hit hsz
/-- e a list, a tuple, or an object of the class at C -/
def iAny (K : PySem.W.Frag) (n : Nat) (C : Addr) (sp : Sp) (E : XK) (te : TE) : TI := fun σ H R => iLt K te σ H R ∨ iOwn K n C sp E te σ H R
theorem pi_any (F : FnOk X.prog X.w X.K X.mg X.base CT n f fd ps sp) (hs : PySem.W.findIn X.K (.ref C) "__iter__" = some (some (.ref f))) (hf : PySem.W.isFn X.K (.ref f) = true) (hb : Binds X.K fd ps []) (hx : Passes CT X E) (hr : Room n X.A) (he : PE X e te) :
    PI X tg e (iAny X.K X.s_0.heap.objs.size C sp E te) := ⟨fun pins s σ H R I h => h.elim ((pi_lt he).run pins s σ H R I) ((pi_own F hs hf hb hx hr he).run pins s σ H R I)⟩
end
end Bd
namespace Rb
open PySem PySem.Spec PyProof.Rows L2
theorem op_neDK {X : Cx} {K : PySem.W.Frag} (h : X.K = K) (hu : X.A.units + 64 < cLine) : OpR X (compareOp .NotEq) (rNeD K) := h ▸ op_neD hu
end Rb

set_option Elab.async false
set_option linter.all false
set_option maxRecDepth 100000
set_option maxHeartbeats 4000000
/-! bool of a tuple and of an object with an own __bool__; in, by an own __contains__; C.m(..) of a staticmethod. -/
namespace Bd
open PySem PySem.Spec PyProof.Rows L2
open Builtin Builtin.ObjectAttr
section
variable {prog : Program} {w : World} {A : Around} {E : Value → Shared → Prop} {s : Shared}
/-- bool(x), by what x is as a test -/
theorem call_boolBy {x : Value} {Q : Value → Shared → Prop} (h : wpAny (model prog w) A.in1.in1 (truthy x) (fun b s' => Q (.bool b) s') E s) : wpAny (model prog w) A (call (.type "bool") [x]) Q E s := by
  refine callType_newIn (S := fun A R s => wpAny (model prog w) A.in1 (truthy x) (fun b s' => R (.ok (.ret (.bool b))) s') (fun e s' => R (.error e) s') s) F.called_bool F.newNe_bool (F.typeCall_bool_1 x) (F.newCall_bool_1 x) (fun obj => F.args_object_init_2 obj x) F.entry_bool_new (MeetsIn.of_wp fun A R s h => ?_) ?_
  · have hsub := F.called_bool.sub
    unfold PySem.Builtin.«bool.__new__»
    have key : wpAny (model prog w) A.in1 (truthy x >>= fun b => ret (.bool b)) (fun fin s' => ∃ v, fin = Fin.done (Flow.ret v) ∧ R (Except.ok (Flow.ret v)) s') (fun e s' => R (Except.error e) s') s :=
      wpAny_bind (wpAny_mono h (fun b s' hq => wpAny_pure ⟨_, rfl, hq⟩) fun _ _ z => z)
    repeat (first | exact key | assumption | wp_step)
  · exact wpAny_mono h (fun b s' hq => ⟨rfl, hq⟩) fun _ _ z => z
end
section
variable {X : Cx} {pins : List (Addr × Obj)} {σ : L2.St} {H : Hp} {s : Shared} {CT : CXT} {n : Nat} {C f : Addr} {fd : FuncData} {ps : List Str} {sp : Sp} {E : XK}
/-- bool(t), t a tuple -/
def rBoolT (K : PySem.W.Frag) : List V → Hp → VK → Prop := fun xs H Q => ∃ (a : Addr) (zs : List V), xs = [.ref a] ∧ H a = some (.tup zs) ∧ Q (.bl (!zs.isEmpty)) H
theorem call_boolT : CallR X (.type "bool") (rBoolT X.K) := by
  intro pins s σ H xs us Q I r h
  obtain ⟨a, zs, rfl, hq, q⟩ := h
  obtain rfl := Vals.ref1 r
  obtain ⟨hz, its, rv, o, ho, hc, m, hd⟩ := (show ObjOk X.prog X.w H s.heap a (.tup zs) from I.hok a _ hq)
  have hl := line63
  have hlen := rv.length
  refine call_boolBy (PyProof.Rows.truthy_tuple (items := its.toArray) ⟨o, ho, hc, m, hd⟩ (by rw [List.size_toArray]; omega) ?_)
  exact ⟨.bl (!zs.isEmpty), H, I.tok _, by rw [isEmpty_of rv]; rfl, q⟩
/-- a call of a def two calls down -/
theorem call_def2 {vs : List V} {us : List Value} {Q : VK} (F : FnOk X.prog X.w X.K X.mg X.base CT n f fd ps sp) (hb : Binds X.K fd ps []) (hx : Passes CT X E) (hr : Room n X.A.in1.in1) (I : Inv X pins σ H s) (r : Vals vs us) (hsp : sp vs H Q E) :
    wpAny (model X.prog X.w) X.A.in1.in1 (call (.ref f) us) (EP X pins σ Q) X.xe s := by
  have hl := F.len _ _ _ _ hsp
  have hu : us.length = ps.length := by rw [← r.length]; exact hl
  refine wpAny_call (codeAny_mono (F.run X.A.in1.in1 X.stack s H ⟨us, []⟩ us vs Q E hr I.env0.in1.in1 (by
    have := hb s us I.kIn (by simpa using hu)
    simpa using this) r hsp) fun z s' hq => ?_)
  cases z with
  | error e => exact hx pins σ H s e s' I hq
  | ok fl =>
    cases fl with
    | ret w => exact I.after hq
    | next => exact False.elim hq
    | brk => exact False.elim hq
    | cont => exact False.elim hq
/-- bool(x), x an object of the class at C that has its own __bool__ -/
def rBoolOwn (C : Addr) (sp : Sp) (E : XK) : List V → Hp → VK → Prop := fun xs H Q => ∃ a dx fs, xs = [.ref a] ∧ H a = some (.ins C dx fs) ∧ sp [.ref a] H (fun v H' => ∃ t, v = .bl t ∧ Q (.bl t) H') E
theorem call_boolOwn (F : FnOk X.prog X.w X.K X.mg X.base CT n f fd ps sp) (hs : PySem.W.findIn X.K (.ref C) "__bool__" = some (some (.ref f))) (hf : PySem.W.isFn X.K (.ref f) = true) (hb : Binds X.K fd ps []) (hx : Passes CT X E) (hr : Room (n + 2) X.A) : CallR X (.type "bool") (rBoolOwn C sp E) := by
  intro pins s σ H xs us Q I r h
  obtain ⟨a, dx, fs, rfl, ha, hsp⟩ := h
  obtain rfl := Vals.ref1 r
  obtain ⟨mA, J, _⟩ := ins_get I.hok ha
  obtain ⟨od, J, _⟩ := J.look
  refine call_boolBy ?_
  unfold truthy
  have key : wpAny (model X.prog X.w) X.A.in1.in1 (callSpecial? (.ref a) (Str.ofString "__bool__") []) (fun r s' => ∃ t, r = some (Value.bool t) ∧ EP X pins σ Q (.bool t) s') X.xe s := by
    refine PySem.W.special_fn I.kIn J hs (beq_iff_eq.mp hf) ?_
    refine thn (call_def2 F hb hx hr.in1.in1 I (vs := [.ref a]) (.cons rfl .nil) hsp) fun u s' ⟨v, H', I', r', t, ev, q⟩ => ?_
    subst ev
    cases r'
    exact ⟨t, rfl, .bl t, H', I', rfl, q⟩
  refine wpAny_bind (wpAny_mono key (fun r s' h' => ?_) fun _ _ z => z)
  obtain ⟨t, rfl, q⟩ := h'
  exact wpAny_pure q
/-- x in y, y an object of the class at C that has its own __contains__ -/
def rInOwn (C : Addr) (sp : Sp) (E : XK) : R2 := fun x y H Q => ∃ b dx fs, y = .ref b ∧ H b = some (.ins C dx fs) ∧ sp [.ref b, x] H (fun v H' => ∃ t, v = .bl t ∧ Q (.bl t) H') E
theorem op_inOwn (F : FnOk X.prog X.w X.K X.mg X.base CT n f fd ps sp) (hs : PySem.W.findIn X.K (.ref C) "__contains__" = some (some (.ref f))) (hf : PySem.W.isFn X.K (.ref f) = true) (hb : Binds X.K fd ps []) (hx : Passes CT X E) (hr : Room n X.A) : OpR X (compareOp .In) (rInOwn C sp E) := by
  intro pins s σ H x y v u Q I rx ry h
  obtain ⟨b, dx, fs, rfl, hb', hsp⟩ := h
  obtain rfl : u = Value.ref b := ry
  obtain ⟨mA, J, _⟩ := ins_get I.hok hb'
  obtain ⟨od, J, _⟩ := J.look
  have X0 := I.kIn
  have cl : wpAny (model X.prog X.w) X.A (call (.ref f) [.ref b, v]) (fun r s' => ∃ t, r = Value.bool t ∧ EP X pins σ Q (.bool t) s') X.xe s := by
    refine thn (call_def F hb hx hr I (vs := [.ref b, x]) (.cons rfl (.cons rx .nil)) hsp) fun u s' ⟨v, H', I', r', t, ev, q⟩ => ?_
    subst ev
    cases r'
    exact ⟨t, rfl, .bl t, H', I', rfl, q⟩
  show wpAny _ _ (contains (.ref b) v >>= fun t => pure (Value.bool t)) _ _ _
  refine wpAny_bind ?_
  unfold contains
  refine wpAny_holding ?_
  show wpAny _ _ (specialOf (.ref b) (Str.ofString "__contains__") >>= _) _ _ _
  refine wpAny_bind (wpAny_bind (J.type.here ((PySem.W.looks_findIn X0 hs).here ?_)))
  show wpAny _ _ (callSpecialUnlessNone? (.ref b) (Str.ofString "__contains__") [v] _ >>= _) _ _ _
  unfold callSpecialUnlessNone?
  refine wpAny_bind (wpAny_bind (wpAny_bind (J.type.here ((PySem.W.looks_findIn X0 hs).here ?_))))
  refine wpAny_holding (wpAny_bind ((PySem.W.bind_fn X0 _ (beq_iff_eq.mp hf)).here ?_))
  refine PySem.W.KFB.if_not rfl ?_
  refine wpAny_bind (wpAny_mono cl (fun r s' h' => ?_) fun _ _ z => z)
  obtain ⟨t, rfl, q⟩ := h'
  exact wpAny_pure (wpAny_pure (wpAny_pure q))
/-- what is told of a staticmethod m of the class at C: its record at p, its def at g -/
structure StatC (K : PySem.W.Frag) (C : Addr) (m : Str) (g : Addr) : Prop where
  rd : PySem.W.readsIn K C (.type "type") = true
  ga : PySem.W.specialIn K (.ref C) "__getattribute__" = some (some (.builtin "type.__getattribute__"))
  at_ : ∃ p, PySem.W.findCls K (.ref C) (.type "type") m = some (.get (.builtin "staticmethod.__get__") (.ref p) .none (.ref C)) ∧ ∃ rest, PySem.W.recIn K p "staticmethod" = some (.ref g :: rest)
  kp : PySem.W.keepIn K (.ref g) = true
/-- o.m(..), o the class at C, m a staticmethod -/
def tStat (C : Addr) (sp : Sp) (E : XK) (ta : TE) (t : TA) : TE := fun σ H Q => ta σ H fun x H1 => x = .ref C ∧ t σ H1 fun vs H2 => sp vs H2 Q E
theorem pe_static {g : Addr} {m : Str} {o e : Expr} {es : List Expr} {pos apos : Pos} {ta : TE} {t : TA} {pl : Sem Bool} (he : PE X o ta) (c : StatC X.K C m g) (F : FnOk X.prog X.w X.K X.mg X.base CT n g fd ps sp) (hr : Room n X.A) (hb : Binds X.K fd ps []) (hx : Passes CT X E) (ha : PA X (e :: es) t)
    (hst : starEach (e :: es) X.env = (false, eval e X.env) :: starEach es X.env := by rfl) (hpl : (backTo pos (starEach es X.env)).any (·.1) = false := by rfl)
    (ht : eval (.Call (.Attribute o m apos) (e :: es) [] pos) X.env = (do
      let ov ← eval o X.env
      standAt apos.atName
      let (f, first) ← holding [ov] (getMethod ov m pl)
      callWith pos f first (backTo pos (starEach (e :: es) X.env)) (backToKw pos (keywordEach [] X.env))) := by rfl) :
    PE X (.Call (.Attribute o m apos) (e :: es) [] pos) (tStat C sp E ta t) := by
  refine ⟨fun pins s σ H Q I h => ?_⟩
  refine PySem.W.methodCall_KW (pl := pl) (thn (he.run pins s σ H _ I h) fun u s1 ⟨x, H1, I1, rx, ex, q⟩ => ?_) ht
  subst ex
  obtain rfl : u = Value.ref C := rx
  obtain ⟨p, h1, rest, h2⟩ := c.at_
  refine PySem.W.method_cls I1.kIn c.ga (PySem.W.cls_bind I1.kIn c.rd h1 ?_)
  refine wpAny_call (PySem.W.sm_get (s := { s1 with toks := s1.toks + 1 }) I1.kIn h2 (PySem.W.handed_on rfl ?_))
  have I2 := I1.tok (s1.toks + 1)
  refine PySem.W.callWith_K (h₀ := X.base) I2.ok.mod.kin c.kp (thn (ha.run pos pins _ σ H1 _ I2 q) fun us s3 ⟨vs, H2, I3, rv, q2⟩ => ⟨I3.kIn, ?_⟩) hst hpl
  exact call_def F hb hx hr I3 rv q2
end
end Bd

set_option Elab.async false
set_option linter.all false
set_option maxRecDepth 100000
set_option maxHeartbeats 4000000
/-! What the start leaves, with defs that stand behind a property or a staticmethod. -/
namespace Bd
open PySem PySem.Spec PyProof.Rows L2
/-- the part of the heap that is looked at -/
def fragY (n : Nat) (g : Addr → Option Obj) : PySem.W.Frag := He.frG g (He.asD g n ++ [cStatics])
/-- all that is told of it -/
structure SaysY (fa : List He.Fa) (fn : List He.DefD) (ex : PySem.W.Frag → Bool) (fx : List He5.DefA) (K : PySem.W.Frag) : Prop where
  d : He.SaysD fa fn K
  more : ex K = true
  fns : (fx.map fun z => He5.fnA K (z.at_ K)) = fx.map He5.DefA.val
  oks : (fx.all fun z => z.ok K) = true
abbrev TellY : Type := He.AlD × (Bool × (List He5.FnW × Bool))
def tellY (fa : List He.Fa) (fn : List He.DefD) (ex : PySem.W.Frag → Bool) (fx : List He5.DefA) (K : PySem.W.Frag) : TellY := (He.obsD fa fn K, ex K, fx.map (fun z => He5.fnA K (z.at_ K)), fx.all fun z => z.ok K)
def wantY (fn : List He.DefD) (fx : List He5.DefA) : TellY := (He.valD fn, true, fx.map He5.DefA.val, true)
theorem saysY {fa : List He.Fa} {fn : List He.DefD} {ex : PySem.W.Frag → Bool} {fx : List He5.DefA} {K : PySem.W.Frag} (e : tellY fa fn ex fx K = wantY fn fx) : SaysY fa fn ex fx K :=
  ⟨congrArg (fun z : TellY => z.1) e, congrArg (fun z : TellY => z.2.1) e, congrArg (fun z : TellY => z.2.2.1) e, congrArg (fun z : TellY => z.2.2.2) e⟩
def hookY (n : Nat) (fa : List He.Fa) (fn : List He.DefD) (ex : PySem.W.Frag → Bool) (fx : List He5.DefA) : PySem.W.Hook where
  α := TellY
  obs := fun s => tellY fa fn ex fx (fragY n s.heap.get?)
  val := fun _ => wantY fn fx
  says := fun _ h => ∃ K : PySem.W.Frag, K.In h ∧ SaysY fa fn ex fx K
  of := fun _ _ e => ⟨_, He.frG_in, saysY e⟩
  keeps := fun _ _ _ ⟨K, hK, c⟩ k => ⟨K, PySem.W.Frag.In.keeps hK k, c⟩
def obsY (n : Nat) (fa : List He.Fa) (fn : List He.DefD) (ex : PySem.W.Frag → Bool) (fx : List He5.DefA) (g : Addr → Option Obj) : TellY := tellY fa fn ex fx (fragY n g)
theorem obsY_eq {n : Nat} {fa : List He.Fa} {fn : List He.DefD} {ex : PySem.W.Frag → Bool} {fx : List He5.DefA} {g : Addr → Option Obj} {s : Shared} (h : ∀ a, g a = s.heap.get? a) : obsY n fa fn ex fx g = (hookY n fa fn ex fx).obs s := by
  have e : g = s.heap.get? := funext h
  rw [e]
  rfl
/-- the i-th of these defs -/
theorem SaysY.def_ {fa : List He.Fa} {fn : List He.DefD} {ex : PySem.W.Frag → Bool} {fx : List He5.DefA} {K : PySem.W.Frag} (c : SaysY fa fn ex fx K) (i : Nat) {d : He5.DefA} (h : fx[i]? = some d) :
    ∃ fd, FunD K d.name d.qual d.params d.body d.scope (d.dvs K) (d.kws K) (d.at_ K) fd := by
  have e : (fx.map fun z => He5.fnA K (z.at_ K))[i]? = (fx.map He5.DefA.val)[i]? := by rw [c.fns]
  rw [List.getElem?_map, List.getElem?_map, h] at e
  exact He5.DefA.funD (Option.some.inj e) (List.all_eq_true.mp c.oks d (List.mem_of_getElem? h))
/-- the def behind a record -/
abbrev pAd (K : PySem.W.Frag) (c m : Str) : Addr := He5.wf K (He.ga K c) "property" m
abbrev sAd (K : PySem.W.Frag) (c m : Str) : Addr := He5.wf K (He.ga K c) "staticmethod" m
def recB (K : PySem.W.Frag) (p g : Addr) (T : String) : Bool := match PySem.W.recIn K p T with
  | some (.ref f :: _) => decide (f = g)
  | _ => false
theorem recB_ok {K : PySem.W.Frag} {p g : Addr} {T : String} (h : recB K p g T = true) : ∃ rest, PySem.W.recIn K p T = some (.ref g :: rest) := by
  unfold recB at h
  split at h
  · rename_i f r e
    rw [e, of_decide_eq_true h]
    exact ⟨r, rfl⟩
  · cases h
def propB (K : PySem.W.Frag) (C : Addr) (m : Str) : Bool :=
  He.eqO (PySem.W.findIn K (.ref C) m) (some (some (.ref (He.ma K C m)))) && (He.eqO (PySem.W.specialIn K (.ref (He.ma K C m)) "__get__") (some (some (.builtin "property.__get__"))) &&
  (decide (PySem.W.takesIn K (.ref (He.ma K C m)) = some true) && recB K (He.ma K C m) (He5.wf K C "property" m) "property"))
theorem propB_ok {K : PySem.W.Frag} {C : Addr} {m : Str} (h : propB K C m = true) : PropOf K C m (He.ma K C m) (He5.wf K C "property" m) := by
  unfold propB at h
  simp only [Bool.and_eq_true] at h
  exact ⟨He.eqO_ok h.1, He.eqO_ok h.2.1, of_decide_eq_true h.2.2.1, recB_ok h.2.2.2⟩
def statB (K : PySem.W.Frag) (C : Addr) (m : Str) : Bool :=
  PySem.W.readsIn K C (.type "type") && (He.eqO (PySem.W.specialIn K (.ref C) "__getattribute__") (some (some (.builtin "type.__getattribute__"))) &&
  (He5.wrapB K C "staticmethod" "staticmethod.__get__" m && PySem.W.keepIn K (.ref (He5.wf K C "staticmethod" m))))
theorem statB_ok {K : PySem.W.Frag} {C : Addr} {m : Str} (h : statB K C m = true) : StatC K C m (He5.wf K C "staticmethod" m) := by
  unfold statB at h
  simp only [Bool.and_eq_true] at h
  obtain ⟨h1, h2⟩ := He5.wrapB_ok h.2.2.1
  exact ⟨h.1, He.eqO_ok h.2.1, ⟨_, h1, h2⟩, h.2.2.2⟩
end Bd

set_option Elab.async false
set_option linter.all false
set_option maxRecDepth 100000
set_option maxHeartbeats 4000000
/-! Rows and bundles as data; dicts with tuple keys, as rules of reading. -/
namespace Es
open PySem PySem.Spec PyProof.Rows L2 Bd Dj
theorem DS.keep {P : Program} {w : World} {K : PySem.W.Frag} {H H' : Hp} {a : Addr} {kvs : List (List Key × V)} (e : Same H H') (h : DS P w K H a kvs) : DS P w K H' a kvs := by
  obtain ⟨z, xs, h1, h2⟩ := h
  exact ⟨z, xs, e _ _ h1, h2.keeps fun b ys q => Rd.same_tup e q⟩
theorem DS.keepT {P : Program} {w : World} {K : PySem.W.Frag} {H H' : Hp} {a : Addr} {kvs : List (List Key × V)} (e : H' a = H a) (t : ∀ q ys, SqT K H q ys → SqT K H' q ys) (h : DS P w K H a kvs) : DS P w K H' a kvs := by
  obtain ⟨z, xs, h1, h2⟩ := h
  exact ⟨z, xs, e.trans h1, h2.keeps t⟩
theorem GX.of {P : Program} {w : World} {K : PySem.W.Frag} {H : Hp} {a kq : Addr} {p : Ast} {m : List (Ast × V)} (d : DS P w K H a (eD m)) (e : SqT K H kq [.str p.1, .int p.2]) : GX P w K H a (.ref kq) (valV (eD m) (eK p)) := ⟨eD m, eK p, kq, d, rfl, e, rfl⟩
theorem encR_nl (e : Ast × Int) : nl (encR e) = true := by simp [encR, nl, nlAll]
theorem encR_nd (e : Ast × Int) : nd (encR e) = true := by simp [encR, nd, ndAll]
theorem encR_nb (e : Ast × Int) : nb (encR e) = true := by simp [encR, nb, nbAll]
theorem encA_nl (e : Ast) : nl (encA e) = true := by simp [encA, nl, nlAll]
theorem encA_nd (e : Ast) : nd (encA e) = true := by simp [encA, nd, ndAll]
theorem encA_nb (e : Ast) : nb (encA e) = true := by simp [encA, nb, nbAll]
section
variable {K : PySem.W.Frag} {H : Hp}
theorem dpRow {x : V} {e : Ast × Int} (h : Dp K H x (encR e)) : ∃ z kq, x = .ref z ∧ SqT K H z [.ref kq, .int e.2] ∧ SqT K H kq [.str e.1.1, .int e.1.2] := by
  obtain ⟨z, u, v, rfl, hz, hu, hv⟩ := dp_pair h
  obtain ⟨kq, a, b, rfl, hk, ha, hb⟩ := dp_pair hu
  cases dp_str ha; cases dp_int hb; cases dp_int hv
  exact ⟨z, kq, rfl, hz, hk⟩
theorem rowDp {z kq : Addr} {p : Ast} {q : Int} (h : SqT K H z [.ref kq, .int q]) (k : SqT K H kq [.str p.1, .int p.2]) : Dp K H (.ref z) (encR (p, q)) := .tup h (.cons (.tup k (.cons (.str _) (.cons (.int _) .nil))) (.cons (.int _) .nil))
theorem astDp {kq : Addr} {p : Ast} (k : SqT K H kq [.str p.1, .int p.2]) : Dp K H (.ref kq) (encA p) := .tup k (.cons (.str _) (.cons (.int _) .nil))
theorem dpAst {x : V} {p : Ast} (h : Dp K H x (encA p)) : ∃ z, x = .ref z ∧ SqT K H z [.str p.1, .int p.2] := by
  obtain ⟨z, u, v, rfl, hz, hu, hv⟩ := dp_pair h
  cases dp_str hu; cases dp_int hv
  exact ⟨z, rfl, hz⟩
theorem rowAt {xs : List V} {R : List (Ast × Int)} {i : Nat} {x : V} (h : DpAll K H xs (R.map encR)) (hi : xs[i]? = some x) : ∃ z kq e, x = .ref z ∧ R[i]? = some e ∧ SqT K H z [.ref kq, .int e.2] ∧ SqT K H kq [.str e.1.1, .int e.1.2] := by
  obtain ⟨d, hd, hx⟩ := dpAll_at h hi
  obtain ⟨e, he, rfl⟩ := map_at hd
  obtain ⟨z, kq, rfl, h1, h2⟩ := dpRow hx
  exact ⟨z, kq, e, rfl, he, h1, h2⟩
theorem rowsLen {xs : List V} {R : List (Ast × Int)} (h : DpAll K H xs (R.map encR)) : xs.length = R.length := by rw [Rd.dpAll_len h, List.length_map]
theorem rowsOf : ∀ {zs : List (Addr × (Ast × V))} {R : List (Ast × Int)}, zs.map (·.2) = R.map (fun e => (e.1, V.int e.2)) →
    (∀ z ∈ zs, ∃ kq, H z.1 = some (.tup [.ref kq, z.2.2]) ∧ SqT K H kq [.str z.2.1.1, .int z.2.1.2]) → DpAll K H (zs.map fun z => V.ref z.1) (R.map encR)
  | [], [], _, _ => .nil
  | z :: zs, [], h, _ => by simp at h
  | [], e :: R, h, _ => by simp at h
  | z :: zs, e :: R, h, k => by
    simp only [List.map_cons, List.cons.injEq] at h
    obtain ⟨kq, h1, h2⟩ := k z List.mem_cons_self
    rw [h.1] at h1 h2
    exact .cons (rowDp (SqT.of h1) h2) (rowsOf h.2 fun y hy => k y (List.mem_cons_of_mem _ hy))
end
/-- the bundle at b has the rows N -/
def BdS (P : Program) (w : World) (K : PySem.W.Frag) (H : Hp) (b : Addr) (N : List (Ast × Int)) : Prop := ∃ dx r d xs, H b = some (.ins (He.ga K "Bundle") dx [("_quantities", .ref d), ("rows", .ref r)]) ∧ H r = some (.tup xs) ∧ DpAll K H xs (N.map encR) ∧ DS P w K H d (eD (N.map fun e => (e.1, V.int e.2))) ∧ Nrm N
theorem BdS.keep {P : Program} {w : World} {K : PySem.W.Frag} {H H' : Hp} {b : Addr} {N : List (Ast × Int)} (h : BdS P w K H b N) (e : Same H H') : BdS P w K H' b N := by
  obtain ⟨dx, r, d, xs, h1, h2, h3, h4, h5⟩ := h
  exact ⟨dx, r, d, xs, e _ _ h1, e _ _ h2, dpAll_same e h3, h4.keep e, h5⟩
theorem BdS.nrm {P : Program} {w : World} {K : PySem.W.Frag} {H : Hp} {b : Addr} {N : List (Ast × Int)} (h : BdS P w K H b N) : Nrm N := by
  obtain ⟨_, _, _, _, _, _, _, _, h⟩ := h; exact h
/-- what tells the quantity of an asset in a bundle's dict -/
theorem tot_of {p : Ast} : ∀ {N : List (Ast × Int)}, (N.map (·.1)).Nodup → (valV (N.map fun e => (e.1, V.int e.2)) p).getD (.int 0) = .int (tot N p)
  | [], _ => rfl
  | e :: N, h => by
    have h1 : e.1 ∉ N.map (·.1) := (List.nodup_cons.mp h).1
    have h2 := tot_of (p := p) (List.nodup_cons.mp h).2
    by_cases q : e.1 = p
    · have hz : tot N p = 0 := tot_none (by rw [← q]; exact h1)
      rw [List.map_cons, valV_pos q]
      show V.int e.2 = V.int (tot (e :: N) p)
      have : tot (e :: N) p = e.2 + tot N p := by show (if e.1 = p then e.2 else 0) + tot N p = _; rw [if_pos q]
      rw [this, hz, Int.add_zero]
    · rw [List.map_cons, valV_neg q, h2]
      have : tot (e :: N) p = tot N p := by show (if e.1 = p then e.2 else 0) + tot N p = _; rw [if_neg q, Int.zero_add]
      rw [this]
theorem has_of {p : Ast} : ∀ {N : List (Ast × Int)}, (N.map (·.1)).Nodup → (∀ e ∈ N, e.2 ≠ 0) → (valV (N.map fun e => (e.1, V.int e.2)) p).isSome = decide (tot N p ≠ 0)
  | [], _, _ => rfl
  | e :: N, h, z => by
    have h1 : e.1 ∉ N.map (·.1) := (List.nodup_cons.mp h).1
    have h2 := has_of (p := p) (List.nodup_cons.mp h).2 fun f hf => z f (List.mem_cons_of_mem _ hf)
    by_cases q : e.1 = p
    · have hz : tot N p = 0 := tot_none (by rw [← q]; exact h1)
      rw [List.map_cons, valV_pos q]
      have : tot (e :: N) p = e.2 + tot N p := by show (if e.1 = p then e.2 else 0) + tot N p = _; rw [if_pos q]
      rw [this, hz, Int.add_zero]
      exact (decide_eq_true (z e List.mem_cons_self)).symm
    · rw [List.map_cons, valV_neg q, h2]
      have : tot (e :: N) p = tot N p := by show (if e.1 = p then e.2 else 0) + tot N p = _; rw [if_neg q, Int.zero_add]
      rw [this]
/-- the same of the first i keys, each taken once -/
theorem rowsC_dp {K : PySem.W.Frag} {H : Hp} {ps : List (Addr × Ast)} (h : AsS K H ps) : DpAll K H (ps.map fun z => V.ref z.1) ((ps.map (·.2)).map encA) := by
  induction ps with
  | nil => exact .nil
  | cons z ps ih => exact .cons (astDp (h z List.mem_cons_self)) (ih fun y hy => h y (List.mem_cons_of_mem _ hy))
end Es
namespace Re
open PySem PySem.Spec PyProof.Rows L2 Bd Es
section
variable {P : Program} {w : World} {K : PySem.W.Frag} {σ : L2.St} {H : Hp} {Q : VK} {td ty tx tv : TE} {n b c : L2.St → Hp → Prop} {r : VK}
theorem itemsX (k : td σ H fun x H1 => ∃ a kvs, x = .ref a ∧ DS P w K H1 a kvs ∧ ∀ p, H1 p = none → Q (.ref p) (upd H1 p (L2.DX.itemsO p a))) : tItemsX P w K td σ H Q := k
theorem dnewX (k : ∀ p, H p = none → DS P w K (upd H p (dX P w p [])) p [] → Q (.ref p) (upd H p (dX P w p []))) : tDNewX P w K σ H Q := k
theorem dget2X (k : td σ H fun x H1 => ∃ a, x = .ref a ∧ (∃ kvs, DS P w K H1 a kvs) ∧ ty σ H1 fun y H2 => tx σ H2 fun z H3 => ∃ o, GX P w K H3 a y o ∧ Q (o.getD z) H3) : tDGet2X P w K td ty tx σ H Q := k
theorem dgetX (k : td σ H fun x H1 => ty σ H1 fun y H2 => ∃ a v, x = .ref a ∧ GX P w K H2 a y (some v) ∧ Q v H2) : tDGetX P w K td ty σ H Q := k
theorem dinX (k : ty σ H fun y H1 => td σ H1 fun x H2 => ∃ a o, x = .ref a ∧ GX P w K H2 a y o ∧ Q (.bl o.isSome) H2) : tDInX P w K ty td σ H Q := k
theorem isX {a : Addr} {kvs : List (List Key × V)} {R : Addr → Prop} (h : DS P w K H a kvs) (k : R a) : ∃ a', V.ref a = .ref a' ∧ (∃ kvs, DS P w K H a' kvs) ∧ R a' := ⟨a, rfl, ⟨kvs, h⟩, k⟩
theorem dgetOX {a z : Addr} {m : List (Ast × V)} {p : Ast} {R : Option V → Prop} (h : DS P w K H a (eD m)) (hz : SqT K H z [.str p.1, .int p.2]) (k : R (valV m p)) : ∃ o, GX P w K H a (.ref z) o ∧ R o := ⟨_, GX.of h hz, by rw [valV_eD]; exact k⟩
theorem dgetSX {a z : Addr} {m : List (Ast × V)} {p : Ast} {v : V} {R : V → Prop} (h : DS P w K H a (eD m)) (hz : SqT K H z [.str p.1, .int p.2]) (e : valV m p = some v) (k : R v) : ∃ a' v', V.ref a = .ref a' ∧ GX P w K H a' (.ref z) (some v') ∧ R v' :=
  ⟨a, v, rfl, by rw [← e, ← valV_eD]; exact GX.of h hz, k⟩
theorem dputX (k : tv σ H fun v H1 => td σ H1 fun x H2 => ty σ H2 fun y H3 => ∃ a kvs k b, x = .ref a ∧ y = .ref b ∧ DS P w K H3 a kvs ∧ kvs.length < sizeLine ∧
  SqT K H3 b (k.map kV) ∧ ∀ ys, DS P w K (upd H3 a (dX P w a ys)) a (putK kvs k v) → n σ (upd H3 a (dX P w a ys))) : sDPutX P w K td ty tv ⟨n, r, b, c⟩ σ H := k
theorem dcTX {wi : TI} {g : TG} {tt : TT} {tk : TE} {vs : List Nat} (k : wi σ H fun J H1 => DcX P w K g tt tk tv vs σ Q J H1) : tDcX P w K wi g tt tk tv vs σ H Q := k
theorem dcLX {a : Addr} {xs : List V} {g : TG} {tt : TT} {tk : TE} {vs : List Nat} {H1 : Hp} (Pv : Addr → Nat → Hp → Prop) (h : SqL K H1 a xs) (h0 : ∀ D, H1 D = none → DS P w K (upd H1 D (dX P w D [])) D [] → Pv D 0 (upd H1 D (dX P w D [])))
    (hl : ∀ D i H, i ≤ xs.length → Pv D i H → SqL K H a xs)
    (hs : ∀ D i x H, H1 D = none → xs[i]? = some x → Pv D i H → g x (wipe σ vs) H fun σ2 H2 => wipe σ2 vs = wipe σ vs ∧ tt σ2 H2 fun t H3 =>
      if t = true then tk σ2 H3 fun y H4 => tv σ2 H4 fun z H5 => ∃ kvs k b, y = .ref b ∧ SqT K H5 b (k.map kV) ∧ DS P w K H5 D kvs ∧ kvs.length < sizeLine ∧
        (∀ ys, DS P w K (upd H5 D (dX P w D ys)) D (putK kvs k z) → Pv D (i + 1) (upd H5 D (dX P w D ys))) else Pv D (i + 1) H3)
    (hd : ∀ D H, H1 D = none → Pv D xs.length H → Q (.ref D) H) : ∃ p, V.ref a = .ref p ∧ (∃ ys, SqL K H1 p ys) ∧ DcX P w K g tt tk tv vs σ Q (Itl K p) H1 := by
  refine ⟨a, rfl, ⟨_, h⟩, fun D hD => ⟨fun i m H => m = xs.length - i ∧ i ≤ xs.length ∧ Pv D i H, ⟨xs.length, by simp, Nat.zero_le _, h0 D hD DS.nil⟩, ?_⟩⟩
  rintro i m H ⟨rfl, hi, p⟩
  have q := hl D i H hi p
  by_cases hlt : i < xs.length
  · refine .inr ⟨⟨xs, xs[i], q, by simp [hlt]⟩, Pv D (i + 1), fun H' p' => ⟨xs.length - (i + 1), by omega, rfl, hlt, p'⟩, fun x H' y => ?_⟩
    obtain ⟨e, y⟩ := y
    subst e
    exact hs D i x _ hD (y xs q) p
  · have e : i = xs.length := by omega
    subst e
    refine .inl ⟨⟨xs, q, Nat.le_refl _⟩, hd D H hD p⟩
end
end Re
namespace Re
open PySem PySem.Spec PyProof.Rows L2 Bd Es
theorem cxP {CX : CXT} {P : Program} {w : World} {K : PySem.W.Frag} {mg : Str → Option Value} {base : Heap} {N : List Str} {q : Str} {sc : Scope} {f : Addr} {cdv : Value} {A : Around} {outer : List Env} {s : Shared} {H : Hp} {E : XK} : (cxOf CX P w K mg base N q sc f cdv A outer s H E).prog = P := rfl
theorem cxW {CX : CXT} {P : Program} {w : World} {K : PySem.W.Frag} {mg : Str → Option Value} {base : Heap} {N : List Str} {q : Str} {sc : Scope} {f : Addr} {cdv : Value} {A : Around} {outer : List Env} {s : Shared} {H : Hp} {E : XK} : (cxOf CX P w K mg base N q sc f cdv A outer s H E).w = w := rfl
end Re
namespace Es
open PySem PySem.Spec PyProof.Rows L2 Bd Dj
section
variable {P : Program} {w : World} {K : PySem.W.Frag} {H H' : Hp} {b : Addr}
/-- all but what stands at b -/
def Beside (b : Addr) (H H' : Hp) : Prop := ∀ a o, a ≠ b → H a = some o → H' a = some o
theorem Beside.sqT {C dx : Addr} {fs : List (Str × V)} (e : Beside b H H') (hb : H b = some (.ins C dx fs)) {a : Addr} {xs : List V} (h : SqT K H a xs) : SqT K H' a xs := by
  rcases h with (h | ⟨o, h⟩) | h
  · exact .inl (.inl (e _ _ (fun q => by rw [q, hb] at h; cases h) h))
  · exact .inl (.inr ⟨o, e _ _ (fun q => by rw [q, hb] at h; cases h) h⟩)
  · exact .inr h
theorem Beside.sqL {C dx : Addr} {fs : List (Str × V)} (e : Beside b H H') (hb : H b = some (.ins C dx fs)) {a : Addr} {xs : List V} (h : SqL K H a xs) : SqL K H' a xs := by
  rcases h with (h | ⟨o, h⟩) | h
  · exact .inl (.inl (e _ _ (fun q => by rw [q, hb] at h; cases h) h))
  · exact .inl (.inr ⟨o, e _ _ (fun q => by rw [q, hb] at h; cases h) h⟩)
  · exact .inr h
theorem Beside.dp {C dx : Addr} {fs : List (Str × V)} (e : Beside b H H') (hb : H b = some (.ins C dx fs)) : ∀ {x : V} {d : PyData}, Dp K H x d → Dp K H' x d
  | _, _, .non => .non
  | _, _, .bl b => .bl b
  | _, _, .int i => .int i
  | _, _, .str x => .str x
  | _, _, .lst h a => .lst (e.sqL hb h) (go e hb a)
  | _, _, .tup h a => .tup (e.sqT hb h) (go e hb a)
where go {C dx : Addr} {fs : List (Str × V)} (e : Beside b H H') (hb : H b = some (.ins C dx fs)) : ∀ {xs : List V} {ds : List PyData}, DpAll K H xs ds → DpAll K H' xs ds
  | _, _, .nil => .nil
  | _, _, .cons h t => .cons (Beside.dp e hb h) (go e hb t)
theorem Beside.dpAll {C dx : Addr} {fs : List (Str × V)} (e : Beside b H H') (hb : H b = some (.ins C dx fs)) {xs : List V} {ds : List PyData} (h : DpAll K H xs ds) : DpAll K H' xs ds := Beside.dp.go e hb h
end
/-- what isinstance and != ask of a class -/
structure IsX (K : PySem.W.Frag) (C : Addr) : Prop where
  isc : C8.InsC K C
  ne : PySem.W.findIn K (.ref C) "__ne__" = some (some (.builtin "object.__ne__"))
  ob : PySem.W.subIn K (.ref C) (.type "object") = some true
theorem IsX.mk' {K : PySem.W.Frag} {C : Addr} (c : Cls K C) (h : exE K C = true) : IsX K C := by
  unfold exE at h
  simp only [Bool.and_eq_true] at h
  obtain ⟨h1, h2, h3, h4, h5, h6, h7⟩ := h
  exact ⟨⟨c, He.eqO_ok h1, of_decide_eq_true h2, of_decide_eq_true h3, of_decide_eq_true h4, of_decide_eq_true h5⟩, He.eqO_ok h6, of_decide_eq_true h7⟩
end Es
namespace Re
open PySem PySem.Spec PyProof.Rows L2 Bd Es
section
variable {P : Program} {w : World} {K : PySem.W.Frag} {σ : L2.St} {H : Hp} {Q : VK} {E : XK} {ta : TE} {t : TA} {C a dx : Addr} {fs : List (Str × V)} {m : Str} {sp : Sp} {dvs : List V} {R : Prop}
theorem meth (k : ta σ H fun x H1 => ∃ a dx fs, x = .ref a ∧ H1 a = some (.ins C dx fs) ∧ fs.lookup m = none ∧ t σ H1 fun vs H2 => sp (x :: (vs ++ dvs)) H2 Q E) : tMeth C m sp dvs E ta t σ H Q := k
theorem prop (k : ta σ H fun x H1 => ∃ a dx fs, x = .ref a ∧ H1 a = some (.ins C dx fs) ∧ sp (.ref a :: dvs) H1 Q E) : tProp C sp dvs E ta σ H Q := k
theorem stat (k : ta σ H fun x H1 => x = .ref C ∧ t σ H1 fun vs H2 => sp vs H2 Q E) : tStat C sp E ta t σ H Q := k
theorem statC {x : V} (k : R) (e : x = .ref C) : x = .ref C ∧ R := ⟨e, k⟩
/-- an object that is told: its method, its property -/
theorem methI (h : H a = some (.ins C dx fs)) (l : fs.lookup m = none) (k : R) : ∃ a' dx' fs', V.ref a = .ref a' ∧ H a' = some (.ins C dx' fs') ∧ fs'.lookup m = none ∧ R := ⟨a, dx, fs, rfl, h, l, k⟩
theorem propI {S : Addr → Prop} (h : H a = some (.ins C dx fs)) (k : S a) : ∃ a' dx' fs', V.ref a = .ref a' ∧ H a' = some (.ins C dx' fs') ∧ S a' := ⟨a, dx, fs, rfl, h, k⟩
theorem bd_ins {b : Addr} {N : List (Ast × Int)} (h : BdS P w K H b N) : ∃ dx fs, H b = some (.ins (He.ga K "Bundle") dx fs) ∧ ∃ u v : V, fs = [(("_quantities" : Str), u), (("rows" : Str), v)] := by
  obtain ⟨dx, r, d, xs, h1, _⟩ := h
  exact ⟨dx, _, h1, _, _, rfl⟩
theorem methB {b : Addr} {N : List (Ast × Int)} (h : BdS P w K H b N) (n : ("_quantities" : Str) ≠ m ∧ ("rows" : Str) ≠ m) (k : R) : ∃ a' dx' fs', V.ref b = .ref a' ∧ H a' = some (.ins (He.ga K "Bundle") dx' fs') ∧ fs'.lookup m = none ∧ R := by
  obtain ⟨dx, fs, h1, u, v, rfl⟩ := bd_ins h
  exact ⟨b, dx, _, rfl, h1, by simp [List.lookup, beq_eq_false_iff_ne.mpr (Ne.symm n.1), beq_eq_false_iff_ne.mpr (Ne.symm n.2)], k⟩
theorem propB {b : Addr} {N : List (Ast × Int)} {S : Addr → Prop} (h : BdS P w K H b N) (k : S b) : ∃ a' dx' fs', V.ref b = .ref a' ∧ H a' = some (.ins (He.ga K "Bundle") dx' fs') ∧ S a' := by
  obtain ⟨dx, fs, h1, _⟩ := bd_ins h
  exact ⟨b, dx, _, rfl, h1, k⟩
theorem own2B {b c : Addr} {N M : List (Ast × Int)} (h : BdS P w K H b N) (h' : BdS P w K H c M) (k : sp [.ref b, .ref c] H Q E) : rOwn2 (He.ga K "Bundle") sp E (.ref b) (.ref c) H Q := by
  obtain ⟨dx, fs, h1, _⟩ := bd_ins h
  obtain ⟨dy, gs, h2, _⟩ := bd_ins h'
  exact ⟨b, c, dx, dy, fs, gs, rfl, rfl, h1, h2, k⟩
theorem own1B {b : Addr} {N : List (Ast × Int)} (h : BdS P w K H b N) (k : sp [.ref b] H Q E) : rOwn1 (He.ga K "Bundle") sp E (.ref b) H Q := by
  obtain ⟨dx, fs, h1, _⟩ := bd_ins h
  exact ⟨b, dx, fs, rfl, h1, k⟩
theorem rowsB {b : Addr} {N : List (Ast × Int)} {f : V → Prop} (h : BdS P w K H b N) (c : Cls K (He.ga K "Bundle")) (n : NoAttr K (He.ga K "Bundle") "rows") (k : ∀ r xs, H r = some (.tup xs) → DpAll K H xs (N.map encR) → f (.ref r)) :
    ∃ a' C' dx' fs' v', V.ref b = .ref a' ∧ H a' = some (.ins C' dx' fs') ∧ Cls K C' ∧ NoAttr K C' "rows" ∧ fs'.lookup ("rows" : Str) = some v' ∧ f v' := by
  obtain ⟨dx, r, d, xs, h1, h2, h3, _⟩ := h
  exact ⟨b, _, dx, _, _, rfl, h1, c, n, rfl, k r xs h2 h3⟩
theorem catT {a b : Addr} {xs ys : List V} (ha : SqT K H a xs) (hb : SqT K H b ys) (hl : xs.length + ys.length ≤ 100000) (k : ∀ p H', Same H H' → SqT K H' p (xs ++ ys) → Q (.ref p) H') : rCatA K (.ref a) (.ref b) H Q := Rb.catA ha hb hl k
end
end Re
namespace Re
open PySem PySem.Spec PyProof.Rows L2 Bd Es Dj
section
variable {K : PySem.W.Frag} {H : Hp} {Q : VK} {a b : Addr} {x y : Str} {i j : Int}
theorem neAst (h1 : SqT K H a [.str x, .int i]) (h2 : SqT K H b [.str y, .int j]) (o1 : OkA (x, i)) (o2 : OkA (y, j)) (k : Q (.bl (!decide ((x, i) = (y, j)))) H) : rNeD K (.ref a) (.ref b) H Q :=
  ⟨encA (x, i), encA (y, j), astDp h1, astDp h2, encA_shaped o1, encA_shaped o2, by rw [encA_eqv]; exact k⟩
theorem eqAst (h1 : SqT K H a [.str x, .int i]) (h2 : SqT K H b [.str y, .int j]) (o1 : OkA (x, i)) (o2 : OkA (y, j)) (k : Q (.bl (decide ((x, i) = (y, j)))) H) : rEqD K (.ref a) (.ref b) H Q :=
  ⟨encA (x, i), encA (y, j), astDp h1, astDp h2, encA_shaped o1, encA_shaped o2, by rw [encA_eqv]; exact k⟩
end
end Re
namespace Es
open PySem Bd
theorem fm_no {α β : Type} (f : α → β) (p : α → Prop) [DecidablePred p] : ∀ N : List α, N.filterMap (fun e => if p e then none else some (f e)) = (N.filter fun e => !decide (p e)).map f
  | [] => rfl
  | a :: N => by
    have ih := fm_no f p N
    by_cases h : p a <;> simp [List.filterMap_cons, List.filter_cons, h, ih]
theorem fm_yes {α β : Type} (f : α → β) (p : α → Prop) [DecidablePred p] : ∀ N : List α, N.filterMap (fun e => if p e then some (f e) else none) = (N.filter fun e => decide (p e)).map f
  | [] => rfl
  | a :: N => by
    have ih := fm_yes f p N
    by_cases h : p a <;> simp [List.filterMap_cons, List.filter_cons, h, ih]
end Es
namespace Es
open PySem PySem.Spec PyProof.Rows L2 Bd Dj
theorem asS_of {K : PySem.W.Frag} {H : Hp} : ∀ {xs : List V} {A : List Ast}, DpAll K H xs (A.map encA) → ∃ ps : List (Addr × Ast), xs = ps.map (fun z => V.ref z.1) ∧ ps.map (·.2) = A ∧ AsS K H ps
  | _, [], .nil => ⟨[], rfl, rfl, fun _ h => absurd h List.not_mem_nil⟩
  | _, p :: A, .cons h t => by
    obtain ⟨z, rfl, hz⟩ := dpAst h
    obtain ⟨ps, rfl, h2, h3⟩ := asS_of t
    refine ⟨(z, p) :: ps, rfl, by rw [List.map_cons, h2], fun y hy => ?_⟩
    rcases List.mem_cons.mp hy with rfl | hy
    · exact hz
    · exact h3 y hy
section
variable {X : Cx}
/-- sorted(xs), xs a list of assets -/
def rSortedSS (K : PySem.W.Frag) : List V → Hp → VK → Prop := fun vs H Q => ∃ (a : Addr) (xs : List V) (A : List Ast), vs = [.ref a] ∧ SqL K H a xs ∧ DpAll K H xs (A.map encA) ∧
  ∀ (B : List Ast) (ys : List V) (p : Addr), B.Perm A → SrtO.Srtd ltSI B → H p = none → DpAll K H ys (B.map encA) → Q (.ref p) (upd H p (.lst ys))
theorem cr_sortedSS : CallR X (.builtin "sorted") (rSortedSS X.K) := by
  intro pins s σ H xs us Q I r q
  obtain ⟨a, xs0, A, rfl, hs, hA0, q⟩ := q
  obtain ⟨ps0, rfl, rfl, hA⟩ := asS_of hA0
  obtain ⟨its, rv, hl, hz⟩ := I.list hs
  obtain ⟨u, rfl, ru⟩ := vals1 r
  obtain rfl : u = Value.ref a := ru
  have eb : its = ps0.map fun z => Value.ref z.1 := by
    have h1 : ∀ {ps : List (Addr × (Str × Int))} {us : List Value}, Vals (ps.map fun z => V.ref z.1) us → us = ps.map fun z => Value.ref z.1 := by
      intro ps
      induction ps with
      | nil => intro us h; cases h; rfl
      | cons z ps ih =>
        intro us h
        rw [List.map_cons] at h
        cases h with
        | cons h t => rw [ih t, List.map_cons, show _ = Value.ref z.1 from h]
    exact h1 rv
  have hsi : ∀ v ∈ its, IsSI s.heap v (siOf s.heap v) := fun v hv => by
    rw [eb] at hv
    obtain ⟨zz, hz, rfl⟩ := List.mem_map.mp hv
    have q := isSI_C I (hA zz hz)
    rw [q.of]; exact q
  refine SrtO.sorted_ord (ltv := fun v u => ltSI (siOf s.heap v) (siOf s.heap u)) (swo_SI (siOf s.heap)) hl.isList (by rw [← rv.length]; exact hz) (fun h2 h₁ a' ha' kk => ?_) fun out h1 h2 => ?_
  · refine si_sortable (s := { s with heap := h₁ }) (by omega) (fun v hm => (hsi v hm).keeps fun b o e _ => (kk b o e).2) fun o e => ?_
    have e' : some o = some (seqObj "list" its.toArray 0) := e.symm.trans ha'
    cases e'
    intro c
    exact absurd (Value.type.inj c) (by decide)
  · obtain ⟨ps, b1, b2⟩ := perm_lift (fun z : Addr × (Str × Int) => Value.ref z.1) h2.perm ps0 eb.symm
    have hAs : AsS X.K H ps := fun z hz => hA z (b1.mem_iff.mp hz)
    have hk2 : ∀ z ∈ ps, siOf s.heap (Value.ref z.1) = z.2 := fun z hz => (isSI_C I (hAs z hz)).of
    have hsr : SrtO.Srtd ltSI (ps.map (·.2)) := by
      rw [← b2] at h1
      have h1' := List.pairwise_map.mp h1
      refine List.pairwise_map.mpr (h1'.imp_of_mem fun {x y} hx hy hh => ?_)
      have hh' : ltSI (siOf s.heap (Value.ref y.1)) (siOf s.heap (Value.ref x.1)) = false := hh
      rw [hk2 x hx, hk2 y hy] at hh'
      exact hh'
    have hd : s.heap.objs.size ≤ s.heap.objs.size + 1 := Nat.le_succ _
    obtain ⟨n, hn⟩ := sortedAll_at s.heap its out.toArray
    refine ⟨.ref (s.heap.objs.size + 1), upd H (s.heap.objs.size + 1) (.lst (ps.map fun z => V.ref z.1)), I.laid (t' := s.toks) (fun b o e => sortedAll_old e) hd ⟨?_, out, n, ?_, hn⟩, rfl, q (ps.map (·.2)) _ _ (b1.map _) hsr (I.hok.fresh hd) (rowsC_dp hAs)⟩
    · rw [List.length_map] at hz ⊢; rw [b1.length_eq]; exact hz
    · rw [← b2]
      have := vals_refs (ps.map (·.1))
      rw [List.map_map, List.map_map] at this
      exact this
end
end Es
namespace Re
open PySem PySem.Spec PyProof.Rows L2 Bd Es Dj
theorem notInAst {K : PySem.W.Frag} {H : Hp} {Q : VK} {a b : Addr} {x : Str} {i : Int} {xs : List V} {A : List Ast} (h1 : SqT K H a [.str x, .int i]) (h2 : SqL K H b xs) (hA : DpAll K H xs (A.map encA)) (o1 : OkA (x, i)) (o2 : ∀ p ∈ A, OkA p) (k : Q (.bl (!decide ((x, i) ∈ A))) H) : rNotInD K (.ref a) (.ref b) H Q :=
  ⟨encA (x, i), A.map encA, astDp h1, .lst h2 hA, encA_shaped o1, encAs_shaped o2, by rw [encA_any]; exact k⟩
end Re
namespace Re
open PySem PySem.Spec PyProof.Rows L2 Bd Es Dj
theorem inOwnB {P : Program} {w : World} {K : PySem.W.Frag} {H : Hp} {Q : VK} {E : XK} {sp : Sp} {x : V} {b : Addr} {N : List (Ast × Int)} (h : BdS P w K H b N) (k : sp [.ref b, x] H (fun v H' => ∃ t, v = .bl t ∧ Q (.bl t) H') E) : rInOwn (He.ga K "Bundle") sp E x (.ref b) H Q := by
  obtain ⟨dx, fs, h1, _⟩ := bd_ins h
  exact ⟨b, dx, fs, rfl, h1, k⟩
theorem boolOwnB {P : Program} {w : World} {K : PySem.W.Frag} {H : Hp} {Q : VK} {E : XK} {sp : Sp} {b : Addr} {N : List (Ast × Int)} (h : BdS P w K H b N) (k : sp [.ref b] H (fun v H' => ∃ t, v = .bl t ∧ Q (.bl t) H') E) : rBoolOwn (He.ga K "Bundle") sp E [.ref b] H Q := by
  obtain ⟨dx, fs, h1, _⟩ := bd_ins h
  exact ⟨b, dx, fs, rfl, h1, k⟩
end Re
namespace Re
open PySem PySem.Spec PyProof.Rows L2 Bd Es Dj
theorem fldK {K : PySem.W.Frag} {H : Hp} {R : V → Prop} {a C dx : Addr} {fs : List (Str × V)} {f : Str} {v : V} (h : H a = some (.ins C dx fs)) (c : Cls K C) (n : NoAttr K C f) (l : fs.lookup f = some v) (k : R v) :
    ∃ a' C' dx' fs' v', V.ref a = .ref a' ∧ H a' = some (.ins C' dx' fs') ∧ Cls K C' ∧ NoAttr K C' f ∧ fs'.lookup f = some v' ∧ R v' := ⟨a, C, dx, fs, v, rfl, h, c, n, l, k⟩
end Re
namespace Es
open PySem PySem.Spec PyProof.Rows L2 Bd Dj
theorem astAt {K : PySem.W.Frag} {H : Hp} {xs : List V} {A : List Ast} {i : Nat} (h : DpAll K H xs (A.map encA)) (hi : i < A.length) : ∃ z p, atI xs (i : Int) = some (.ref z) ∧ A[i]? = some p ∧ p ∈ A ∧ SqT K H z [.str p.1, .int p.2] := by
  have hl : xs.length = A.length := by rw [Rd.dpAll_len h, List.length_map]
  have h1 : xs[i]? = some xs[i] := List.getElem?_eq_getElem (by omega)
  obtain ⟨d, hd, hx⟩ := dpAll_at h h1
  obtain ⟨p, hp, rfl⟩ := map_at hd
  obtain ⟨z, hz0, hz⟩ := dpAst hx
  exact ⟨z, p, atI_nat (h1.trans (by rw [hz0])), hp, List.mem_of_getElem? hp, hz⟩
theorem strOk_SS {l m : List Nat} (h : PyData.strOk (Rd.S l) = true) (k : PyData.strOk (Rd.S m) = true) : PyData.strOk (Rd.S (l ++ m)) = true := by rw [← Rd.S_app]; exact strOk_app h k
end Es

set_option Elab.async false
set_option linter.all false
set_option maxRecDepth 100000
/-! Texts of up to a million signs; a scanner over a text; the notation of values. -/
namespace Ez
open PySem PySem.Spec PyProof.Rows L2 Dj Es
theorem sz2 {n : Nat} (h : n ≤ 1000000) : n ≤ sizeLine := Nat.le_trans h (by decide)
section
variable {X : Cx} {K : PySem.W.Frag} {σ : L2.St} {H : Hp} {Q : VK}
def LeSK : R2 := fun x y H Q => ∃ i j : List Nat, x = .str (Rd.S i) ∧ y = .str (Rd.S j) ∧ Q (.bl (!decide (j < i))) H
theorem op_leS : OpR X (compareOp .LtE) LeSK := by
  intro pins s σ H x y v u Q I rx ry h
  obtain ⟨i, j, e1, e2, q⟩ := h
  exact op_le_str pins s σ H x y v u Q I rx ry ⟨_, _, e1, e2, by rw [Rd.S_tl, Rd.S_tl]; exact q⟩
theorem leS {i j : List Nat} (k : Q (.bl (!decide (j < i))) H) : LeSK (.str (Rd.S i)) (.str (Rd.S j)) H Q := ⟨i, j, rfl, rfl, k⟩
theorem ixS2 {l : List Nat} {i : Int} {c : Nat} (h : l.length ≤ 1000000) (a : atI l i = some c) (k : Q (.str (Rd.S [c])) H) : rIxS (.str (Rd.S l)) (.int i) H Q := ⟨Rd.S l, i, c, rfl, rfl, sz2 (by rw [Rd.S_len]; exact h), by rw [Rd.S_tl]; exact a, k⟩
theorem lenS2 {l : List Nat} (h : l.length ≤ 1000000) (k : Q (.int l.length) H) : Rd.LenSK [.str (Rd.S l)] H Q := ⟨_, rfl, sz2 (by rw [Rd.S_len]; exact h), by rw [Rd.S_len]; exact k⟩
theorem addS2 {l m : List Nat} (h : l.length + m.length ≤ 1000000) (k : Q (.str (Rd.S (l ++ m))) H) : Rd.AddSK (.str (Rd.S l)) (.str (Rd.S m)) H Q := ⟨_, _, rfl, rfl, sz2 (by rw [Rd.S_len, Rd.S_len]; exact h), by rw [Rd.S_app]; exact k⟩
theorem slS2 {l : List Nat} {a b : Nat} {i j : Int} (ha : i = a) (hb : j = b) (hl : l.length ≤ 1000000) (hab : a ≤ l.length) (k : Q (.str (Rd.S ((l.drop a).take (b - a)))) H) : rSlS (.str (Rd.S l)) (some i) (some j) H Q := by
  subst ha hb
  refine ⟨Rd.S l, rfl, sz2 (by rw [Rd.S_len]; exact hl), ?_⟩
  have e : cutS (Rd.S l) (some (a : Int)) (some (b : Int)) = Rd.S ((l.drop a).take (b - a)) := by
    unfold cutS
    rw [Rd.S_tl, Rd.S_len, HT.sIx_nat, HT.sIx_nat]
    show Rd.S _ = Rd.S _
    congr 1
    rw [Nat.min_eq_left hab]
    by_cases h : b ≤ l.length
    · rw [Nat.min_eq_left h]
    · rw [Nat.min_eq_right (by omega), List.take_of_length_le (by simp), List.take_of_length_le (by simp; omega)]
  rw [e]; exact k
/-- for sign in a text -/
theorem iS {te : TE} {R : It → Hp → Prop} (k : te σ H fun v H1 => ∃ x, v = .str x ∧ R (Its x) H1) : iStr te σ H R := k
theorem forS {l : List Nat} {j : Nat} {tb : TS} {n b c : L2.St → Hp → Prop} {r : VK} (Pv : Nat → L2.St → Hp → Prop) (h0 : Pv 0 σ H)
    (hs : ∀ (i : Nat) (x : Nat) (σ' : L2.St) (H' : Hp), l[i]? = some x → Pv i σ' H' → tb ⟨Pv (i + 1), r, n, Pv (i + 1)⟩ (σ'.set j (some (.str (Rd.S [x])))) H') (hd : ∀ σ' H', Pv l.length σ' H' → n σ' H') :
    ∃ x, V.str (Rd.S l) = V.str x ∧ Rd.ForJ (gName j) tb ⟨n, r, b, c⟩ σ (Its x) H := by
  refine ⟨_, rfl, fun i m σ H => m = l.length - i ∧ i ≤ l.length ∧ Pv i σ H, ⟨_, rfl, Nat.zero_le _, h0⟩, ?_⟩
  rintro i m σ' H' ⟨rfl, hi, p⟩
  have hz : (Rd.S l).cps.size = l.length := Rd.S_len l
  by_cases hlt : i < l.length
  · refine .inr ⟨by show i < (Rd.S l).cps.size; omega, Pv (i + 1), fun σ2 H2 p2 => ⟨l.length - (i + 1), by omega, rfl, hlt, p2⟩, ?_⟩
    rintro x H2 ⟨e, z, hz2, rfl⟩
    subst e
    have hz3 : l[i]? = some z := by
      have : (Rd.S l).cps[i]? = l[i]? := by show l.toArray[i]? = l[i]?; simp
      rw [← this]; exact hz2
    exact hs i z σ' _ hz3 p
  · have e : i = l.length := by omega
    subst e
    exact .inl ⟨by show (Rd.S l).cps.size ≤ l.length; omega, hd _ _ p⟩
/-- sep.join(texts) -/
def JoinK (K : PySem.W.Frag) : V → List V → Hp → VK → Prop := fun x xs H Q => ∃ (a : List Nat) (p : Addr) (ys : List (List Nat)), x = .str (Rd.S a) ∧ xs = [.ref p] ∧ SqL K H p (ys.map fun y => V.str (Rd.S y)) ∧ (ys.map List.length).sum + ys.length * a.length ≤ 16777216 ∧ Q (.str (Rd.S (TL.joinL a ys))) H
theorem mt_joinK : MtR X "str.join" (JoinK X.K) := by
  intro pins s σ H x xs v us Q I rx rs h
  obtain ⟨a, p, ys, e1, e2, h1, h2, q⟩ := h
  refine mt_join pins s σ H x xs v us Q I rx rs ⟨Rd.S a, p, ys.map Rd.S, e1, e2, .inl (by rw [List.map_map]; exact h1), ?_, ?_⟩
  · rw [List.map_map, List.length_map, Rd.S_len]
    have e : (ys.map ((fun x : Str => x.length) ∘ Rd.S)) = ys.map List.length := List.map_congr_left fun y _ => Rd.S_len y
    rw [e]; exact h2
  · have e : Txt.join (Rd.S a) (ys.map Rd.S) = Rd.S (TL.joinL a ys) := SX.join_S a ys
    rw [e]; exact q
theorem pe_joinK {o e : Expr} {to te : TE} {apos pos : Pos} (ho : PE X o to) (he : PE X e te) (hs : starEach [e] X.env = [(false, eval e X.env)] := by rfl) (hbase : attributeBase o "join" X.env (eval o X.env) = eval o X.env := by rfl) (hline : (apos.endLine == pos.line) = true := by rfl) :
    PE X (.Call (.Attribute o "join" apos) [e] [] pos) (tM1 (JoinK X.K) to te) :=
  pe_m1 PySem.F.slot_str_join PySem.F.type_str_join mt_joinK ho he hs hbase hline
theorem joinR {r : V → List V → Hp → VK → Prop} {to te : TE} (k : to σ H fun x H1 => (∃ a, x = .str a) ∧ te σ H1 fun y H2 => r x [y] H2 Q) : tM1 r to te σ H Q := k
theorem strA {a : Str} {P : Prop} (k : P) : (∃ b, V.str a = .str b) ∧ P := ⟨⟨a, rfl⟩, k⟩
theorem joinS {a : List Nat} {p : Addr} {ys : List (List Nat)} (h : SqL K H p (ys.map fun y => V.str (Rd.S y))) (hz : (ys.map List.length).sum + ys.length * a.length ≤ 16777216) (k : Q (.str (Rd.S (TL.joinL a ys))) H) : JoinK K (.str (Rd.S a)) [.ref p] H Q := ⟨a, p, ys, rfl, rfl, h, hz, k⟩
/-- f-strings -/
theorem tJ0 {acc : Str} {Qs : Str → Hp → Prop} (k : Qs acc H) : tJs [] acc σ H Qs := k
theorem tJ1 {t : TE} {ts : List TE} {acc : Str} {Qs : Str → Hp → Prop} (k : t σ H fun x H1 => ∃ y : Str, x = .str y ∧ (acc ++ y).length ≤ sizeLine ∧ tJs ts (acc ++ y) σ H1 Qs) : tJs (t :: ts) acc σ H Qs := k
theorem fmt {te : TE} (k : te σ H fun x H1 => (∃ y : Str, x = .str y ∧ y.length ≤ sizeLine ∧ Q (.str y) H1) ∨ ∃ i : Int, x = .int i ∧ i.natAbs.log2 < 1920 ∧ Q (.str (toString i)) H1) : tFmt te σ H Q := k
/-- a field that grows -/
theorem fldAug {ta tv : TE} {rd : V → V → Hp → VK → Prop} {f : Str} {n b c : L2.St → Hp → Prop} {r : VK} (k : ta σ H fun x H1 => ∃ a C dx fs v, x = .ref a ∧ H1 a = some (.ins C dx fs) ∧ Cls K C ∧ NoAttr K C f ∧ fs.lookup f = some v ∧
  tv σ H1 fun y H2 => rd v y H2 fun z H3 => ∃ dx' fs', H3 a = some (.ins C dx' fs') ∧ fs'.length < 1000 ∧ n σ (upd H3 a (.ins C dx' (putF f z fs')))) : sFldAug K ta tv rd f ⟨n, r, b, c⟩ σ H := k
def OrdK : List V → Hp → VK → Prop := fun xs H Q => ∃ c : Nat, xs = [.str (Rd.S [c])] ∧ Q (.int (c : Int)) H
theorem call_ordK : CallR X (.builtin "ord") OrdK := by
  intro pins s σ H xs us Q I r h
  obtain ⟨c, e, q⟩ := h
  exact call_ord pins s σ H xs us Q I r ⟨Rd.S [c], e, rfl, q⟩
theorem ordS {c : Nat} (k : Q (.int (c : Int)) H) : OrdK [.str (Rd.S [c])] H Q := ⟨c, rfl, k⟩
/-- the greatest of a list -/
theorem maxL {a : Addr} {ns : List Int} (h : SqL K H a (ns.map V.int)) (hl : 0 < ns.length) (k : ∀ m, m ∈ ns → (∀ y, y ∈ ns → y ≤ m) → Q (.int m) H) : rMax K [.ref a] H Q := ⟨a, ns, rfl, h, hl, k⟩
end
theorem iteC {p : Prop} [Decidable p] {σ : L2.St} {H : Hp} {Q : VK} {a b : Int} (L : Int → Prop) (ha : p → L a) (hb : ¬ p → L b) (hQ : ∀ M, L M → Q (.int M) H) : if decide p = true then tC (.int a) σ H Q else tC (.int b) σ H Q := by
  by_cases h : p
  · rw [decide_eq_true h, if_pos rfl]; exact hQ a (ha h)
  · rw [decide_eq_false h, if_neg Bool.false_ne_true]; exact hQ b (hb h)
/-! the notation -/
def num (i : Int) : List Nat := if i < 0 then 45 :: TL.numL i.natAbs else TL.numL i.natAbs
mutual
def wr : PyData → List Nat
  | .bool b => [if b then 84 else 70]
  | .int i => num i
  | .str s => TL.numL s.cps.toList.length ++ 58 :: s.cps.toList
  | .tuple ds => 40 :: (TL.joinL [32] (wrl ds) ++ [41])
  | _ => [63]
def wrl : List PyData → List (List Nat)
  | [] => []
  | d :: ds => wr d :: wrl ds
end
def gs (l : List Nat) : Bool := decide (l.length ≤ 1000) && l.all fun c => decide (32 ≤ c) && decide (c ≤ 126) && !decide (c = 37)
mutual
def gd : PyData → Bool
  | .bool _ => true
  | .int i => decide (i.natAbs < 10 ^ 60)
  | .str s => gs s.cps.toList
  | .tuple ds => decide (ds.length ≤ 1000) && gds ds
  | _ => false
def gds : List PyData → Bool
  | [] => true
  | d :: ds => gd d && gds ds
end
theorem wrl_map : ∀ ds : List PyData, wrl ds = ds.map wr
  | [] => by simp only [wrl, List.map_nil]
  | d :: ds => by simp only [wrl, List.map_cons, wrl_map ds]
theorem gds_mem : ∀ {ds : List PyData}, gds ds = true ↔ ∀ d ∈ ds, gd d = true
  | [] => by simp [gds]
  | d :: ds => by simp only [gds, Bool.and_eq_true, List.mem_cons, forall_eq_or_imp, gds_mem (ds := ds)]
theorem gd_tup {ds : List PyData} (h : gd (.tuple ds) = true) : ds.length ≤ 1000 ∧ gds ds = true := by
  simp only [gd, Bool.and_eq_true] at h
  exact ⟨of_decide_eq_true h.1, h.2⟩
mutual
theorem gd_nl : ∀ {d : PyData}, gd d = true → nl d = true
  | .bool _, _ => rfl
  | .int _, _ => rfl
  | .str _, _ => rfl
  | .tuple ds, h => by simp only [gd, Bool.and_eq_true] at h; simp only [nl]; exact gds_nl h.2
  | .none, h => by simp [gd] at h
  | .list _, h => by simp [gd] at h
  | .dict _, h => by simp [gd] at h
theorem gds_nl : ∀ {ds : List PyData}, gds ds = true → nlAll ds = true
  | [], _ => rfl
  | d :: ds, h => by simp only [gds, Bool.and_eq_true] at h; simp only [nlAll, Bool.and_eq_true]; exact ⟨gd_nl h.1, gds_nl h.2⟩
end
theorem num_str (i : Int) : (Str.ofString (toString i)) = Rd.S (num i) := by
  unfold num
  by_cases h : i < 0
  · rw [if_pos h, PyProof.Rows.toString_neg h]
    obtain ⟨n, hn⟩ : ∃ n : Nat, 0 - i = (n : Int) := ⟨(-i).toNat, by omega⟩
    have hn2 : i.natAbs = n := by omega
    have e := SX.num_S n
    rw [hn, hn2]
    rw [Str.ofString_eq_toList] at e ⊢
    rw [String.toList_append, List.map_append]
    have e2 : ((toString (n : Int)).toList.map Char.toNat) = TL.numL n := SX.S_inj e
    rw [e2]
    rfl
  · rw [if_neg h]
    obtain ⟨n, rfl⟩ : ∃ n : Nat, i = (n : Int) := ⟨i.toNat, by omega⟩
    exact SX.num_S n

/-! the scanner -/
section
variable {K : PySem.W.Frag} {H H1 H2 : Hp} {s dx p : Addr} {t : List Nat} {i j : Nat} {o : HO}
abbrev scO (K : PySem.W.Frag) (dx : Addr) (t : List Nat) (i : Int) : HO := .ins (He.ga K "Scanner") dx [(("text" : Str), .str (Rd.S t)), (("at" : Str), .int i)]
abbrev Sc (K : PySem.W.Frag) (H : Hp) (s dx : Addr) (t : List Nat) (i : Nat) : Prop := H s = some (scO K dx t (i : Int))
structure Adv (K : PySem.W.Frag) (s dx : Addr) (t : List Nat) (i : Nat) (H H' : Hp) : Prop where
  keep : Beside s H H'
  sc : Sc K H' s dx t i
theorem Adv.refl (h : Sc K H s dx t i) : Adv K s dx t i H H := ⟨fun _ _ _ e => e, h⟩
theorem Adv.trans (a : Adv K s dx t i H H1) (b : Adv K s dx t j H1 H2) : Adv K s dx t j H H2 := ⟨fun x o h e => b.keep x o h (a.keep x o h e), b.sc⟩
theorem Adv.same (a : Adv K s dx t i H H1) (e : Same H1 H2) : Adv K s dx t i H H2 := ⟨fun x o h q => e _ _ (a.keep x o h q), e _ _ a.sc⟩
theorem Adv.new (a : Adv K s dx t i H H1) (hp : H1 p = none) : Adv K s dx t i H (upd H1 p o) := a.same (Rd.same_new hp)
theorem Adv.step (a : Adv K s dx t i H H1) {z : Int} (e : z = (j : Int)) : Adv K s dx t j H (upd H1 s (scO K dx t z)) := ⟨fun x o h q => (upd_ne h).trans (a.keep x o h q), by subst e; exact upd_same⟩
theorem Adv.step0 (h : Sc K H s dx t i) {z : Int} (e : z = (j : Int)) : Adv K s dx t j H (upd H s (scO K dx t z)) := (Adv.refl h).step e
theorem Adv.dp (a : Adv K s dx t j H H1) (h : Sc K H s dx t i) {x : V} {d : PyData} (q : Dp K H x d) : Dp K H1 x d := a.keep.dp h q
theorem Adv.dpAll (a : Adv K s dx t j H H1) (h : Sc K H s dx t i) {xs : List V} {ds : List PyData} (q : DpAll K H xs ds) : DpAll K H1 xs ds := a.keep.dpAll h q
/-- a list beside the scanner that grows -/
theorem Adv.at (a : Adv K s dx t j H H1) (h : Sc K H s dx t i) {xs : List V} (q : H p = some (.lst xs)) : H1 p = some (.lst xs) := a.keep _ _ (fun e => by subst e; have h2 := q.symm.trans h; cases h2) q
end
section
variable {K : PySem.W.Frag} {H H1 H2 : Hp} {s dx p : Addr} {t : List Nat} {i j : Nat} {o : HO}
theorem Adv.free (a : Adv K s dx t i H H1) (hp : H1 p = none) : H p = none := by
  cases e : H p with
  | none => rfl
  | some o =>
    by_cases q : p = s
    · subst q; have h2 := hp.symm.trans a.sc; cases h2
    · rw [a.keep _ _ q e] at hp; cases hp
theorem Adv.mut (a : Adv K s dx t i H H1) (hp : H p = none) (h : Sc K H s dx t j) : Adv K s dx t i H (upd H1 p o) := by
  have hne : s ≠ p := fun e => by subst e; have h2 := hp.symm.trans h; cases h2
  exact ⟨fun x o h e => by
    rw [upd_ne (fun q => by subst q; rw [hp] at e; cases e)]
    exact a.keep x o h e, (upd_ne hne).trans a.sc⟩
end
theorem augSc {K : PySem.W.Frag} {σ : L2.St} {H : Hp} {s dx : Addr} {t : List Nat} {i q : Nat} {n b c : L2.St → Hp → Prop} {r : VK} (hv : σ[q]? = some (some (.ref s))) (h : Sc K H s dx t i) (hc : Cls K (He.ga K "Scanner")) (hn : NoAttr K (He.ga K "Scanner") "at")
    (k : n σ (upd H s (scO K dx t ((i : Int) + 1)))) : sFldAug K (tVar q) (tC (.int 1)) rAdd "at" ⟨n, r, b, c⟩ σ H := by
  refine fldAug (Rd.var hv ⟨s, _, dx, _, _, rfl, h, hc, hn, rfl, ?_⟩)
  exact Rd.cst ⟨_, _, rfl, rfl, dx, _, h, by show 2 < 1000; decide, k⟩
theorem head_at {t r : List Nat} {i c : Nat} (h : t.drop i = c :: r) : t[i]? = some c ∧ i < t.length ∧ t.drop (i + 1) = r := by
  have h1 : i < t.length := by
    by_cases q : i < t.length
    · exact q
    · rw [List.drop_of_length_le (by omega)] at h; cases h
  refine ⟨?_, h1, ?_⟩
  · have := congrArg List.head? h
    rw [List.head?_drop] at this
    exact this
  · rw [← List.drop_drop, h]; rfl
theorem drop_app {t l r : List Nat} {i : Nat} (h : t.drop i = l ++ r) : t.drop (i + l.length) = r := by rw [← List.drop_drop, h, List.drop_left]
theorem drop_bd {t l r : List Nat} {i : Nat} (h : t.drop i = l ++ r) (hl : l ≠ []) : i + l.length ≤ t.length := by
  have e := congrArg List.length h
  rw [List.length_drop, List.length_append] at e
  have : 0 < l.length := List.length_pos_iff.mpr hl
  omega
def isd : List Nat → Bool
  | [] => false
  | c :: _ => decide (48 ≤ c) && decide (c ≤ 57)
theorem lt11 {a b : Nat} : (([a] : List Nat) < [b]) ↔ a < b := by simp [List.cons_lt_cons_iff]
theorem lt01 {b : Nat} : (([] : List Nat) < [b]) := by simp
theorem numL_head (n : Nat) : ∃ c r, TL.numL n = c :: r ∧ 48 ≤ c ∧ c ≤ 57 ∧ (0 < n → 49 ≤ c) ∧ (c = 48 → r = []) := by
  induction n using Nat.strongRecOn with
  | _ n ih =>
    by_cases h : n < 10
    · rw [TL.numL_lt h]
      exact ⟨48 + n, [], rfl, by omega, by omega, by omega, fun _ => rfl⟩
    · rw [TL.numL_step (by omega)]
      obtain ⟨c, r, e, h1, h2, h3, h4⟩ := ih (n / 10) (by omega)
      have h5 := h3 (by omega)
      exact ⟨c, r ++ [48 + n % 10], by rw [e]; rfl, h1, h2, fun _ => h5, by omega⟩
theorem numL_int {n : Nat} (h : n < 10 ^ 60) : PySem.intText? (Rd.S (TL.numL n)) = some (n : Int) ∧ (TL.numL n).length ≤ 60 := by
  have hl := TL.numL_len (n := n) (k := 60) (by decide) h
  have e := TL.int_num (n := n) (by omega)
  rw [SX.num_S] at e
  exact ⟨e, hl⟩
/-- what may stand behind a value -/
def stp (r : List Nat) : Prop := ∀ c l, r = c :: l → c = 32 ∨ c = 41
theorem stp_nil : stp [] := fun _ _ h => by cases h
theorem stp_32 (l : List Nat) : stp (32 :: l) := fun c l' h => by cases h; exact .inl rfl
theorem stp_41 (l : List Nat) : stp (41 :: l) := fun c l' h => by cases h; exact .inr rfl
/-- what stands behind a tuple's first item -/
def tlw : List PyData → List Nat
  | [] => []
  | e :: es => 32 :: (wr e ++ tlw es)
theorem wr_head {d : PyData} (h : gd d = true) : ∃ c l, wr d = c :: l ∧ c ≠ 32 ∧ c ≠ 41 := by
  cases d with
  | bool b => exact ⟨_, _, rfl, by cases b <;> decide, by cases b <;> decide⟩
  | int i =>
    simp only [wr, num]
    split
    · exact ⟨_, _, rfl, by decide, by decide⟩
    · obtain ⟨c, r, e, h1, h2, _⟩ := numL_head i.natAbs
      exact ⟨c, r, e, by omega, by omega⟩
  | str z =>
    obtain ⟨c, r, e, h1, h2, _⟩ := numL_head z.cps.toList.length
    exact ⟨c, r ++ 58 :: z.cps.toList, by simp only [wr, e, List.cons_append], by omega, by omega⟩
  | tuple ds => exact ⟨_, _, rfl, by decide, by decide⟩
  | none => simp [gd] at h
  | list _ => simp [gd] at h
  | dict _ => simp [gd] at h
theorem wr_tup (d : PyData) (ds : List PyData) : TL.joinL [32] (wrl (d :: ds)) = wr d ++ tlw ds := by
  induction ds generalizing d with
  | nil => simp [wrl, TL.joinL, tlw]
  | cons e es ih =>
    have h := ih e
    simp only [wrl] at h ⊢
    simp only [TL.joinL, tlw, h, List.cons_append, List.nil_append]
theorem stp_tlw (es : List PyData) (r : List Nat) : stp (tlw es ++ 41 :: r) := by
  cases es with
  | nil => exact stp_41 _
  | cons e es => exact stp_32 _
theorem stp_isd {r : List Nat} (h : stp r) : isd r = false := by
  cases r with
  | nil => rfl
  | cons c l =>
    have := h c l rfl
    show (decide (48 ≤ c) && decide (c ≤ 57)) = false
    rw [decide_eq_false (by omega : ¬ 48 ≤ c)]; rfl
theorem wr_neg {m : Nat} (h : 0 < m) : wr (.int (-(m : Int))) = 45 :: TL.numL m := by
  simp only [wr, num]
  rw [if_pos (by omega), Int.natAbs_neg, Int.natAbs_natCast]
theorem wr_nat {m : Nat} : wr (.int (m : Int)) = TL.numL m := by
  simp only [wr, num]
  rw [if_neg (by omega), Int.natAbs_natCast]
theorem gd_nat {m : Nat} (h : gd (.int (m : Int)) = true) : m < 10 ^ 60 := by
  simp only [gd] at h
  have := of_decide_eq_true h
  omega
theorem gd_neg {m : Nat} (h : gd (.int (-(m : Int))) = true) : m < 10 ^ 60 := by
  simp only [gd] at h
  have := of_decide_eq_true h
  omega
theorem gs_len {l : List Nat} (h : gs l = true) : l.length ≤ 1000 := by
  unfold gs at h
  rw [Bool.and_eq_true] at h
  exact of_decide_eq_true h.1
theorem appd2 {l : Addr} {xs : List V} {v : V} {H : Hp} {Q : VK} (h : H l = some (.lst xs)) (hz : xs.length < 1000000) (k : Q .non (upd H l (.lst (xs ++ [v])))) : rAppend (.ref l) [v] H Q := ⟨l, xs, v, rfl, rfl, h, Nat.lt_of_lt_of_le hz (by decide), k⟩
theorem len_tlw (es : List PyData) : es.length ≤ (tlw es).length := by
  induction es with
  | nil => simp
  | cons e es ih => simp only [tlw, List.length_cons, List.length_append]; omega
theorem wr_len (d : PyData) (ds : List PyData) : (wr (.tuple (d :: ds))).length = (wr d).length + (tlw ds).length + 2 := by
  simp only [wr, wr_tup, List.length_cons, List.length_append, List.length_nil]
theorem z60 {z : Int} (h : gd (.int z) = true) : z.natAbs.log2 < 1920 := by
  simp only [gd] at h
  have h2 := of_decide_eq_true h
  exact Nat.lt_of_lt_of_le (PySem.Flt.log2_lt_of (k := 200) (by decide) (Nat.lt_of_lt_of_le h2 (by decide))) (by decide)
theorem join_sum : ∀ ys : List (List Nat), (ys.map List.length).sum + ys.length ≤ (TL.joinL [32] ys).length + 1
  | [] => by simp [TL.joinL]
  | [y] => by simp [TL.joinL]
  | y :: z :: ys => by
    have := join_sum (z :: ys)
    simp only [TL.joinL, List.map_cons, List.sum_cons, List.length_cons, List.length_append, List.length_nil] at this ⊢
    omega
theorem join_mem {y : List Nat} : ∀ {ys : List (List Nat)}, y ∈ ys → y.length ≤ (TL.joinL [32] ys).length := fun {ys} h => by
  have h1 := join_sum ys
  have h2 : y.length ≤ (ys.map List.length).sum := by
    clear h1
    induction ys with
    | nil => cases h
    | cons z ys ih =>
      rcases List.mem_cons.mp h with rfl | h
      · simp only [List.map_cons, List.sum_cons]; omega
      · have := ih h; simp only [List.map_cons, List.sum_cons]; omega
  have h3 : 0 < ys.length := List.length_pos_of_mem h
  omega
theorem strI2 {z : Int} (h : gd (.int z) = true) {H : Hp} {Q : VK} (k : Q (.str (Rd.S (wr (.int z)))) H) : Rd.StrIK [.int z] H Q := Rd.strI (z60 h) (num_str z) k
theorem gdN {m : Nat} (h : m < 10 ^ 60) : gd (.int (m : Int)) = true := by simp only [gd]; exact decide_eq_true (by omega)
theorem strN {m : Nat} (h : m < 10 ^ 60) {H : Hp} {Q : VK} (k : Q (.str (Rd.S (TL.numL m))) H) : Rd.StrIK [.int (m : Int)] H Q := Rd.strI (z60 (gdN h)) (SX.num_S m) k
theorem dp_strs {K : PySem.W.Frag} {H : Hp} : ∀ {xs : List V} {ls : List PyData}, DpAll K H xs (ls.map fun d => .str (Rd.S (wr d))) → xs = (wrl ls).map fun y => V.str (Rd.S y)
  | _, [], .nil => rfl
  | _, l :: ls, .cons h t => by cases h; rw [dp_strs t]; simp only [wrl, List.map_cons]
section
variable {σ : L2.St} {H : Hp} {Q : VK}
theorem fmtI {R : Str → Prop} {m : Nat} (h : m < 10 ^ 60) (k : R (Rd.S (TL.numL m))) : (∃ y : Str, V.int (m : Int) = .str y ∧ y.length ≤ sizeLine ∧ R y) ∨ ∃ i : Int, V.int (m : Int) = .int i ∧ i.natAbs.log2 < 1920 ∧ R (toString i) :=
  .inr ⟨m, rfl, z60 (gdN h), by rw [SX.num_S m]; exact k⟩
theorem fmtS {R : Str → Prop} {l : List Nat} (h : l.length ≤ 1000000) (k : R (Rd.S l)) : (∃ y : Str, V.str (Rd.S l) = .str y ∧ y.length ≤ sizeLine ∧ R y) ∨ ∃ i : Int, V.str (Rd.S l) = .int i ∧ i.natAbs.log2 < 1920 ∧ R (toString i) :=
  .inl ⟨_, rfl, sz2 (by rw [Rd.S_len]; exact h), k⟩
theorem jS {ts : List TE} {Qs : Str → Hp → Prop} {a l : List Nat} (h : a.length + l.length ≤ 1000000) (k : tJs ts (Rd.S (a ++ l)) σ H Qs) : ∃ y : Str, V.str (Rd.S l) = .str y ∧ (Rd.S a ++ y).length ≤ sizeLine ∧ tJs ts (Rd.S a ++ y) σ H Qs :=
  ⟨_, rfl, by rw [Rd.S_app, Rd.S_len, List.length_append]; exact sz2 h, by rw [Rd.S_app]; exact k⟩
theorem jS0 {ts : List TE} {Qs : Str → Hp → Prop} {l : List Nat} (h : l.length ≤ 1000000) (k : tJs ts (Rd.S l) σ H Qs) : ∃ y : Str, V.str (Rd.S l) = .str y ∧ (Str.empty ++ y).length ≤ sizeLine ∧ tJs ts (Str.empty ++ y) σ H Qs := by
  have e : (Str.empty : Str) = Rd.S [] := rfl
  rw [e]
  exact jS (by simpa using h) k
end
end Ez

set_option Elab.async false
set_option linter.all false
set_option maxRecDepth 100000
set_option maxHeartbeats 4000000
/-! Data with lists in it that stands in a list that grows; dicts of written keys. -/
namespace Ef
open PySem PySem.Spec PyProof.Rows L2 Dj Es
section
variable {K : PySem.W.Frag} {H H1 H2 : Hp} {p : Addr} {o o' : HO}
/-- the heap without what stands at p -/
def dl (H : Hp) (p : Addr) : Hp := fun a => if a = p then none else H a
theorem dl_ne {a : Addr} (h : a ≠ p) : dl H p a = H a := if_neg h
theorem dl_self : dl H p p = none := if_pos rfl
theorem dl_same : Same (dl H p) H := fun a o h => by
  by_cases e : a = p
  · subst e; rw [dl_self] at h; cases h
  · rw [dl_ne e] at h; exact h
theorem dl_upd : dl (upd H p o) p = dl H p := by
  funext a
  by_cases e : a = p
  · subst e; rw [dl_self, dl_self]
  · rw [dl_ne e, dl_ne e, upd_ne e]
theorem same_dl (s : Same H1 H2) : Same (dl H1 p) (dl H2 p) := fun a o h => by
  by_cases e : a = p
  · subst e; rw [dl_self] at h; cases h
  · rw [dl_ne e] at h ⊢; exact s _ _ h
theorem sameT_dl {l : List V} (h : H p = some (.lst l)) : SameT H (dl H p) := fun a o ha n => by
  rw [dl_ne fun e => by subst e; rw [h] at ha; exact n l (Option.some.inj ha).symm]; exact ha
/-- data that leans on no list that stood before -/
def FrD (K : PySem.W.Frag) (H H' : Hp) (v : V) (d : PyData) : Prop := ∀ p l, H p = some (.lst l) → Dp K (dl H' p) v d
/-- data behind a store at something else -/
theorem sqT_off {a : Addr} {xs : List V} (hp : H p = some o) (h1 : ∀ ys, o ≠ .tup ys) (h2 : ∀ z u, o ≠ .frz z u) (h : SqT K H a xs) : SqT K (upd H p o') a xs := sqT_upd hp h1 h2 h
theorem sqL_off {a : Addr} {xs : List V} (hp : H p = some o) (h1 : ∀ ys, o ≠ .lst ys) (h2 : ∀ z u, o ≠ .frz z u) (h : SqL K H a xs) : SqL K (upd H p o') a xs := by
  rcases h with (h | ⟨z, h⟩) | h
  · exact .inl (.inl ((upd_ne fun e => by rw [e, hp] at h; exact h1 _ (Option.some.inj h)).trans h))
  · exact .inl (.inr ⟨z, (upd_ne fun e => by rw [e, hp] at h; exact h2 _ _ (Option.some.inj h)).trans h⟩)
  · exact .inr h
theorem dp_off (hp : H p = some o) (h0 : ∀ ys, o ≠ .lst ys) (h1 : ∀ ys, o ≠ .tup ys) (h2 : ∀ z u, o ≠ .frz z u) : ∀ {x : V} {d : PyData}, Dp K H x d → Dp K (upd H p o') x d
  | _, _, .non => .non
  | _, _, .bl b => .bl b
  | _, _, .int i => .int i
  | _, _, .str x => .str x
  | _, _, .lst h a => .lst (sqL_off hp h0 h2 h) (go hp h0 h1 h2 a)
  | _, _, .tup h a => .tup (sqT_off hp h1 h2 h) (go hp h0 h1 h2 a)
where go (hp : H p = some o) (h0 : ∀ ys, o ≠ .lst ys) (h1 : ∀ ys, o ≠ .tup ys) (h2 : ∀ z u, o ≠ .frz z u) : ∀ {xs : List V} {ds : List PyData}, DpAll K H xs ds → DpAll K (upd H p o') xs ds
  | _, _, .nil => .nil
  | _, _, .cons h t => .cons (dp_off hp h0 h1 h2 h) (go hp h0 h1 h2 t)
theorem dpAll_off (hp : H p = some o) (h0 : ∀ ys, o ≠ .lst ys) (h1 : ∀ ys, o ≠ .tup ys) (h2 : ∀ z u, o ≠ .frz z u) {xs : List V} {ds : List PyData} (h : DpAll K H xs ds) : DpAll K (upd H p o') xs ds := dp_off.go hp h0 h1 h2 h
end
/-! dicts of written keys -/
section
variable {K : PySem.W.Frag} {σ : L2.St} {H : Hp} {Q : VK}
theorem disp {trs : List (TE × TE)} (k : ∀ p, H p = none → tPairs trs σ (upd H p (.dK [])) fun ps H2 => H2 p = some (.dK []) ∧ ∃ kvs : List (L2.Key × V), ps = kvs.map (fun kv => (kV kv.1, kv.2)) ∧ kvs.length ≤ 15 ∧ Q (.ref p) (upd H2 p (.dK (mergeK [] kvs)))) : tDisp trs σ H Q := k
theorem pairS {tk tv : TE} {r : List (TE × TE)} {R : List (V × V) → Hp → Prop} (k : tk σ H fun x H1 => tv σ H1 fun y H2 => tPairs r σ H2 fun ps H3 => R ((x, y) :: ps) H3) : tPairs ((tk, tv) :: r) σ H R := k
theorem pairN {R : List (V × V) → Hp → Prop} (k : R [] H) : tPairs [] σ H R := k
theorem putK_new {kvs : List (L2.Key × V)} {k : L2.Key} {v : V} (h : k ∉ kvs.map (·.1)) : putK kvs k v = kvs ++ [(k, v)] := by
  unfold putK
  rw [if_neg]
  intro q
  rw [List.any_eq_true] at q
  obtain ⟨x, hx, e⟩ := q
  exact h (List.mem_map.mpr ⟨x, hx, by simpa using e⟩)
theorem merge_id : ∀ {more kvs : List (L2.Key × V)}, ((kvs ++ more).map (·.1)).Nodup → mergeK kvs more = kvs ++ more
  | [], kvs, _ => by show kvs = kvs ++ []; rw [List.append_nil]
  | p :: r, kvs, h => by
    show mergeK (putK kvs p.1 p.2) r = kvs ++ p :: r
    have hn : p.1 ∉ kvs.map (·.1) := by
      intro q
      rw [List.map_append, List.nodup_append] at h
      exact h.2.2 p.1 q p.1 (by simp) rfl
    rw [putK_new hn, merge_id (by rw [List.append_assoc]; exact h), List.append_assoc]
    rfl
/-- a dict with these keys at f, its values the data ds -/
def FdAt (K : PySem.W.Frag) (H : Hp) (f : Addr) (names : List Str) (ds : List PyData) : Prop := names.Nodup ∧ ∃ vs, H f = some (.dK ((names.map Sum.inr).zip vs)) ∧ DpAll K H vs ds
theorem FdAt.keep {f : Addr} {names : List Str} {ds : List PyData} {H' : Hp} (h : FdAt K H f names ds) (s : Same H H') : FdAt K H' f names ds := by
  obtain ⟨n, vs, h1, h2⟩ := h
  exact ⟨n, vs, s _ _ h1, dpAll_same s h2⟩
theorem fd_val : ∀ {names : List Str} {vs : List V} {ds : List PyData} {i : Nat} {s : Str} {d : PyData}, names.Nodup → DpAll K H vs ds → names[i]? = some s → ds[i]? = some d → ∃ v, valV ((names.map (Sum.inr : Str → L2.Key)).zip vs) (.inr s) = some v ∧ Dp K H v d
  | [], _, _, i, s, d, _, _, h, _ => by simp at h
  | n :: ns, _, _, i, s, d, hn, .nil, h, k => by simp at k
  | n :: ns, v :: vs, d0 :: ds, i, s, d, hn, .cons h t, h1, h2 => by
    have hn2 := List.nodup_cons.mp hn
    cases i with
    | zero =>
      simp only [List.getElem?_cons_zero, Option.some.injEq] at h1 h2
      subst h1 h2
      exact ⟨v, by rw [List.map_cons, List.zip_cons_cons]; exact valV_pos rfl, h⟩
    | succ i =>
      simp only [List.getElem?_cons_succ] at h1 h2
      obtain ⟨w, hw, hd⟩ := fd_val hn2.2 t h1 h2
      have ne : n ≠ s := fun e => hn2.1 (by rw [e]; exact List.mem_of_getElem? h1)
      exact ⟨w, by rw [List.map_cons, List.zip_cons_cons, valV_neg (fun e => ne (Sum.inr.inj e))]; exact hw, hd⟩
theorem dgetS {td ty : TE} (k : td σ H fun x H1 => ty σ H1 fun y H2 => ∃ a v, x = .ref a ∧ DGet H2 a y (some v) ∧ Q v H2) : tDGet td ty σ H Q := k
theorem fdGet {f : Addr} {names : List Str} {ds : List PyData} {s : Str} {d : PyData} {R : V → Prop} (i : Nat) (h : FdAt K H f names ds) (h1 : names[i]? = some s) (h2 : ds[i]? = some d) (k : ∀ v, Dp K H v d → R v) : ∃ a v, V.ref f = .ref a ∧ DGet H a (.str s) (some v) ∧ R v := by
  obtain ⟨n, vs, h3, h4⟩ := h
  obtain ⟨v, hv, hd⟩ := fd_val n h4 h1 h2
  refine ⟨f, v, rfl, ?_, k v hd⟩
  have := DGet.k (k := .inr s) h3
  rw [hv] at this
  exact this
theorem fdGetS {H0 : Hp} {f : Addr} {names : List Str} {ds : List PyData} {s : Str} {d : PyData} {R : V → Prop} (i : Nat) (h : FdAt K H0 f names ds) (e : Same H0 H) (h1 : names[i]? = some s) (h2 : ds[i]? = some d) (k : ∀ v, Dp K H0 v d → R v) : ∃ a v, V.ref f = .ref a ∧ DGet H a (.str s) (some v) ∧ R v := by
  obtain ⟨n, vs, h3, h4⟩ := h
  obtain ⟨v, hv, hd⟩ := fd_val n h4 h1 h2
  refine ⟨f, v, rfl, ?_, k v hd⟩
  have := DGet.k (k := .inr s) (e _ _ h3)
  rw [hv] at this
  exact this
theorem same_to_dl {H0 : Hp} {D : Addr} (s : Same H0 H) (n : H0 D = none) : Same H0 (dl H D) := fun a o e => (dl_ne (ne_of_none e n)).trans (s a o e)
theorem ixLt {l : Addr} {ns : List Int} {i n : Int} (h : SqL K H l (ns.map V.int)) (hb : ∀ x ∈ ns, 0 ≤ x ∧ x < n) (h0 : 0 ≤ i) (h1 : i < (ns.length : Int)) (k : ∀ v : Int, 0 ≤ v → v < n → Q (.int v) H) : rIxL K (.ref l) (.int i) H Q := by
  have hg := hb (ns.getD i.toNat 0) (by
    have h2 : i.toNat < ns.length := by omega
    rw [List.getD_eq_getElem?_getD, List.getElem?_eq_getElem h2]
    exact List.getElem_mem h2)
  exact Rd.ixL h (Rd.atI_ints h0 h1) (k _ hg.1 hg.2)
theorem slFrom {a : Addr} {ns : List Int} {k : Nat} (h : SqL K H a (ns.map V.int)) (hk : k ≤ ns.length) (kk : ∀ p, H p = none → Q (.ref p) (upd H p (.lst ((ns.drop k).map V.int)))) : rSlL K (.ref a) (some (k : Int)) none H Q := by
  refine Rd.slL' h fun p hp => ?_
  rw [show cutV (ns.map V.int) (some (k : Int)) none = (ns.drop k).map V.int from (Bd.cut_drop (by rw [List.length_map]; exact hk)).trans List.map_drop.symm]
  exact kk p hp
theorem FrD.of_nl {H' : Hp} {v : V} {d : PyData} (s : Same H H') (n : nl d = true) (h : Dp K H' v d) : FrD K H H' v d := fun p l e => dp_keep (sameT_dl (s _ _ e)) n h
/-- [data for k in range(m)], each leaning on no list that stood before -/
theorem lcG {α : Type} {m : Int} {j : Nat} {te : TE} (enc : α → PyData) (Ok : α → Prop) (hb : 0 ≤ m ∧ m ≤ 1000)
    (hs : ∀ (i : Nat) (D : Addr) (acc : List V) (H' : Hp) (C : VK), (i : Int) < m → Same H H' → H' D = some (.lst acc) → (∀ y e H3, Same H' H3 → Dp K H3 y (enc e) → FrD K H' H3 y (enc e) → Ok e → C y H3) → te (σ.set j (some (.int (i : Int)))) H' C)
    (hd : ∀ D acc (L : List α) H', H D = none → Same H H' → H' D = some (.lst acc) → DpAll K (dl H' D) acc (L.map enc) → (∀ e ∈ L, Ok e) → L.length = m.toNat → Q (.ref D) H') :
    ∃ q : Int, [V.int m] = [V.int q] ∧ -(2 ^ 62) ≤ q ∧ q < 2 ^ 62 ∧ Rd.LcJ (gName j) tYes te [j] σ Q (Itr 0 q.toNat) H := by
  refine Rd.lcR1 (fun D i acc H' => ∃ L : List α, DpAll K (dl H' D) acc (L.map enc) ∧ (∀ e ∈ L, Ok e) ∧ L.length = i) ⟨by omega, by omega⟩ (fun D H' _ _ _ => ⟨[], .nil, fun _ h => absurd h List.not_mem_nil, rfl⟩) ?_ ?_
  · rintro i acc D H' hD s hi hl hDl ⟨L, hL, hO, hLl⟩
    refine hs i D acc H' _ hi s hDl fun y e H3 s3 hy hf ho => ?_
    refine Rd.lcE hD (s3 _ _ hDl) (s.trans s3) hl (by omega) ⟨L ++ [e], ?_, ?_, by rw [List.length_append]; simp; omega⟩
    · rw [dl_upd, List.map_append]
      exact dpAll_app (dpAll_same (same_dl s3) hL) (dpAll_one (hf D acc hDl))
    · intro x hx
      rcases List.mem_append.mp hx with h | h
      · exact hO x h
      · rw [List.mem_singleton.mp h]; exact ho
  · rintro D acc H' hD s hDl hal ⟨L, hL, hO, hLl⟩
    have := Rd.dpAll_len hL
    rw [List.length_map] at this
    exact hd D acc L H' hD s hDl hL hO (by omega)
theorem triple_of {z : Addr} {x y w : V} {i j l : Nat} {Qd : L2.St → Hp → Prop} (h : SqT K H z [x, y, w]) (k : Qd (((σ.set i (some x)).set j (some y)).set l (some w)) H) : gTup K 3 (gCons (gName i) (gCons (gName j) (gCons (gName l) gNil))) (.ref z) σ H Qd :=
  ⟨z, _, rfl, h, rfl, x, [y, w], rfl, y, [w], rfl, w, [], rfl, rfl, k⟩
/-- tuple(xs), xs a list or a tuple, told beside an object t in the making -/
theorem tupE {t a : Addr} {us : List V} {o : HO} (ht : H t = some o) (h : SqL K (dl H t) a us ∨ SqT K (dl H t) a us) (k : ∀ p H', Same H H' → SqT K (dl H' t) p us → Q (.ref p) H') : Rd.TupK K [.ref a] H Q := by
  rcases h with h | h
  · exact Rd.tupL (dl_same.seq h) fun p hp => k p _ (Rd.same_new hp) (SqT.of ((dl_ne (fun e => by subst e; rw [ht] at hp; cases hp)).trans upd_same))
  · exact Rd.tupT (Rd.same_tup dl_same h) (k a H (Same.refl H) h)
theorem dl_store {t : Addr} {o : HO} : Same (dl H t) (dl (upd H t o) t) := by rw [dl_upd]; exact Same.refl _
end
/-- {}, younger than the frame -/
def tDNewXN (P : Program) (w : World) (K : PySem.W.Frag) (n : Nat) : TE := fun _ H Q => ∀ p, H p = none → n ≤ p → DS P w K (upd H p (dX P w p [])) p [] → Q (.ref p) (upd H p (dX P w p []))
theorem pe_dnewXN {X : Cx} {pos : Pos} : PE X (.Dict [] [] pos) (tDNewXN X.prog X.w X.K X.s_0.heap.objs.size) := ⟨fun pins s σ H Q I h =>
  wpAny_Dict_empty ⟨.ref s.heap.objs.size, _, I.laid (a := s.heap.objs.size) (o := dX X.prog X.w s.heap.objs.size []) (t' := s.toks) (fun _ _ q => Heap.get?_push_of_some _ q) (Nat.le_refl _) (dX_new s.heap I.big), rfl,
    h _ (I.hok.fresh (Nat.le_refl _)) I.sz DS.nil⟩⟩
theorem dnewXN {P : Program} {w : World} {K : PySem.W.Frag} {σ : L2.St} {H : Hp} {Q : VK} {n : Nat} (k : ∀ p, H p = none → n ≤ p → DS P w K (upd H p (dX P w p [])) p [] → Q (.ref p) (upd H p (dX P w p []))) : tDNewXN P w K n σ H Q := k
/-- [.. for i, x in enumerate(xs)] -/
theorem lcEn {K : PySem.W.Frag} {σ : L2.St} {H : Hp} {Q : VK} {a : Addr} {xs : List V} {g : TG} {te : TE} {vs : List Nat} (Pv : Addr → Nat → List V → Hp → Prop) (h : SqL K H a xs) (h0 : ∀ D H', H D = none → Same H H' → H' D = some (.lst []) → Pv D 0 [] H')
    (hs : ∀ (i : Nat) (x : V) (acc : List V) (D : Addr) (H' : Hp) (T : Addr), H D = none → Same H H' → xs[i]? = some x → acc.length = i → H' D = some (.lst acc) → Pv D i acc H' → H' T = none →
      g (.ref T) (wipe σ vs) (upd H' T (.tup [.int (i : Nat), x])) fun σ2 H2 => wipe σ2 vs = wipe σ vs ∧ te σ2 H2 (Rd.LcE H D i Pv))
    (hd : ∀ D acc H', H D = none → Same H H' → H' D = some (.lst acc) → acc.length = xs.length → Pv D xs.length acc H' → Q (.ref D) H') :
    ∃ a' xs', [V.ref a] = [V.ref a'] ∧ SqL K H a' xs' ∧ Rd.LcJ g tYes te vs σ Q (Ite K a') H := by
  refine ⟨a, xs, rfl, h, fun D hD => ⟨fun i m H' => m = xs.length - i ∧ i ≤ xs.length ∧ ∃ acc, Same H H' ∧ acc.length = i ∧ H' D = some (.lst acc) ∧ Pv D i acc H', ⟨xs.length, by simp, Nat.zero_le _, [], Rd.same_new hD, rfl, upd_same, h0 D _ hD (Rd.same_new hD) upd_same⟩, ?_⟩⟩
  rintro i m H' ⟨rfl, hi, acc, s, hl, hDl, p⟩
  have q := s.seq h
  by_cases hlt : i < xs.length
  · refine .inr ⟨⟨xs, xs[i], q, by simp [hlt]⟩, fun H2 => ∃ acc2, Same H H2 ∧ acc2.length = i + 1 ∧ H2 D = some (.lst acc2) ∧ Pv D (i + 1) acc2 H2, fun H2 p' => ⟨xs.length - (i + 1), by omega, rfl, hlt, p'⟩, ?_⟩
    rintro x H2 ⟨T, x', rfl, hT, rfl, hx⟩
    exact hs i x' acc D H' T hD s (hx xs q) hl hDl p hT
  · have e : i = xs.length := by omega
    subst e
    exact .inl ⟨⟨xs, q, Nat.le_refl _⟩, hd D acc H' hD s hDl hl p⟩
theorem iEn {K : PySem.W.Frag} {σ : L2.St} {H : Hp} {ta : TA} {R : It → Hp → Prop} (k : ta σ H fun vs H1 => ∃ a xs, vs = [.ref a] ∧ SqL K H1 a xs ∧ R (Ite K a) H1) : iEnum K ta σ H R := k
/-- t[lo:hi] of a tuple -/
theorem slA {K : PySem.W.Frag} {H : Hp} {Q : VK} {a : Addr} {xs : List V} {lo hi : Option Int} (h : SqT K H a xs) (k : ∀ p H', Same H H' → SqT K H' p (cutV xs lo hi) → Q (.ref p) H') : rSlA K (.ref a) lo hi H Q :=
  ⟨a, xs, rfl, h, fun e => k a H (Same.refl H) (by
    have q : cutV xs lo hi = xs := by
      unfold cutV
      rw [e.1, e.2, List.drop_zero]
      simp
    rw [q]; exact h), fun _ p hp => k p _ (Rd.same_new hp) (SqT.of upd_same)⟩
end Ef
namespace Rb
open PySem PySem.Spec PyProof.Rows L2
theorem call_tupK {X : Cx} {K : PySem.W.Frag} (h : X.K = K) : CallR X (.type "tuple") (fun xs H Q => ∃ p ys, xs = [V.ref p] ∧ ((SqL K H p ys ∧ ∀ l, H l = none → Q (.ref l) (upd H l (.tup ys))) ∨ (SqT K H p ys ∧ Q (.ref p) H))) := by
  subst h; exact call_tuple_of
theorem call_lstK {X : Cx} {K : PySem.W.Frag} (h : X.K = K) : CallR X (.type "list") (fun xs H Q => ∃ p ys, xs = [V.ref p] ∧ (SqL K H p ys ∨ SqT K H p ys) ∧ ∀ l, H l = none → Q (.ref l) (upd H l (.lst ys))) := by
  subst h; exact call_list_of
end Rb

set_option Elab.async false
set_option linter.all false
set_option maxRecDepth 100000
set_option maxHeartbeats 4000000
/-! Sets of texts by a comprehension, and their sorted list. -/
namespace Bd
open PySem PySem.Spec PyProof.Rows L2 PpSet
def tx (e : Int × Value) : Str := match e.2 with
  | .str x _ => x
  | _ => Str.empty
/-- the entries are these texts, each once -/
structure OkT (w : World) (l : List (Int × Value)) (ms : List Str) : Prop where
  good : ∀ e ∈ l, ∃ x k, e.2 = Value.str x k ∧ e.1 = keyH w (Sum.inr x)
  pm : (l.map tx).Perm ms
  nd : ms.Nodup
theorem OkT.perm {w : World} {l l' : List (Int × Value)} {ms : List Str} (h : OkT w l ms) (p : l'.Perm l) : OkT w l' ms := ⟨fun e he => h.good e (p.mem_iff.mp he), (p.map tx).trans h.pm, h.nd⟩
theorem OkT.elems {P : Program} {w : World} {l : List (Int × Value)} {ms : List Str} (h : OkT w l ms) : ElemsOf (mixKind P w) l := fun e he => by
  obtain ⟨x, k, h1, h2⟩ := h.good e he
  exact ⟨⟨Sum.inr x, by rw [h1]; exact mixKind_str P w x k, h2⟩, by rw [h1]; rfl⟩
theorem OkT.is {P : Program} {w : World} {l : List (Int × Value)} {ms : List Str} (h : OkT w l ms) {e : Int × Value} (he : e ∈ l) (x : Str) : (mixKind P w).is (Sum.inr x) e.2 = true ↔ tx e = x := by
  obtain ⟨y, k, h1, _⟩ := h.good e he
  have ty : tx e = y := by unfold tx; rw [h1]
  rw [ty]
  constructor
  · intro z
    have z2 : (mixKind P w).is (Sum.inr y) e.2 = true := by rw [h1]; exact mixKind_str P w y k
    exact Sum.inr.inj ((mixKind P w).inj _ _ _ z2 z)
  · rintro rfl
    rw [h1]; exact mixKind_str P w y k
/-- a set of texts stands at a; it can be walked -/
def TxAt (w : World) (h : Heap) (a : Addr) (ms : List Str) : Prop := ∃ o es ep t, h.get? a = some o ∧ o.ExactSet ∧ o.data = .set es ep t ∧ OkT w es.toList ms ∧ es.size < scanBound ∧ t.fits es.size = true ∧ Ris t.place.toList ∧ (w.params.followText "set-order" = true ∨ t.led = true)
def TxO (w : World) (a : Addr) (ms : List Str) : HO := .ext fun h => TxAt w h a ms
theorem txO_ok {P : Program} {w : World} {H : Hp} {h : Heap} {a : Addr} {ms : List Str} (r : TxAt w h a ms) : ObjOk P w H h a (TxO w a ms) := by
  have ⟨o, _, _, _, q, _⟩ := r
  exact ⟨r, ⟨o, q⟩, fun h1 h2 ⟨o, es, ep, t, z, rest⟩ k => ⟨o, es, ep, t, k o z, rest⟩⟩
theorem txNew {h : Heap} (w : World) : TxAt w (h.push { cls := .type "set", dict := none, data := .set #[] 0 (.fresh 0 0 (!w.params.followText "set-order")) }) h.objs.size [] := by
  obtain ⟨o, es, ep, t, h1, h2, h3, _, _, _, h5, h6, h7, h8, h9⟩ := setB_fresh (h := h) w
  have e0 : es = #[] := Array.eq_empty_of_size_eq_zero h7
  subst e0
  exact ⟨o, _, ep, t, h1, h2, h3, ⟨fun e he => by simp at he, by simp, List.nodup_nil⟩, h5, h6, h8, h9⟩
section
variable {P : Program} {w : World} {A : Around} {E : Value → Shared → Prop} {s : Shared} {a : Addr}
theorem put_end {gv : Bool → Sem Unit} (hgv : ∀ (b : Bool) (u : Shared) (Q : Unit → Shared → Prop), Q () u → wpAny (model P w) A (gv b) Q E u) {ob : Obj} {es : Array (Int × Value)} {n : Nat} {tb : SetTable}
    (h1 : s.heap.get? a = some ob) (h2 : ob.ExactSet) (h3 : ob.data = .set es n tb) {fs : Array (Int × Value)} {t9 : SetTable} {ms : List Str} (ok : OkT w fs.toList ms) (hb : fs.size < scanBound) (hf : t9.fits fs.size = true)
    (hr : Ris t9.place.toList) (hl : w.params.followText "set-order" = true ∨ t9.led = true) {wd : Bool} {R : Option Bool → Shared → Prop}
    (hR : ∀ h', Heap.SameBut a s.heap h' → TxAt w h' a ms → R (some true) { s with heap := h' }) :
    wpAny (model P w) A (do
      storeSet a fs t9
      if (!wd && t9.tooFull) = true then do
        gv (relayAll t9 fs (SetTable.grown fs.size)).2.2
        storeSet a (relayAll t9 fs (SetTable.grown fs.size)).1 (relayAll t9 fs (SetTable.grown fs.size)).2.1
        pure (some true)
      else pure (some true)) R E s := by
  refine wpAny_bind (wpAny_storeSet_of h1 h3 ?_ (fits_of_scanBound hb))
  have p1 := storeB_at (es' := fs) (t' := t9) h1 h3
  have q1 := Heap.SameBut.update s.heap a (Obj.putSet fs t9)
  split
  · have pm := relayAll_perm t9 fs (SetTable.grown fs.size)
    have g1 := relayAll_fits t9 fs (SetTable.grown fs.size)
    have g2 := relayAll_ris t9 fs (SetTable.grown fs.size)
    have g3 := relayAll_led t9 fs (SetTable.grown fs.size)
    generalize relayAll t9 fs (SetTable.grown fs.size) = Y at pm g1 g2 g3 ⊢
    obtain ⟨gs, t8, gave⟩ := Y
    dsimp only at pm g1 g2 g3 ⊢
    have ez : gs.size = fs.size := by
      have := pm.length_eq
      simpa using this
    refine wpAny_bind (hgv _ _ _ ?_)
    refine wpAny_bind (wpAny_storeSet_of p1 rfl ?_ (fits_of_scanBound (by rw [ez]; exact hb)))
    have p2 := storeB_at (es' := gs) (t' := t8) p1 rfl
    exact wpAny_pure (hR _ (q1.trans (Heap.SameBut.update _ a _)) ⟨_, gs, _, t8, p2, h2, rfl, ok.perm pm, by rw [ez]; exact hb, g1, g2, hl.imp id fun z => by rw [g3]; exact z⟩)
  · exact wpAny_pure (hR _ q1 ⟨_, fs, _, t9, p1, h2, rfl, ok, hb, hf, hr, hl⟩)
def addT (ms : List Str) (x : Str) : List Str := if x ∈ ms then ms else ms ++ [x]
theorem addHashT {ms : List Str} {x : Str} {tk : Tok} {Q : Bool → Shared → Prop} (r : TxAt w s.heap a ms) (room : ms.length + 1 < scanBound)
    (hQ : ∀ (b : Bool) h', Heap.SameBut a s.heap h' → TxAt w h' a (addT ms x) → Q b { s with heap := h' }) : wpAny (model P w) A (setAddHashed a (.str x tk) (keyH w (Sum.inr x))) Q E s := by
  obtain ⟨ob, es, n, tb, h1, h2, h3, ok, hb, hf, hr, hl⟩ := r
  have kx : (mixKind P w).is (Sum.inr x) (.str x tk) = true := mixKind_str P w x tk
  have sc : (Value.str x tk).scannable = true := rfl
  have el : ElemsOf (mixKind P w) es.toList := ok.elems
  unfold setAddHashed setAddHashedIn
  refine wpAny_holding (wpAny_bind (wpAny_setState_of h1 h3 hf ?_))
  dsimp only
  rw [byScan_of sc hb el]
  simp only [↓reduceIte]
  unfold setAddByScan
  refine wpAny_bind (wpAny_bind (wpAny_rule (wpAny_bind (wpAny_setScan_of (knd := mixKind P w) kx h1 h3 hf el ?_))))
  cases hi : List.findIdx? (fun e => (mixKind P w).is (Sum.inr x) e.2) es.toList with
  | some j =>
    dsimp only
    obtain ⟨hj, pj, _⟩ := List.findIdx?_eq_some_iff_getElem.mp hi
    have hin : x ∈ ms := ok.pm.mem_iff.mp (List.mem_map.mpr ⟨_, List.getElem_mem hj, (ok.is (P := P) (List.getElem_mem hj) x).mp pj⟩)
    refine wpAny_pure (wpAny_pure (hQ _ s.heap (Heap.SameBut.refl a s.heap) ⟨ob, es, n, tb, h1, h2, h3, ?_, hb, hf, hr, hl⟩))
    unfold addT
    rw [if_pos hin]
    exact ok
  | none =>
    dsimp only
    have hno : x ∉ ms := fun z => by
      obtain ⟨e, he, q⟩ := List.mem_map.mp (ok.pm.mem_iff.mpr z)
      have c := List.findIdx?_eq_none_iff.mp hi e he
      rw [(ok.is (P := P) he x).mpr q] at c
      cases c
    have pm := layNew_perm tb es (keyH w (Sum.inr x)) (.str x tk)
    have g1 := layNew_fits tb es (keyH w (Sum.inr x)) (.str x tk)
    have g2 := layNew_ris tb es (keyH w (Sum.inr x)) (.str x tk) hr
    have g3 := layNew_led tb es (keyH w (Sum.inr x)) (.str x tk)
    generalize layNew tb es (keyH w (Sum.inr x)) (.str x tk) = Y at pm g1 g2 g3 ⊢
    obtain ⟨fs, t9, wd, gave⟩ := Y
    dsimp only at pm g1 g2 g3 ⊢
    rw [Array.toList_push] at pm
    have pc : fs.toList.Perm ((keyH w (Sum.inr x), Value.str x tk) :: es.toList) := pm.trans (List.perm_append_singleton _ _)
    have ok1 : OkT w fs.toList (addT ms x) := by
      unfold addT
      rw [if_neg hno]
      refine ⟨fun e he => ?_, ?_, ?_⟩
      · rcases List.mem_cons.mp (pc.mem_iff.mp he) with z | z
        · rw [z]; exact ⟨x, tk, rfl, rfl⟩
        · exact ok.good e z
      · have := pc.map tx
        rw [List.map_cons] at this
        exact this.trans ((List.Perm.cons _ ok.pm).trans (List.perm_append_singleton _ _).symm)
      · rw [List.nodup_append]
        exact ⟨ok.nd, by simp, fun y hy z hz e => hno (by rw [List.mem_singleton] at hz; rw [← hz, ← e]; exact hy)⟩
    have ez : fs.size = ms.length + 1 := by
      have e1 := pc.length_eq
      have e2 := ok.pm.length_eq
      simp only [List.length_cons, Array.length_toList, List.length_map] at e1 e2
      omega
    have hb1 : fs.size < scanBound := by rw [ez]; exact room
    have hl1 : w.params.followText "set-order" = true ∨ t9.led = true := hl.imp id fun z => by rw [g3]; exact z
    have out : ∀ h', Heap.SameBut a s.heap h' → TxAt w h' a (addT ms x) → Q true { s with heap := h' } := fun h' sb r => hQ true h' sb r
    refine wpAny_bind ?_
    have go : ∀ (U : Unit → Shared → Prop), U () s → wpAny (model P w) A (match gave with | true => rule "set.scan.the-table-gave-way" | false => pure ()) U E s := fun U q => by
      cases gave
      · exact wpAny_pure q
      · exact wpAny_rule q
    refine go _ ?_
    split
    · refine wpAny_bind ?_
      rw [hashByValue_scannable 8 sc]
      refine wpAny_pure ?_
      simp only [show plainKind (Value.str x tk) = false from rfl, Bool.false_eq_true, if_false]
      refine put_end (fun b u U q => ?_) h1 h2 h3 ok1 hb1 (SetTable.fits_plain_off g1) g2 hl1 (fun h' sb r => wpAny_pure (out h' sb r))
      cases b
      · exact wpAny_pure q
      · exact wpAny_rule q
    · refine wpAny_bind (wpAny_pure ?_)
      simp only [↓reduceIte]
      refine put_end (fun b u U q => ?_) h1 h2 h3 ok1 hb1 g1 g2 hl1 (fun h' sb r => wpAny_pure (out h' sb r))
      cases b
      · exact wpAny_pure q
      · exact wpAny_rule q
theorem addText {ms : List Str} {x : Str} {tk : Tok} {Q : Value → Shared → Prop} (r : TxAt w s.heap a ms) (room : ms.length + 1 < scanBound)
    (hQ : ∀ h', Heap.SameBut a s.heap h' → TxAt w h' a (addT ms x) → Q .none { s with heap := h', toks := s.toks + 1 }) : wpAny (model P w) A (call (.builtin "set.add") [.ref a, .str x tk]) Q E s := by
  obtain ⟨ob, es, n, tb, h1, h2, h3, rest⟩ := id r
  have hT : s.TypeIs (.ref a) "set" := ⟨ob, h1, h2.1⟩
  refine wpAny_call_entry F.slot_set_add hT F.entry_set_add ?_ (F.args_set_add_2 _ _)
  unfold Builtin.«set.add» Builtin.Frozenset.oneOther
  simp only [List.isEmpty_nil, bind_assoc]
  unfold Builtin.Frozenset.addrOf setAdd
  refine wpAny_bind (wpAny_pure ?_)
  try dsimp only
  refine wpAny_bind (wpAny_pure ?_)
  try dsimp only
  refine wpAny_bind (wpAny_holding (wpAny_bind ((mixKind P w).pyHash (mixKind_str P w x tk) ?_)))
  refine addHashT (s := { s with toks := s.toks + 1 }) r room fun b h' sb r' => ?_
  exact wpAny_pure ⟨_, rfl, hQ h' sb r'⟩
end
section
variable {X : Cx}
theorem addT_ok {pins : List (Addr × Obj)} {σ : L2.St} {H : Hp} {s : Shared} {E : Value → Shared → Prop} {D : Addr} {ms : List Str} {x : Str} {tk : Tok} {Q : Value → Shared → Prop} (I : Inv X pins σ H s) (hD : H D = some (TxO X.w D ms)) (room : ms.length + 1 < scanBound)
    (h : ∀ s', Inv X pins σ (upd H D (TxO X.w D (addT ms x))) s' → Q .none s') : wpAny (model X.prog X.w) X.A (call (.builtin "set.add") [.ref D, .str x tk]) Q E s := by
  have r : TxAt X.w s.heap D ms := (I.hok D _ hD).1
  refine addText r room fun h' sb new => ?_
  have hin : ∃ u, h'.get? D = some u := by
    have ⟨o, _, _, _, q, _⟩ := new
    exact ⟨o, q⟩
  exact h _ (I.write (e := D) (t' := s.toks + 1) (by rw [hD]; trivial) (.inl rfl) (fun b u hb hu => (sb.2 b hb).trans hu) hin (txO_ok new))
/-- what {e for ..} asks of what it walks, e a text: D the new set -/
def ScJ (w : World) (g : TG) (tt : TT) (te : TE) (vs : List Nat) (σ : L2.St) (Q : VK) (J : It) (H1 : Hp) : Prop := ∀ D, H1 D = none → ∃ W : Nat → Nat → Hp → Prop, (∃ m, W 0 m (upd H1 D (TxO w D []))) ∧ ∀ i m H, W i m H →
  (J.stop i H ∧ Q (.ref D) H) ∨ (J.go i H ∧ ∃ Nx : Hp → Prop, (∀ H', Nx H' → ∃ m', m' < m ∧ W (i + 1) m' H') ∧ ∀ x H', J.yld i H x H' → g x (wipe σ vs) H' fun σ2 H2 => wipe σ2 vs = wipe σ vs ∧ tt σ2 H2 fun t H3 =>
    if t = true then te σ2 H3 fun y H4 => ∃ ms z, y = .str z ∧ H4 D = some (TxO w D ms) ∧ ms.length + 1 < scanBound ∧ Nx (upd H4 D (TxO w D (addT ms z))) else Nx H3)
def tScT (w : World) (wi : TI) (g : TG) (tt : TT) (te : TE) (vs : List Nat) : TE := fun σ H Q => wi σ H fun J H1 => ScJ w g tt te vs σ Q J H1
theorem pe_scT {vx tg iter : Expr} {ifs : List Expr} {scope : Scope} {own : List (Str × Nat)} {pos : Pos} {wi : TI} {g : TG} {tt : TT} {tv : TE} (hc : X.calm = true) (hN : X.N.Nodup) (hi : PI X tg iter wi) (ok : BlkOk X.N X.env.scope scope own)
    (hg : ∀ (s : Shared) (H : Hp) (C : Addr) (cl : List (Str × Addr)) (fp : List Addr), PG (X.blk s H scope (compEnvC scope cl C X.env) fp) tg g) (ht : ∀ (s : Shared) (H : Hp) (C : Addr) (cl : List (Str × Addr)) (fp : List Addr), PTs (X.blk s H scope (compEnvC scope cl C X.env) fp) ifs tt)
    (he : ∀ (s : Shared) (H : Hp) (C : Addr) (cl : List (Str × Addr)) (fp : List Addr), PE (X.blk s H scope (compEnvC scope cl C X.env) fp) vx tv) (hs : ∀ x, foldedSetIterable iter X.env x = pure x := by intro _; rfl) :
    PE X (.SetComp vx [⟨tg, iter, ifs, 0⟩] scope pos) (tScT X.w wi g tt tv (own.map (·.2))) := by
  refine ⟨fun pins s σ H Q I h => ?_⟩
  rw [eval_SetComp]
  have free : ∀ y ∈ scope.names, y.2 = .free → ∃ c, X.env.cells.lookup y.1 = some c := fun y hy e => by
    rcases ok.free y hy e with k | k
    · exact I.ok.has _ (.inl k)
    · exact I.ok.has _ (.inr k)
  refine wpAny_comprehension_free rfl hs (closure_ok free) ok.kind (fun y hy e => by rw [ok.uniq y hy, e]) (thn (hi.run pins s σ H _ I h) fun xv s1 hx => thn hx fun itv s2 h2 => ?_)
  obtain ⟨it, fp, tn, J, H2, rfl, I2, T, st2, f2, q⟩ := h2
  -- the dict that is made, at D
  obtain ⟨D, hD⟩ : ∃ D : Addr, D = s2.heap.objs.size := ⟨_, rfl⟩
  have D0 : H2 D = none := I2.hok.fresh (Nat.le_of_eq hD.symm)
  obtain ⟨W, ⟨m0, w0⟩, turn⟩ := q D D0
  refine newSet_ok (newEnv_comp ?_)
  rw [← hD]
  obtain ⟨s3, e3⟩ : ∃ s3 : Shared, s3 = { s2 with heap := s2.heap.push { cls := .type "set", dict := none, data := .set #[] 0 (.fresh 0 0 (!X.w.params.followText "set-order")) } } := ⟨_, rfl⟩
  have p3 : ∀ b o, s2.heap.get? b = some o → s3.heap.get? b = some o := fun b o e => by rw [e3]; exact Heap.get?_push_of_some _ e
  have I3 : Inv X pins σ (upd H2 D (TxO X.w D [])) s3 := by
    rw [e3]
    exact I2.laid (t' := s2.toks) (fun b o e => Heap.get?_push_of_some _ e) (Nat.le_of_eq hD.symm) (by rw [hD]; exact txO_ok (txNew X.w))
  have f3 : ∀ b ∈ fp, FpOk X pins (upd H2 D (TxO X.w D [])) b ∧ b < s3.heap.objs.size := fun b hb => by
    obtain ⟨o, e, _⟩ := T.obj _ _ st2 b hb
    exact ⟨⟨by rw [upd_ne (by rw [hD]; exact Nat.ne_of_lt (Heap.lt_size e))]; exact (f2 b hb).1, (f2 b hb).2⟩, Heap.lt_size (p3 b o e)⟩
  have I4 := block_start I3 ok hN f3
  have pg := hg s3 (upd H2 D (TxO X.w D [])) s3.heap.objs.size (cellsFrom (s3.heap.objs.size + 1) scope.names (cloFrom X.env.cells scope.names [])) fp
  have pt := ht s3 (upd H2 D (TxO X.w D [])) s3.heap.objs.size (cellsFrom (s3.heap.objs.size + 1) scope.names (cloFrom X.env.cells scope.names [])) fp
  have pe := he s3 (upd H2 D (TxO X.w D [])) s3.heap.objs.size (cellsFrom (s3.heap.objs.size + 1) scope.names (cloFrom X.env.cells scope.names [])) fp
  rw [← e3]
  show codeAny _ _ (.compStart (.SetComp vx [⟨tg, iter, ifs, 0⟩] scope pos) 0 (.ref it) (.ref D) (compEnvC scope (cellsFrom (s3.heap.objs.size + 1) scope.names (cloFrom X.env.cells scope.names [])) s3.heap.objs.size X.env))
    (compPost (model X.prog X.w) X.A X.xe none (EP X pins σ Q) (.ref D) s3.heap.objs.size) { s3 with heap := pushCells (s3.heap.push { cls := .type "dict", data := .dict #[] }) scope.names }
  have nf : ∀ b ∈ fp, (upd H2 D (TxO X.w D [])) b = none := fun b hb => (f3 b hb).1.1
  have t4 : tn 0 (pushCells (s3.heap.push { cls := .type "dict", data := .dict #[] }) scope.names) := T.keep _ _ _ st2 fun b _ o e => pushCells_keeps _ _ _ _ (Heap.get?_push_of_some _ (p3 b o e))
  generalize hce : compEnvC scope (cellsFrom (s3.heap.objs.size + 1) scope.names (cloFrom X.env.cells scope.names [])) s3.heap.objs.size X.env = ce at I4 pg pt pe ⊢
  have cL : ce.locals = s3.heap.objs.size := by rw [← hce]; rfl
  generalize upd H2 D (TxO X.w D []) = H3 at I3 f3 I4 pg pt pe nf w0
  generalize hs4 : ({ s3 with heap := pushCells (s3.heap.push { cls := .type "dict", data := .dict #[] }) scope.names } : Shared) = s4 at I4 ⊢
  have t4' : tn 0 s4.heap := by rw [← hs4]; exact t4
  -- the iterator's objects stand outside of the block
  have outer : ∀ {σ' : L2.St} {H' : Hp} {s' : Shared}, Inv (X.blk s3 H3 scope ce fp) [] σ' H' s' → (∀ b ∈ fp, H' b = none) → ∀ b ∈ fp, FpOk (X.blk s3 H3 scope ce fp) [] H' b := fun {σ' H' s'} J n b hb =>
    ⟨n b hb, (J.ok.exf b hb).1, J.ok.exfs b hb, .inl hb, fun x c e => (J.ok.exf b hb).2 x c e, fun p hp => absurd (show p ∈ ([] : List (Addr × Obj)) ++ [] from hp) (by simp)⟩
  have loop : codeAny (model X.prog X.w) X.A (.compLoop (.SetComp vx [⟨tg, iter, ifs, 0⟩] scope pos) 0 (.ref it) (.ref D) ce) (compPost (model X.prog X.w) X.A X.xe none (EP X pins σ Q) (.ref D) s3.heap.objs.size) s4 := by
    refine compLoopS_any (fun n s' => ∃ i H', Inv (X.blk s3 H3 scope ce fp) [] (wipe σ (own.map (·.2))) H' s' ∧ tn i s'.heap ∧ (∀ b ∈ fp, H' b = none) ∧ W i n H') ?_ m0 ⟨0, H3, I4, t4', nf, w0⟩
    rintro n s5 ⟨i, H5, I5, t5, n5, w5⟩
    rcases turn i n H5 w5 with ⟨stop, fin⟩ | ⟨go, Nx, hNx, step⟩
    · -- the walk is at its end: the def goes on
      refine thnF (T.done (X.blk s3 H3 scope ce fp) rfl rfl rfl hc i [] s5 _ H5 (fun _ _ => False) I5 (outer I5 n5) t5 stop) fun r s6 ⟨hr, I6⟩ => ?_
      subst hr
      have I7 : Inv X pins σ H5 s6 := I3.call' (ch := fp) I6.os I6.base I6.hok I6.bare fun b hb => ⟨(f3 b hb).1.2.2.2.1, (f3 b hb).1.2.1, (f3 b hb).1.2.2.2.2.1, (f3 b hb).1.2.2.2.2.2⟩
      have nC : H5 s3.heap.objs.size = none := by rw [← cL]; exact I6.free
      obtain ⟨m, hn, _⟩ := I6.loc
      have hn' : s6.heap.Ns s3.heap.objs.size m := by rw [← cL]; exact hn
      obtain ⟨g0, g1, g2, g3, g4, g5⟩ := I3.fpOk (Nat.le_refl _) nC
      exact ⟨m, hn', fun h'' sb => ⟨.ref D, H5, I7.turned (t' := s6.toks) (fun b o hb e => (sb.2 b hb).trans e) g0 g1 g3 g4 g5, rfl, fin⟩⟩
    · -- one more turn
      refine thnF (T.item (X.blk s3 H3 scope ce fp) rfl rfl rfl hc i [] s5 _ H5 (fun _ _ => False) I5 (outer I5 n5) t5 go) fun r s6 ⟨u, hr, h6⟩ => ?_
      subst hr
      refine thnF h6 fun _ s7 ⟨x, H7, I7, r7, y7, t7, n7⟩ => ?_
      have I7' := I7.pinned (outer I7 n7) (T.obj _ _ t7)
      refine thnF (pg.run _ s7 _ H7 x u _ I7' r7 (step x H7 y7)) fun _ s8 ⟨σ8, H8, I8, w8, q8⟩ => ?_
      refine thnF (pt.run _ s8 σ8 H8 _ I8 q8) fun b s9 ⟨H9, I9, q9⟩ => ?_
      have again : ∀ {s' : Shared} {H' : Hp}, Inv (X.blk s3 H3 scope ce fp) ([] ++ pinsAt fp s7.heap) σ8 H' s' → Nx H' → ∃ m, m < n ∧ ∃ i H', Inv (X.blk s3 H3 scope ce fp) [] (wipe σ (own.map (·.2))) H' s' ∧ tn i s'.heap ∧ (∀ b ∈ fp, H' b = none) ∧ W i m H' := by
        intro s' H' J nx
        obtain ⟨m', hm, w'⟩ := hNx H' nx
        have stay : ∀ b ∈ fp, ∀ o, s7.heap.get? b = some o → s'.heap.get? b = some o ∧ H' b = none := fun b hb o e => by
          have z := J.pin (b, o) (List.mem_append_right _ (List.mem_append_right _ (mem_pinsAt hb e)))
          exact ⟨z.1, z.2.1⟩
        refine ⟨m', hm, i + 1, H', (J.unpinned (pins := [])).weak (by rw [← w8, wipe_length]) (fun j v e => ?_), T.keep _ _ _ t7 fun b hb o e => (stay b hb o e).1, fun b hb => ?_, w'⟩
        · rw [← w8] at e; exact (wipe_some e).1
        · obtain ⟨o, e, _⟩ := T.obj _ _ t7 b hb
          exact (stay b hb o e).2
      cases b with
      | false =>
        simp only [Bool.false_eq_true, if_false] at q9 ⊢
        exact again I9 q9
      | true =>
        simp only [if_true] at q9 ⊢
        refine thnF (pe.run _ s9 σ8 H9 _ I9 q9) fun vv s11 ⟨yv, H11, I11, r11, ms, z, ez, hD11, hz11, nx⟩ => ?_
        subst ez
        obtain ⟨tk, rfl⟩ := r11
        exact addT_ok (X := X.blk s3 H3 scope ce fp) I11 hD11 hz11 fun s12 I12 => again I12 nx
  exact codeAny_compStart_set loop (T.self X.A 0 _ _ _ t4' loop)

def tv : Value → Str
  | .str x _ => x
  | _ => Str.empty
theorem vals_tv : ∀ {us : List Value}, (∀ u ∈ us, ∃ x k, u = Value.str x k) → Vals ((us.map tv).map V.str) us
  | [], _ => .nil
  | u :: us, h => by
    obtain ⟨x, k, rfl⟩ := h u (List.mem_cons.mpr (.inl rfl))
    exact .cons ⟨k, rfl⟩ (vals_tv fun v hv => h v (List.mem_cons.mpr (.inr hv)))
/-- sorted of a set of texts -/
def rSortedTx (w : World) : List V → Hp → VK → Prop := fun xs H Q => ∃ (a : Addr) (ms : List Str), xs = [.ref a] ∧ H a = some (TxO w a ms) ∧ ms.length < 64 ∧ ∀ (ys : List Str) (p : Addr), ys.Perm ms → sortedS ys = true → H p = none → Q (.ref p) (upd H p (.lst (ys.map V.str)))
theorem cr_sortedTx (hc : X.calm = true) : CallR X (.builtin "sorted") (rSortedTx X.w) := by
  intro pins s σ H xs us Q I r h
  obtain ⟨a, ms, rfl, ha, h64, q⟩ := h
  obtain rfl := Vals.ref1 r
  obtain ⟨ob, es, n, tb, h1, h2, h3, ok, hb, hf, hr, hl⟩ := (I.hok a _ ha).1
  refine PySem.Calls.call_function_entry kind_sorted plain_sorted entry_sorted (args_sorted1 _) ?_
  unfold Builtin.«sorted»
  refine wpAny_bind (m := checkCount "sorted" 1 1 _) (wpAny_pure ?_)
  refine wpAny_bind (collect_set (A := X.A.in1) (I.ok.hd hc) ⟨ob, h1, h2.1, h3⟩ hf hb hr hl fun s1 vs k1 hz g1 o1 pm => ?_)
  have I1 : Inv X pins σ H s1 := I.call' (ch := []) o1 (Un.kept k1) (I.hok.kept k1) (by rw [g1]; exact I.bare) (fun _ z => nomatch z)
  have hstr : ∀ u ∈ vs, ∃ x k, u = Value.str x k := fun u hu => by
    obtain ⟨e, he, rfl⟩ := List.mem_map.mp (pm.mem_iff.mp hu)
    obtain ⟨x, k, z, _⟩ := ok.good e he
    exact ⟨x, k, z⟩
  have hS : StrsAre vs (vs.map tv) := strsAre_of (vals_tv hstr)
  have pv : (vs.map tv).Perm ms := by
    refine (pm.map tv).trans ?_
    rw [List.map_map]
    refine List.Perm.trans (List.Perm.of_eq (List.map_congr_left fun e _ => ?_)) ok.pm
    unfold tx tv
    rfl
  have hvl : vs.length = ms.length := by
    have := pv.length_eq
    rwa [List.length_map] at this
  refine wpAny_bind (wpAny_newList ?_ (by rw [hvl, sizeLine_eq]; omega))
  have hL : (s1.heap.push (seqObj "list" vs.toArray 0)).get? s1.heap.objs.size = some (seqObj "list" vs.toArray 0) := Heap.get?_push_size _ rfl
  show wpAny _ _ _ _ _ { s1 with heap := s1.heap.push (seqObj "list" vs.toArray 0) }
  refine wpAny_bind (wpAny_holding (wpAny_call_entry PyProof.Rows.slot_list_sort ⟨_, hL, rfl⟩ PyProof.Rows.entry_list_sort (list_sort_treeK strKind_oneLt (s := { s1 with heap := s1.heap.push (seqObj "list" vs.toArray 0) }) hL hS.keysOf
    (fun v₁ v₂ rest e => keyKind_strs (by rw [← e]; exact hS)) (by rw [hvl]; exact h64) fun st' hp hs => ⟨_, rfl, ?_⟩) (PyProof.Rows.args_list_sort _)))
  obtain ⟨ys, z1, z2, z3⟩ := sorted_out_str hS hp hs
  obtain ⟨e', he'⟩ := PyProof.Rows.sortedHeap_at (vs := vs) (out := (arrOf st').map (·.2)) hL
  have py : ys.Perm ms := z2.trans pv
  have hlen : (ys.map V.str).length ≤ sizeLine := by
    rw [List.length_map, py.length_eq, sizeLine_eq]
    omega
  refine wpAny_pure ⟨_, rfl, .ref s1.heap.objs.size, upd H s1.heap.objs.size (.lst (ys.map V.str)), I1.laid (t' := s1.toks) (fun b u e => ?_) (Nat.le_refl _) (show ObjOk X.prog X.w _ _ _ (.lst (ys.map V.str)) from ⟨hlen, ((arrOf st').map (·.2)).toList, e', vals_of_strs z1, by rw [Array.toArray_toList]; exact he'⟩), rfl, q ys _ py z3 (I1.hok.fresh (Nat.le_refl _))⟩
  have hlt : b < s1.heap.objs.size := Heap.lt_size e
  rw [PyProof.Rows.sortedHeap_old (Nat.ne_of_lt hlt) (by rw [size_push']; exact Nat.lt_succ_of_lt hlt)]
  exact Heap.get?_push_of_some _ e
end
end Bd

set_option Elab.async false
set_option linter.all false
set_option maxRecDepth 100000
set_option maxHeartbeats 4000000
/-! Sorted texts; set comprehensions over a tuple; the negative part of rows. -/
namespace Bd
open PySem PySem.Spec PyProof.Rows L2
theorem ltCps_iff : ∀ {a b : List Nat}, ltCps a b = true ↔ a < b
  | [], [] => by simp [ltCps]
  | [], _ :: _ => by simp [ltCps]
  | _ :: _, [] => by simp [ltCps]
  | x :: a, y :: b => by
    rw [List.cons_lt_cons_iff, ← ltCps_iff (a := a) (b := b)]
    simp [ltCps]
theorem rise_le : ∀ {r : List Str} {p : Str}, risingS p r = true → (p :: r).Pairwise fun a b => a.cps.toList ≤ b.cps.toList
  | [], p, _ => by simp
  | x :: r, p, h => by
    have h2 : (!ltCps x.cps.toList p.cps.toList && risingS x r) = true := h
    rw [Bool.and_eq_true] at h2
    have ih := rise_le h2.2
    have le : p.cps.toList ≤ x.cps.toList := by
      have h3 : ltCps x.cps.toList p.cps.toList = false := by simpa using h2.1
      refine List.not_lt.mp fun z => ?_
      rw [ltCps_iff.mpr z] at h3
      cases h3
    refine List.pairwise_cons.mpr ⟨fun y hy => ?_, ih⟩
    rcases List.mem_cons.mp hy with e | e
    · rw [e]; exact le
    · exact List.le_trans le ((List.pairwise_cons.mp ih).1 y e)
theorem sorted_le {xs : List Str} (h : sortedS xs = true) : xs.Pairwise fun a b => a.cps.toList ≤ b.cps.toList := by
  cases xs with
  | nil => exact .nil
  | cons x r => exact rise_le h
theorem le_uniq : ∀ {xs ys : List Str}, xs.Pairwise (fun a b => a.cps.toList ≤ b.cps.toList) → ys.Pairwise (fun a b => a.cps.toList ≤ b.cps.toList) → xs.Perm ys → xs = ys
  | [], ys, _, _, p => (List.nil_perm.mp p).symm
  | x :: xs, [], _, _, p => absurd p.length_eq (by simp)
  | x :: xs, y :: ys, h, k, p => by
    have e : x = y := by
      refine str_ext (List.le_antisymm ?_ ?_)
      · rcases List.mem_cons.mp (p.mem_iff.mpr (List.mem_cons.mpr (.inl rfl))) with e | e
        · rw [e]; exact List.le_refl _
        · exact (List.pairwise_cons.mp h).1 y e
      · rcases List.mem_cons.mp (p.mem_iff.mp (List.mem_cons.mpr (.inl rfl))) with e | e
        · rw [e]; exact List.le_refl _
        · exact (List.pairwise_cons.mp k).1 x e
    subst e
    rw [le_uniq (List.pairwise_cons.mp h).2 (List.pairwise_cons.mp k).2 (List.perm_cons x |>.mp p)]
theorem sorted_uniq {xs ys : List Str} (h : sortedS xs = true) (k : sortedS ys = true) (p : xs.Perm ys) : xs = ys := le_uniq (sorted_le h) (sorted_le k) p
/-- lists of texts, as data -/
def encT (x : Str) : PyData := .str x
theorem vals_dp {K : PySem.W.Frag} {H : Hp} : ∀ xs : List Str, DpAll K H (xs.map V.str) (xs.map encT)
  | [] => .nil
  | x :: xs => .cons (.str x) (vals_dp xs)
theorem encT_any (ms : List Str) (x : Str) : ((ms.map encT).any fun z => PyData.eqv z (encT x)) = decide (x ∈ ms) := by
  induction ms with
  | nil => rfl
  | cons y ms ih =>
    rw [List.map_cons, List.any_cons, ih]
    have e : PyData.eqv (encT y) (encT x) = decide (y = x) := by
      simp only [encT, PyData.eqv]
      rw [Bool.eq_iff_iff]; simp
    rw [e]
    by_cases h : y = x
    · simp [h]
    · simp [h, List.mem_cons, Ne.symm h]
theorem encT_all : ∀ ms : List Str, PyData.eqvAll (ms.map encT) (ms.map encT) = true
  | [] => by simp [PyData.eqvAll]
  | x :: ms => by simp [PyData.eqvAll, encT_all ms, encT, PyData.eqv]
theorem encT_depth : ∀ ms : List Str, PyData.depthAll (ms.map encT) ≤ 1
  | [] => by simp [PyData.depthAll]
  | x :: ms => by
    have := encT_depth ms
    simp only [List.map_cons, PyData.depthAll, encT, PyData.depth]
    omega
theorem encT_lay : ∀ ms : List Str, (∀ x ∈ ms, PyData.strOk x = true) → PyData.canLayAll0 (ms.map encT) = true
  | [], _ => rfl
  | x :: ms, h => by
    have h1 := h x (List.mem_cons.mpr (.inl rfl))
    have h2 := encT_lay ms fun y hy => h y (List.mem_cons.mpr (.inr hy))
    simp [PyData.canLayAll0, encT, PyData.canLay0, h1, h2]
theorem encTs_shaped {ms : List Str} (h : ∀ x ∈ ms, PyData.strOk x = true) : SeqAt.shaped (.list (ms.map encT)) = true := by
  have := encT_depth ms
  unfold SeqAt.shaped
  simp only [PyData.canLay0, encT_lay ms h, PyData.depth, Bool.true_and]
  exact decide_eq_true (by omega)
/-- the rows with a negative quantity, turned -/
def negF (D : List (Ast × Int)) : List (Ast × Int) := (D.filter fun e => decide (e.2 < 0)).map fun e => (e.1, -e.2)
theorem negF_take {D : List (Ast × Int)} {i : Nat} {e : Ast × Int} (h : D[i]? = some e) : negF (D.take (i + 1)) = negF (D.take i) ++ (if e.2 < 0 then [(e.1, -e.2)] else []) := by
  unfold negF
  rw [List.take_add_one, h, List.filter_append, List.map_append]
  by_cases q : e.2 < 0
  · simp [q]
  · simp [q]
theorem negF_len (D : List (Ast × Int)) : (negF D).length ≤ D.length := by
  unfold negF
  rw [List.length_map]
  exact List.length_filter_le _ _
theorem pos_neg (D : List (Ast × Int)) (p : Ast) : tot (posF D) p - tot (negF D) p = tot D p := by
  induction D with
  | nil => simp [posF, negF, tot]
  | cons e D ih =>
    unfold posF negF at ih ⊢
    rw [List.filter_cons, List.filter_cons]
    by_cases h1 : 0 < e.2
    · have h2 : ¬ e.2 < 0 := by omega
      simp only [h1, h2, decide_true, decide_false, if_true, Bool.false_eq_true, if_false, tot]
      omega
    · by_cases h2 : e.2 < 0
      · simp only [h1, h2, decide_true, decide_false, if_true, Bool.false_eq_true, if_false, tot, List.map_cons]
        split <;> omega
      · have h0 : e.2 = 0 := by omega
        simp only [h1, h2, decide_false, Bool.false_eq_true, if_false, tot]
        split <;> omega
theorem negF_nrm {D : List (Ast × Int)} (h : Nrm D) : Nrm (negF D) := by
  unfold negF
  refine ⟨?_, ?_, fun e he => ?_⟩
  · rw [List.pairwise_map]
    exact List.Pairwise.filter _ h.srt
  · rw [List.map_map]
    exact ((List.filter_sublist (l := D)).map (·.1)).nodup h.nd
  · obtain ⟨f, hf, rfl⟩ := List.mem_map.mp he
    have := h.nz f (List.mem_filter.mp hf).1
    show -f.2 ≠ 0
    omega
theorem mem_of_tot {R N : List (Ast × Int)} (hn : Nrm N) (ht : ∀ p, tot N p = tot R p) {e : Ast × Int} (he : e ∈ N) : e.1 ∈ R.map (·.1) := by
  rcases Classical.em (e.1 ∈ R.map (·.1)) with z | z
  · exact z
  · have h1 := tot_at hn.nd he
    rw [ht, tot_none z] at h1
    exact absurd h1.symm (hn.nz e he)
end Bd
namespace Rb
open PySem PySem.Spec PyProof.Rows L2 Bd
/-- a set comprehension of texts over a tuple -/
theorem scJT {w : World} {K : PySem.W.Frag} {σ : L2.St} {Q : VK} {a : Addr} {xs : List V} {g : TG} {tt : TT} {te : TE} {vs : List Nat} {H1 : Hp} (Pv : Addr → Nat → Hp → Prop) (h : SqT K H1 a xs) (h0 : ∀ D, H1 D = none → Pv D 0 (upd H1 D (TxO w D [])))
    (hl : ∀ D i H, i ≤ xs.length → Pv D i H → SqT K H a xs)
    (hs : ∀ D i x H, H1 D = none → xs[i]? = some x → Pv D i H → g x (wipe σ vs) H fun σ2 H2 => wipe σ2 vs = wipe σ vs ∧ tt σ2 H2 fun t H3 =>
      if t = true then te σ2 H3 fun y H4 => ∃ ms z, y = .str z ∧ H4 D = some (TxO w D ms) ∧ ms.length + 1 < scanBound ∧ Pv D (i + 1) (upd H4 D (TxO w D (addT ms z))) else Pv D (i + 1) H3)
    (hd : ∀ D H, H1 D = none → Pv D xs.length H → Q (.ref D) H) : ∃ p, V.ref a = .ref p ∧ (∃ ys, SqT K H1 p ys) ∧ ScJ w g tt te vs σ Q (Itt K p) H1 := by
  refine ⟨a, rfl, ⟨_, h⟩, fun D hD => ⟨fun i m H => m = xs.length - i ∧ i ≤ xs.length ∧ Pv D i H, ⟨xs.length, by simp, Nat.zero_le _, h0 D hD⟩, ?_⟩⟩
  rintro i m H ⟨rfl, hi, p⟩
  have q := hl D i H hi p
  by_cases hlt : i < xs.length
  · refine .inr ⟨⟨xs, xs[i], q, by simp [hlt]⟩, Pv D (i + 1), fun H' p' => ⟨xs.length - (i + 1), by omega, rfl, hlt, p'⟩, fun x H' y => ?_⟩
    obtain ⟨e, y⟩ := y
    subst e
    exact hs D i x _ hD (y xs q) p
  · have e : i = xs.length := by omega
    subst e
    exact .inl ⟨⟨xs, q, Nat.le_refl _⟩, hd D H hD p⟩
theorem sc {w : World} {wi : TI} {g : TG} {tt : TT} {te : TE} {vs : List Nat} {σ : L2.St} {H : Hp} {Q : VK} (k : wi σ H fun J H1 => ScJ w g tt te vs σ Q J H1) : tScT w wi g tt te vs σ H Q := k
end Rb

set_option Elab.async false
set_option linter.all false
set_option maxRecDepth 100000
set_option maxHeartbeats 4000000
/-! Keyword-only parameters: how the written values stand in the parameters' order; the address of a default that is an object. -/
namespace Kw
open PySem PySem.Spec PyProof.Rows L2
def gI {α : Type} (J : List Nat) (us mv ws : List α) : List α := us ++ J.flatMap fun n => ((ws ++ mv)[n]?).toList
theorem gI_vals (J : List Nat) {vs mz zs : List V} {us mv ws : List Value} (r1 : Vals vs us) (r2 : Vals mz mv) (r3 : Vals zs ws) : Vals (gI J vs mz zs) (gI J us mv ws) := by
  refine r1.append ?_
  have r := r3.append r2
  induction J with
  | nil => exact .nil
  | cons n J ih =>
    rw [List.flatMap_cons, List.flatMap_cons]
    refine Vals.append ?_ ih
    cases e : (zs ++ mz)[n]? with
    | none =>
      have e2 : (ws ++ mv)[n]? = none := by
        rw [List.getElem?_eq_none_iff] at e ⊢
        rw [← r.length]; exact e
      rw [e2]; exact .nil
    | some x =>
      obtain ⟨u, e2, ru⟩ := r.get e
      rw [e2]; exact .cons ru .nil
theorem lk_some {α : Type} {n : Str} {l : List (Str × α)} (h : n ∈ l.map (·.1)) : ∃ v, l.lookup n = some v := by
  induction l with
  | nil => cases h
  | cons p l ih =>
    by_cases e : (n == p.1) = true
    · exact ⟨p.2, by simp [List.lookup, e]⟩
    · have e1 : (n == p.1) = false := by simpa using e
      rcases List.mem_cons.mp h with q | q
      · exact absurd (by rw [q]; exact beq_self_eq_true _) e
      · obtain ⟨v, hv⟩ := ih q
        exact ⟨v, by simp [List.lookup, e1, hv]⟩
theorem lk_none {α : Type} {n : Str} {l : List (Str × α)} (h : n ∉ l.map (·.1)) : l.lookup n = none := by
  induction l with
  | nil => rfl
  | cons p l ih =>
    rw [List.map_cons, List.mem_cons, not_or] at h
    have e1 : (n == p.1) = false := by simpa using h.1
    simp [List.lookup, e1, ih h.2]
theorem loopA {M : Model} {h : Heap} {E : Type} {e0 : E} {f : Str × Value → List (Str × Value) × E → Sem (ForInStep (List (Str × Value) × E))} (Ok : Str → Prop)
    (hf : ∀ k v slots, Ok k → slots.lookup k = none → f (k, v) (slots, e0) = pure (.yield (slots ++ [(k, v)], e0))) :
    ∀ (kws slots : List (Str × Value)), (∀ k ∈ kws.map (·.1), Ok k) → ((slots ++ kws).map (·.1)).Nodup → PySem.W.Looks M h (forIn kws (slots, e0) f) (slots ++ kws, e0)
  | [], slots, _, _ => by rw [List.forIn_nil, List.append_nil]; exact .now
  | (k, v) :: kws, slots, ho, hn => by
    rw [List.forIn_cons]
    have hk : slots.lookup k = none := lk_none fun q => by
      rw [List.map_append, List.nodup_append] at hn
      exact hn.2.2 k q k (by simp) rfl
    rw [hf k v slots (ho k (by simp)) hk]
    refine PySem.W.Looks.andThen .now ?_
    have := loopA (M := M) (h := h) Ok hf kws (slots ++ [(k, v)]) (fun z hz => ho z (List.mem_cons_of_mem _ hz)) (by rw [List.append_assoc]; exact hn)
    rw [List.append_assoc] at this
    exact this
/-- what the loop over the keyword-only names leaves -/
def fill (dv : Str → Value) : List Str → List (Str × Value) → List (Str × Value)
  | [], s => s
  | n :: ns, s => fill dv ns (if (s.lookup n).isNone then s ++ [(n, dv n)] else s)
theorem loopB {M : Model} {h : Heap} {E : Type} {e0 : E} {dv : Str → Value} {f : Str → List (Str × Value) × E → Sem (ForInStep (List (Str × Value) × E))} (Ok : Str → Prop)
    (h1 : ∀ n slots, (slots.lookup n).isNone = false → f n (slots, e0) = pure (.yield (slots, e0)))
    (h2 : ∀ n slots, Ok n → (slots.lookup n).isNone = true → PySem.W.Looks M h (f n (slots, e0)) (.yield (slots ++ [(n, dv n)], e0))) :
    ∀ (names : List Str) (slots : List (Str × Value)), (∀ n ∈ names, (slots.lookup n).isNone = true → Ok n) → PySem.W.Looks M h (forIn names (slots, e0) f) (fill dv names slots, e0)
  | [], slots, _ => by rw [List.forIn_nil]; exact .now
  | n :: ns, slots, ho => by
    rw [List.forIn_cons]
    by_cases e : (slots.lookup n).isNone = true
    · refine PySem.W.Looks.andThen (h2 n slots (ho n (by simp) e) e) ?_
      have := loopB (M := M) (h := h) Ok h1 h2 ns (slots ++ [(n, dv n)]) (fun z hz q => ho z (List.mem_cons_of_mem _ hz) (by
        cases e2 : slots.lookup z with
        | none => rfl
        | some u =>
          rw [List.lookup_append, e2] at q
          cases q))
      simp only [fill, e, if_true]
      exact this
    · have e' : (slots.lookup n).isNone = false := by simpa using e
      rw [h1 n slots e']
      refine PySem.W.Looks.andThen .now ?_
      have := loopB (M := M) (h := h) Ok h1 h2 ns slots (fun z hz q => ho z (List.mem_cons_of_mem _ hz) q)
      simp only [fill, e', Bool.false_eq_true, if_false]
      exact this
theorem bind_kw {K : PySem.W.Frag} {M : Model} {h : Heap} (X : K.In h) (D : Addr) (x qual : Str) (params : Arguments) (body : List Stmt) (scope : Scope) (doc pm : Value) (an : Option Addr) (cdv ct : Value) (us : List Value) (kws : List (Str × Value)) (pos names : List Str) (dv : Str → Value)
    (e1 : params.posonlyargs = []) (e2 : params.args.map (fun x => x.arg) = pos) (e3 : params.kwonlyargs.map (fun x => x.arg) = names) (e4 : params.vararg = none) (e5 : params.kwarg = none)
    (lu : us.length = pos.length) (hk : ∀ k ∈ kws.map (·.1), k ∈ names) (hn : ((pos.zip us ++ kws).map (·.1)).Nodup) (hd : ∀ n ∈ names, ((pos.zip us ++ kws).lookup n).isNone = true → PySem.W.nsIn K D n = some (some (dv n))) :
    PySem.W.Looks M h (bindArgs (PySem.W.fnOf x qual params body scope .none (.ref D) doc pm an cdv ct) ⟨us, kws⟩) ((pos ++ names).filterMap fun n => ((fill dv names (pos.zip us ++ kws)).lookup n).map fun x => (n, x)) := by
  unfold bindArgs PySem.W.fnOf
  simp only [e1, e2, e3, e4, e5, List.map_nil, List.nil_append]
  refine PySem.W.Looks.andThen (a := (pos.zip us ++ kws, [])) (loopA (fun k => k ∈ names) (fun k v slots hk hl => ?_) kws (pos.zip us) hk hn) ?_
  · have h1 : (pos.contains k || names.contains k) = true := by simp [hk]
    simp only [h1, hl, Option.isSome_none, if_true, Bool.false_eq_true, if_false]
  · refine PySem.W.Looks.andThen (a := none) (show PySem.W.Looks M h (seqItems? .none) none from .of_pure rfl) ?_
    have h3 : (decide (us.length > pos.length) && (none : Option Arg).isNone) = false := by simp [lu]
    simp only [lu, Nat.lt_irrefl, gt_iff_lt, decide_false, Bool.false_and, Bool.false_eq_true, if_false, Option.getD_none, List.length_nil, Nat.zero_sub, List.drop_nil, Nat.sub_zero, List.take_length, List.drop_length, List.zip_nil_left]
    have h4 : List.filter (fun n => (List.lookup n (pos.zip us ++ kws)).isNone) pos = [] := by
      rw [List.filter_eq_nil_iff]
      intro n hn2 q
      obtain ⟨v, hv⟩ := lk_some (l := pos.zip us ++ kws) (n := n) (by
        rw [List.map_append, List.map_fst_zip (by omega)]
        exact List.mem_append_left _ hn2)
      rw [hv] at q
      cases q
    simp only [h4, List.isEmpty_nil, Bool.not_true, Bool.false_eq_true, if_false, List.forIn_nil]
    refine PySem.W.Looks.andThen .now ?_
    refine PySem.W.Looks.andThen (a := (fill dv names (pos.zip us ++ kws), [])) (loopB (dv := dv) (fun n => PySem.W.nsIn K D n = some (some (dv n))) (fun n slots q => ?_) (fun n slots hq q => ?_) names (pos.zip us ++ kws) hd) ?_
    · simp only [q, Bool.false_eq_true, if_false]
    · simp only [q, if_true]
      exact PySem.W.Looks.andThen (PySem.W.looks_nsIn X hq) .now
    · simp only [List.isEmpty_nil, Bool.not_true, Bool.false_eq_true, if_false]
      exact .now

theorem lk_mem {α : Type} {n : Str} {v : α} : ∀ {l : List (Str × α)}, l.lookup n = some v → (n, v) ∈ l
  | [], h => by cases h
  | p :: l, h => by
    by_cases e : (n == p.1) = true
    · simp [List.lookup, e] at h
      have e2 : n = p.1 := eq_of_beq e
      rw [e2, ← h]
      exact List.mem_cons_self
    · have e1 : (n == p.1) = false := by simpa using e
      simp [List.lookup, e1] at h
      exact List.mem_cons_of_mem _ (lk_mem h)
/-- how C(.., k = v, ..) binds, the keyword-only names ks written, the defaults ms -/
theorem kbK {K : PySem.W.Frag} {x qual : Str} {params : Arguments} {body : List Stmt} {scope : Scope} {kws : List (Str × V)} {f : Addr} {fd : FuncData} (F : FunD K x qual params body scope [] kws f fd) (pos names ks : List Str) (ms : List (Str × V)) (J : List Nat) (n : Nat)
    (e1 : params.posonlyargs = []) (e2 : params.args.map (fun x => x.arg) = pos) (e3 : params.kwonlyargs.map (fun x => x.arg) = names) (e4 : params.vararg = none) (e5 : params.kwarg = none)
    (hk : kws ≠ []) (hms : ∀ q ∈ ms, q ∈ kws) (c1 : ∀ k ∈ ks, k ∈ names) (c2 : (pos ++ ks).Nodup) (c3 : ∀ n ∈ names, n ∈ ks ∨ n ∈ ms.map (·.1)) (hn : pos.length = n)
    (hJ : ∀ us mv ws : List Value, us.length = n → mv.length = ms.length → ws.length = ks.length →
      ((pos ++ names).filterMap fun n => ((fill (fun n => (((ms.map (·.1)).zip mv).lookup n).getD .none) names (pos.zip us ++ ks.zip ws)).lookup n).map fun x => (n, x)) = (pos ++ names).zip (gI J us mv ws)) :
    ∃ mv : List Value, KBn K fd (pos ++ names) n ks (fun us ws => gI J us mv ws) (fun vs zs => gI J vs (ms.map (·.2)) zs) := by
  obtain ⟨oc, od, dV, kV, doc, pm, an, cdv, ct, osl, rfl, lk, hcd, hD, hK⟩ := F.ex
  rcases hD with ⟨_, rfl⟩ | ⟨e, _⟩
  · rcases hK with e | ⟨D, rfl, hq⟩
    · exact absurd e hk
    · obtain ⟨mv, hl, rk, hks⟩ := kwd_vals (ms := ms) fun q hm => hq q (hms q hm)
      refine ⟨mv, ⟨fun s us ws X l1 l2 => BindsTo.of_looks fun M => ?_, fun r1 r2 => gI_vals J r1 rk r2⟩⟩
      rw [← hJ us mv ws l1 hl l2]
      refine bind_kw X D x qual params body scope doc pm an cdv ct us (ks.zip ws) pos names _ e1 e2 e3 e4 e5 (l1.trans hn.symm) (fun k h => c1 k ?_) ?_ (fun n hn2 q => ?_)
      · rw [List.map_fst_zip (by omega)] at h; exact h
      · rw [List.map_append, List.map_fst_zip (by omega), List.map_fst_zip (by omega)]; exact c2
      · rcases c3 n hn2 with h | h
        · obtain ⟨v, hv⟩ := lk_some (l := pos.zip us ++ ks.zip ws) (n := n) (by
            rw [List.map_append, List.map_fst_zip (l₁ := ks) (by omega)]
            exact List.mem_append_right _ h)
          rw [hv] at q
          cases q
        · obtain ⟨v, hv⟩ := lk_some (l := (ms.map (·.1)).zip mv) (n := n) (by rw [List.map_fst_zip (by rw [List.length_map]; omega)]; exact h)
          have := hks _ (lk_mem hv)
          rw [hv]
          exact this
  · exact absurd rfl e
/-- where the default of the keyword-only parameter x stands, if it is an object -/
def kdAt (f : Str × Option Str) (x : Str) (K : PySem.W.Frag) : Addr := match K.lookup (He.fAd K f) with
  | some ⟨_, _, .func fd, _⟩ => (match fd.kwdefaults with
    | .ref D => (match PySem.W.nsIn K D x with
      | some (some (.ref a)) => a
      | _ => 0)
    | _ => 0)
  | _ => 0
section
variable {K : PySem.W.Frag} {σ : L2.St} {H : Hp} {Q : VK} {E : XK} {m : Nat} {C : Addr} {sp : Sp} {gV : List V → List V → List V} {tk : TA}
theorem mkK0 (k : tk σ H fun zs H2 => ([] : List V).length = 0 ∧ zs.length = m ∧ ∀ x dx, H2 x = none → H2 dx = none → dx ≠ x → sp (gV [V.ref x] zs) (upd (upd H2 dx (.own x)) x (.ins C dx [])) (fun v H3 => v = .non ∧ Q (.ref x) H3) E) : tMakeK C 0 m sp gV E tNil tk σ H Q := k
end
end Kw

set_option Elab.async false
set_option linter.all false
set_option maxRecDepth 100000
set_option maxHeartbeats 4000000
namespace Bk38
open PySem PySem.Spec PyProof.Rows L2 Kw
def top (i : Nat) : Stmt := PySem.Challenge.pw_keptcoin_k38_weight_and_fees.main.body.getD i (.Pass ⟨0, 0, 0, 0⟩)
abbrev s_Transaction___init : Stmt := inClass (top 15) 0
abbrev ps : List Str := ["self", "number", "spends", "makes", "fee", "looks", "pledge", "mint", "begins", "ends", "signers", "data", "deeds", "draws", "approved"]
def kwP (K : PySem.W.Frag) : List (Str × V) := [("looks", V.ref (Kw.kdAt ("Transaction", some "__init__") "looks" K)), ("pledge", V.ref (Kw.kdAt ("Transaction", some "__init__") "pledge" K)), ("mint", V.ref (Kw.kdAt ("Transaction", some "__init__") "mint" K)), ("begins", V.int 0), ("ends", V.int 1000000000), ("signers", V.ref (Kw.kdAt ("Transaction", some "__init__") "signers" K)), ("data", V.ref (Kw.kdAt ("Transaction", some "__init__") "data" K)), ("deeds", V.ref (Kw.kdAt ("Transaction", some "__init__") "deeds" K)), ("draws", V.ref (Kw.kdAt ("Transaction", some "__init__") "draws" K)), ("approved", V.bl true)]
theorem kb_w {K : PySem.W.Frag} {f : Addr} {fd : FuncData} (F : FunD K "__init__" "Transaction.__init__" (defArgs s_Transaction___init) (defBody s_Transaction___init) (defScope s_Transaction___init) [] (kwP K) f fd) : ∃ mv : List Value, KBn K fd ps 1 ["number", "spends", "looks", "pledge", "makes", "mint", "fee", "begins", "ends", "signers", "data", "deeds", "draws", "approved"] (fun us ws => gI [0, 1, 4, 6, 2, 3, 5, 7, 8, 9, 10, 11, 12, 13] us mv ws) (fun vs zs => gI [0, 1, 4, 6, 2, 3, 5, 7, 8, 9, 10, 11, 12, 13] vs [] zs) :=
  kbK F ["self"] ["number", "spends", "makes", "fee", "looks", "pledge", "mint", "begins", "ends", "signers", "data", "deeds", "draws", "approved"] ["number", "spends", "looks", "pledge", "makes", "mint", "fee", "begins", "ends", "signers", "data", "deeds", "draws", "approved"] [] [0, 1, 4, 6, 2, 3, 5, 7, 8, 9, 10, 11, 12, 13] 1 rfl rfl rfl rfl rfl (by simp [kwP]) (fun q h => absurd h List.not_mem_nil) (by decide +kernel) (by decide +kernel) (by show ∀ n ∈ (["number", "spends", "makes", "fee", "looks", "pledge", "mint", "begins", "ends", "signers", "data", "deeds", "draws", "approved"] : List PySem.Str), n ∈ (["number", "spends", "looks", "pledge", "makes", "mint", "fee", "begins", "ends", "signers", "data", "deeds", "draws", "approved"] : List PySem.Str) ∨ n ∈ ([] : List PySem.Str); decide +kernel) rfl (fun us mv ws h1 h2 h3 => match us, h1, mv, h2, ws, h3 with | [_], _, [], _, [_, _, _, _, _, _, _, _, _, _, _, _, _, _], _ => by kernel_rfl)
theorem kb_s {K : PySem.W.Frag} {f : Addr} {fd : FuncData} (F : FunD K "__init__" "Transaction.__init__" (defArgs s_Transaction___init) (defBody s_Transaction___init) (defScope s_Transaction___init) [] (kwP K) f fd) : ∃ mv : List Value, KBn K fd ps 1 ["number", "spends", "makes", "fee"] (fun us ws => gI [0, 1, 2, 3, 4, 5, 6, 7, 8, 9, 10, 11, 12, 13] us mv ws) (fun vs zs => gI [0, 1, 2, 3, 4, 5, 6, 7, 8, 9, 10, 11, 12, 13] vs [V.ref (Kw.kdAt ("Transaction", some "__init__") "looks" K), V.ref (Kw.kdAt ("Transaction", some "__init__") "pledge" K), V.ref (Kw.kdAt ("Transaction", some "__init__") "mint" K), V.int 0, V.int 1000000000, V.ref (Kw.kdAt ("Transaction", some "__init__") "signers" K), V.ref (Kw.kdAt ("Transaction", some "__init__") "data" K), V.ref (Kw.kdAt ("Transaction", some "__init__") "deeds" K), V.ref (Kw.kdAt ("Transaction", some "__init__") "draws" K), V.bl true] zs) :=
  kbK F ["self"] ["number", "spends", "makes", "fee", "looks", "pledge", "mint", "begins", "ends", "signers", "data", "deeds", "draws", "approved"] ["number", "spends", "makes", "fee"] [("looks", V.ref (Kw.kdAt ("Transaction", some "__init__") "looks" K)), ("pledge", V.ref (Kw.kdAt ("Transaction", some "__init__") "pledge" K)), ("mint", V.ref (Kw.kdAt ("Transaction", some "__init__") "mint" K)), ("begins", V.int 0), ("ends", V.int 1000000000), ("signers", V.ref (Kw.kdAt ("Transaction", some "__init__") "signers" K)), ("data", V.ref (Kw.kdAt ("Transaction", some "__init__") "data" K)), ("deeds", V.ref (Kw.kdAt ("Transaction", some "__init__") "deeds" K)), ("draws", V.ref (Kw.kdAt ("Transaction", some "__init__") "draws" K)), ("approved", V.bl true)] [0, 1, 2, 3, 4, 5, 6, 7, 8, 9, 10, 11, 12, 13] 1 rfl rfl rfl rfl rfl (by simp [kwP]) (fun q h => by
    simp only [List.mem_cons, List.not_mem_nil, or_false] at h
    rcases h with rfl | rfl | rfl | rfl | rfl | rfl | rfl | rfl | rfl | rfl <;> simp [kwP]) (by decide +kernel) (by decide +kernel) (by show ∀ n ∈ (["number", "spends", "makes", "fee", "looks", "pledge", "mint", "begins", "ends", "signers", "data", "deeds", "draws", "approved"] : List PySem.Str), n ∈ (["number", "spends", "makes", "fee"] : List PySem.Str) ∨ n ∈ (["looks", "pledge", "mint", "begins", "ends", "signers", "data", "deeds", "draws", "approved"] : List PySem.Str); decide +kernel) rfl (fun us mv ws h1 h2 h3 => match us, h1, mv, h2, ws, h3 with | [_], _, [_, _, _, _, _, _, _, _, _, _], _, [_, _, _, _], _ => by kernel_rfl)
theorem kb_m {K : PySem.W.Frag} {f : Addr} {fd : FuncData} (F : FunD K "__init__" "Transaction.__init__" (defArgs s_Transaction___init) (defBody s_Transaction___init) (defScope s_Transaction___init) [] (kwP K) f fd) : ∃ mv : List Value, KBn K fd ps 1 ["number", "spends", "makes", "fee", "mint", "approved"] (fun us ws => gI [0, 1, 2, 3, 6, 7, 4, 8, 9, 10, 11, 12, 13, 5] us mv ws) (fun vs zs => gI [0, 1, 2, 3, 6, 7, 4, 8, 9, 10, 11, 12, 13, 5] vs [V.ref (Kw.kdAt ("Transaction", some "__init__") "looks" K), V.ref (Kw.kdAt ("Transaction", some "__init__") "pledge" K), V.int 0, V.int 1000000000, V.ref (Kw.kdAt ("Transaction", some "__init__") "signers" K), V.ref (Kw.kdAt ("Transaction", some "__init__") "data" K), V.ref (Kw.kdAt ("Transaction", some "__init__") "deeds" K), V.ref (Kw.kdAt ("Transaction", some "__init__") "draws" K)] zs) :=
  kbK F ["self"] ["number", "spends", "makes", "fee", "looks", "pledge", "mint", "begins", "ends", "signers", "data", "deeds", "draws", "approved"] ["number", "spends", "makes", "fee", "mint", "approved"] [("looks", V.ref (Kw.kdAt ("Transaction", some "__init__") "looks" K)), ("pledge", V.ref (Kw.kdAt ("Transaction", some "__init__") "pledge" K)), ("begins", V.int 0), ("ends", V.int 1000000000), ("signers", V.ref (Kw.kdAt ("Transaction", some "__init__") "signers" K)), ("data", V.ref (Kw.kdAt ("Transaction", some "__init__") "data" K)), ("deeds", V.ref (Kw.kdAt ("Transaction", some "__init__") "deeds" K)), ("draws", V.ref (Kw.kdAt ("Transaction", some "__init__") "draws" K))] [0, 1, 2, 3, 6, 7, 4, 8, 9, 10, 11, 12, 13, 5] 1 rfl rfl rfl rfl rfl (by simp [kwP]) (fun q h => by
    simp only [List.mem_cons, List.not_mem_nil, or_false] at h
    rcases h with rfl | rfl | rfl | rfl | rfl | rfl | rfl | rfl <;> simp [kwP]) (by decide +kernel) (by decide +kernel) (by show ∀ n ∈ (["number", "spends", "makes", "fee", "looks", "pledge", "mint", "begins", "ends", "signers", "data", "deeds", "draws", "approved"] : List PySem.Str), n ∈ (["number", "spends", "makes", "fee", "mint", "approved"] : List PySem.Str) ∨ n ∈ (["looks", "pledge", "begins", "ends", "signers", "data", "deeds", "draws"] : List PySem.Str); decide +kernel) rfl (fun us mv ws h1 h2 h3 => match us, h1, mv, h2, ws, h3 with | [_], _, [_, _, _, _, _, _, _, _], _, [_, _, _, _, _, _], _ => by kernel_rfl)
end Bk38

set_option Elab.async false
set_option linter.all false
set_option maxRecDepth 100000
set_option maxHeartbeats 4000000
namespace Bk38p
open PySem PySem.Spec PyProof.Rows L2 Kw
def top (i : Nat) : Stmt := PySem.Challenge.pw_keptcoin_k38_weight_and_fees.main.body.getD i (.Pass ⟨0, 0, 0, 0⟩)
abbrev s_Params___init : Stmt := inClass (top 12) 0
abbrev ps : List Str := ["self", "deposit", "fee_base", "fee_weight", "fee_step", "pledge_rate", "coin_base", "epoch_length", "share", "depth", "most_steps"]
def kwP (K : PySem.W.Frag) : List (Str × V) := [("deposit", V.int 20), ("fee_base", V.int 5), ("fee_weight", V.int 1), ("fee_step", V.int 2), ("pledge_rate", V.int 150), ("coin_base", V.int 2), ("epoch_length", V.int 10), ("share", V.int 50), ("depth", V.int 4), ("most_steps", V.int 20000)]
theorem kb_m {K : PySem.W.Frag} {f : Addr} {fd : FuncData} (F : FunD K "__init__" "Params.__init__" (defArgs s_Params___init) (defBody s_Params___init) (defScope s_Params___init) [] (kwP K) f fd) : ∃ mv : List Value, KBn K fd ps 1 ["fee_base", "fee_weight", "fee_step", "coin_base"] (fun us ws => gI [4, 0, 1, 2, 5, 3, 6, 7, 8, 9] us mv ws) (fun vs zs => gI [4, 0, 1, 2, 5, 3, 6, 7, 8, 9] vs [V.int 20, V.int 150, V.int 10, V.int 50, V.int 4, V.int 20000] zs) :=
  kbK F ["self"] ["deposit", "fee_base", "fee_weight", "fee_step", "pledge_rate", "coin_base", "epoch_length", "share", "depth", "most_steps"] ["fee_base", "fee_weight", "fee_step", "coin_base"] [("deposit", V.int 20), ("pledge_rate", V.int 150), ("epoch_length", V.int 10), ("share", V.int 50), ("depth", V.int 4), ("most_steps", V.int 20000)] [4, 0, 1, 2, 5, 3, 6, 7, 8, 9] 1 rfl rfl rfl rfl rfl (by simp [kwP]) (fun q h => by
    simp only [List.mem_cons, List.not_mem_nil, or_false] at h
    rcases h with rfl | rfl | rfl | rfl | rfl | rfl <;> simp [kwP]) (by decide +kernel) (by decide +kernel) (by show ∀ n ∈ (["deposit", "fee_base", "fee_weight", "fee_step", "pledge_rate", "coin_base", "epoch_length", "share", "depth", "most_steps"] : List PySem.Str), n ∈ (["fee_base", "fee_weight", "fee_step", "coin_base"] : List PySem.Str) ∨ n ∈ (["deposit", "pledge_rate", "epoch_length", "share", "depth", "most_steps"] : List PySem.Str); decide +kernel) rfl (fun us mv ws h1 h2 h3 => match us, h1, mv, h2, ws, h3 with | [_], _, [_, _, _, _, _, _], _, [_, _, _, _], _ => by kernel_rfl)
end Bk38p

set_option Elab.async false
set_option linter.all false
set_option maxRecDepth 100000
set_option maxHeartbeats 4000000
namespace NK38
open PySem PySem.Spec PyProof.Rows L2
def top (i : Nat) : Stmt := PySem.Challenge.pw_keptcoin_k38_weight_and_fees.main.body.getD i (.Pass ⟨0, 0, 0, 0⟩)
abbrev FnP (K : PySem.W.Frag) (x : Str) (st : Stmt) (f : Addr) (fd : FuncData) : Prop := FunD K x x (defArgs st) (defBody st) (defScope st) [] [] f fd
/-- a def that keeps its promise, where the module finds it -/
structure Cal (P : Program) (w : World) (K : PySem.W.Frag) (mg : Str → Option Value) (base : Heap) (x : Str) (k : Nat) (ps : List Str) (sp : Sp) : Prop where
  ex : ∃ f fd, mg x = some (.ref f) ∧ PySem.W.keepIn K (.ref f) = true ∧ Binds K fd ps [] ∧ FnOk P w K mg base CX0 k f fd ps sp
structure CalM (P : Program) (w : World) (K : PySem.W.Frag) (mg : Str → Option Value) (base : Heap) (fa : Addr) (k : Nat) (ps : List Str) (dvs : List V) (sp : Sp) : Prop where
  ex : ∃ fd, Binds K fd ps [] ∧ FnOk P w K mg base CX0 k fa fd ps sp ∧ ∃ ds, Vals dvs ds ∧ Binds K fd ps ds
abbrev s_least_coin : Stmt := top 2
abbrev N_least_coin : List Str := ["output", "params"]
theorem sc_least_coin : FnScope N_least_coin ["output", "params"] (defScope s_least_coin) := ⟨rfl, rfl, rfl, by decide +kernel, rfl, by decide +kernel, by decide +kernel⟩
abbrev s_weight : Stmt := top 3
abbrev N_weight : List Str := ["tx", "references", "made", "data", "rows", "output", "purpose", "datum"]
theorem sc_weight : FnScope N_weight ["tx"] (defScope s_weight) := ⟨rfl, rfl, rfl, by decide +kernel, rfl, by decide +kernel, by decide +kernel⟩
abbrev s_weight_of_output : Stmt := top 4
abbrev N_weight_of_output : List Str := ["output", "text", "word", "place"]
theorem sc_weight_of_output : FnScope N_weight_of_output ["output"] (defScope s_weight_of_output) := ⟨rfl, rfl, rfl, by decide +kernel, rfl, by decide +kernel, by decide +kernel⟩
abbrev s_least_fee : Stmt := top 5
abbrev N_least_fee : List Str := ["tx", "steps", "params"]
theorem sc_least_fee : FnScope N_least_fee ["tx", "steps", "params"] (defScope s_least_fee) := ⟨rfl, rfl, rfl, by decide +kernel, rfl, by decide +kernel, by decide +kernel⟩
abbrev s_Bundle___init : Stmt := inClass (top 8) 0
abbrev N_Bundle___init : List Str := ["self", "rows", "sums", "asset", "quantity"]
theorem sc_Bundle___init : FnScope N_Bundle___init ["self", "rows"] (defScope s_Bundle___init) := ⟨rfl, rfl, rfl, by decide +kernel, rfl, by decide +kernel, by decide +kernel⟩
abbrev s_Bundle___iter : Stmt := inClass (top 8) 12
abbrev N_Bundle___iter : List Str := ["self"]
theorem sc_Bundle___iter : FnScope N_Bundle___iter ["self"] (defScope s_Bundle___iter) := ⟨rfl, rfl, rfl, by decide +kernel, rfl, by decide +kernel, by decide +kernel⟩
abbrev s_Output___init : Stmt := inClass (top 10) 0
abbrev N_Output___init : List Str := ["self", "address", "bundle", "datum"]
theorem sc_Output___init : FnScope N_Output___init ["self", "address", "bundle", "datum"] (defScope s_Output___init) := ⟨rfl, rfl, rfl, by decide +kernel, rfl, by decide +kernel, by decide +kernel⟩
abbrev s_Output_picture : Stmt := inClass (top 10) 1
abbrev N_Output_picture : List Str := ["self"]
theorem sc_Output_picture : FnScope N_Output_picture ["self"] (defScope s_Output_picture) := ⟨rfl, rfl, rfl, by decide +kernel, rfl, by decide +kernel, by decide +kernel⟩
abbrev s_Params___init : Stmt := inClass (top 12) 0
abbrev N_Params___init : List Str := ["self", "deposit", "fee_base", "fee_weight", "fee_step", "pledge_rate", "coin_base", "epoch_length", "share", "depth", "most_steps"]
theorem sc_Params___init : FnScope N_Params___init ["self", "deposit", "fee_base", "fee_weight", "fee_step", "pledge_rate", "coin_base", "epoch_length", "share", "depth", "most_steps"] (defScope s_Params___init) := ⟨rfl, rfl, rfl, by decide +kernel, rfl, by decide +kernel, by decide +kernel⟩
abbrev s_Transaction___init : Stmt := inClass (top 15) 0
abbrev N_Transaction___init : List Str := ["self", "number", "spends", "makes", "fee", "looks", "pledge", "mint", "begins", "ends", "signers", "data", "deeds", "draws", "approved", "purpose", "datum"]
theorem sc_Transaction___init : FnScope N_Transaction___init ["self", "number", "spends", "makes", "fee", "looks", "pledge", "mint", "begins", "ends", "signers", "data", "deeds", "draws", "approved"] (defScope s_Transaction___init) := ⟨rfl, rfl, rfl, by decide +kernel, rfl, by decide +kernel, by decide +kernel⟩
abbrev s_Transaction_picture : Stmt := inClass (top 15) 1
abbrev N_Transaction_picture : List Str := ["self", "makes", "output"]
theorem sc_Transaction_picture : FnScope N_Transaction_picture ["self"] (defScope s_Transaction_picture) := ⟨rfl, rfl, rfl, by decide +kernel, rfl, by decide +kernel, by decide +kernel⟩
abbrev s_law_cell : Stmt := top 17
abbrev N_law_cell : List Str := ["script", "k"]
theorem sc_law_cell : FnScope N_law_cell ["script", "k"] (defScope s_law_cell) := ⟨rfl, rfl, rfl, by decide +kernel, rfl, by decide +kernel, by decide +kernel⟩
abbrev s_law_numbers : Stmt := top 18
abbrev N_law_numbers : List Str := ["cell", "many", "rest", "size", "numbers", "k", "mixed"]
theorem sc_law_numbers : FnScope N_law_numbers ["cell", "many"] (defScope s_law_numbers) := ⟨rfl, rfl, rfl, by decide +kernel, rfl, by decide +kernel, by decide +kernel⟩
abbrev s_law_stream : Stmt := top 19
abbrev N_law_stream : List Str := ["script", "k", "many"]
theorem sc_law_stream : FnScope N_law_stream ["script", "k", "many"] (defScope s_law_stream) := ⟨rfl, rfl, rfl, by decide +kernel, rfl, by decide +kernel, by decide +kernel⟩
abbrev s_law_between : Stmt := top 21
abbrev N_law_between : List Str := ["numbers", "at", "low", "high", "six", "wide", "k"]
theorem sc_law_between : FnScope N_law_between ["numbers", "at", "low", "high"] (defScope s_law_between) := ⟨rfl, rfl, rfl, by decide +kernel, rfl, by decide +kernel, by decide +kernel⟩
abbrev s_law_char : Stmt := top 22
abbrev N_law_char : List Str := ["number", "chars"]
theorem sc_law_char : FnScope N_law_char ["number"] (defScope s_law_char) := ⟨rfl, rfl, rfl, by decide +kernel, rfl, by decide +kernel, by decide +kernel⟩
abbrev s_law_text : Stmt := top 23
abbrev N_law_text : List Str := ["numbers", "at", "size", "first", "other", "place"]
theorem sc_law_text : FnScope N_law_text ["numbers", "at", "size"] (defScope s_law_text) := ⟨rfl, rfl, rfl, by decide +kernel, rfl, by decide +kernel, by decide +kernel⟩
abbrev s_law_same : Stmt := top 24
abbrev N_law_same : List Str := ["actual", "expected", "k"]
theorem sc_law_same : FnScope N_law_same ["actual", "expected"] (defScope s_law_same) := ⟨rfl, rfl, rfl, by decide +kernel, rfl, by decide +kernel, by decide +kernel⟩
abbrev s_law_normal : Stmt := top 25
abbrev N_law_normal : List Str := ["rows", "found", "normal", "asset", "quantity", "row"]
theorem sc_law_normal : FnScope N_law_normal ["rows"] (defScope s_law_normal) := ⟨rfl, rfl, rfl, by decide +kernel, rfl, by decide +kernel, by decide +kernel⟩
abbrev s_law_integer : Stmt := top 26
abbrev N_law_integer : List Str := ["numbers", "at", "three", "value", "k"]
theorem sc_law_integer : FnScope N_law_integer ["numbers", "at"] (defScope s_law_integer) := ⟨rfl, rfl, rfl, by decide +kernel, rfl, by decide +kernel, by decide +kernel⟩
abbrev s_law_reference : Stmt := top 27
abbrev N_law_reference : List Str := ["numbers", "at"]
theorem sc_law_reference : FnScope N_law_reference ["numbers", "at"] (defScope s_law_reference) := ⟨rfl, rfl, rfl, by decide +kernel, rfl, by decide +kernel, by decide +kernel⟩
abbrev s_law_any_text : Stmt := top 28
abbrev N_law_any_text : List Str := ["numbers", "at", "size"]
theorem sc_law_any_text : FnScope N_law_any_text ["numbers", "at"] (defScope s_law_any_text) := ⟨rfl, rfl, rfl, by decide +kernel, rfl, by decide +kernel, by decide +kernel⟩
abbrev s_law_any_asset : Stmt := top 29
abbrev N_law_any_asset : List Str := ["numbers", "at", "first"]
theorem sc_law_any_asset : FnScope N_law_any_asset ["numbers", "at"] (defScope s_law_any_asset) := ⟨rfl, rfl, rfl, by decide +kernel, rfl, by decide +kernel, by decide +kernel⟩
abbrev s_law_any_rows : Stmt := top 30
abbrev N_law_any_rows : List Str := ["numbers", "at", "many", "k"]
theorem sc_law_any_rows : FnScope N_law_any_rows ["numbers", "at", "many"] (defScope s_law_any_rows) := ⟨rfl, rfl, rfl, by decide +kernel, rfl, by decide +kernel, by decide +kernel⟩
abbrev s_law_any_output : Stmt := top 31
abbrev N_law_any_output : List Str := ["numbers", "address", "rows", "k"]
theorem sc_law_any_output : FnScope N_law_any_output ["numbers"] (defScope s_law_any_output) := ⟨rfl, rfl, rfl, by decide +kernel, rfl, by decide +kernel, by decide +kernel⟩
abbrev s_law_any_purpose : Stmt := top 32
abbrev N_law_any_purpose : List Str := ["numbers", "at"]
theorem sc_law_any_purpose : FnScope N_law_any_purpose ["numbers", "at"] (defScope s_law_any_purpose) := ⟨rfl, rfl, rfl, by decide +kernel, rfl, by decide +kernel, by decide +kernel⟩
abbrev s_law_any_pair : Stmt := top 33
abbrev N_law_any_pair : List Str := ["numbers", "at"]
theorem sc_law_any_pair : FnScope N_law_any_pair ["numbers", "at"] (defScope s_law_any_pair) := ⟨rfl, rfl, rfl, by decide +kernel, rfl, by decide +kernel, by decide +kernel⟩
abbrev s_law_any_fields : Stmt := top 34
abbrev N_law_any_fields : List Str := ["script", "start", "head", "refs", "rest", "rows", "counts", "facts", "k", "some", "j"]
theorem sc_law_any_fields : FnScope N_law_any_fields ["script", "start"] (defScope s_law_any_fields) := ⟨rfl, rfl, rfl, by decide +kernel, rfl, by decide +kernel, by decide +kernel⟩
abbrev s_law_picture : Stmt := top 35
abbrev N_law_picture : List Str := ["fields", "made", "facts", "first", "middle", "address", "rows", "datum", "purpose"]
theorem sc_law_picture : FnScope N_law_picture ["fields"] (defScope s_law_picture) := ⟨rfl, rfl, rfl, by decide +kernel, rfl, by decide +kernel, by decide +kernel⟩
abbrev s_law_make : Stmt := top 36
abbrev N_law_make : List Str := ["fields", "made", "facts", "address", "rows", "datum", "purpose"]
theorem sc_law_make : FnScope N_law_make ["fields"] (defScope s_law_make) := ⟨rfl, rfl, rfl, by decide +kernel, rfl, by decide +kernel, by decide +kernel⟩
abbrev s_law_params : Stmt := top 37
abbrev N_law_params : List Str := ["numbers", "bounds", "some", "k"]
theorem sc_law_params : FnScope N_law_params ["numbers"] (defScope s_law_params) := ⟨rfl, rfl, rfl, by decide +kernel, rfl, by decide +kernel, by decide +kernel⟩
abbrev s_law_made_params : Stmt := top 38
abbrev N_law_made_params : List Str := ["values"]
theorem sc_law_made_params : FnScope N_law_made_params ["values"] (defScope s_law_made_params) := ⟨rfl, rfl, rfl, by decide +kernel, rfl, by decide +kernel, by decide +kernel⟩
abbrev s_law_weight : Stmt := top 39
abbrev N_law_weight : List Str := ["fields", "total", "address", "rows", "datum", "purpose"]
theorem sc_law_weight : FnScope N_law_weight ["fields"] (defScope s_law_weight) := ⟨rfl, rfl, rfl, by decide +kernel, rfl, by decide +kernel, by decide +kernel⟩
abbrev s_law_grown : Stmt := top 40
abbrev N_law_grown : List Str := ["rows", "factor", "asset", "quantity"]
theorem sc_law_grown : FnScope N_law_grown ["rows", "factor"] (defScope s_law_grown) := ⟨rfl, rfl, rfl, by decide +kernel, rfl, by decide +kernel, by decide +kernel⟩
abbrev s_law_changed : Stmt := top 41
abbrev N_law_changed : List Str := ["fields", "numbers", "factor", "shift", "made", "facts", "address", "rows", "datum", "k", "ref", "one", "purpose"]
theorem sc_law_changed : FnScope N_law_changed ["fields", "numbers"] (defScope s_law_changed) := ⟨rfl, rfl, rfl, by decide +kernel, rfl, by decide +kernel, by decide +kernel⟩
abbrev s_law : Stmt := top 42
abbrev N_law : List Str := ["script", "fields", "tx", "numbers", "due", "steps", "values", "other", "params", "k", "least", "address", "rows", "datum"]
theorem sc_law : FnScope N_law ["script"] (defScope s_law) := ⟨rfl, rfl, rfl, by decide +kernel, rfl, by decide +kernel, by decide +kernel⟩

open Bd Es Dj
def coinA : Ast := (Rd.S [], 0)
theorem _root_.Bd.Nrm.filter {N : List (Ast × Int)} {p : Ast × Int → Bool} (h : Nrm N) : Nrm (N.filter p) := ⟨List.Pairwise.filter _ h.srt, (List.filter_sublist.map _).nodup h.nd, fun e he => h.nz e (List.mem_filter.mp he).1⟩
abbrev aC (K : PySem.W.Frag) : Addr := He.ga K "COIN"
structure CoinF (K : PySem.W.Frag) (mg : Str → Option Value) : Prop where
  m : mg "COIN" = some (.ref (aC K))
  at_ : ∀ H, SqT K H (aC K) [.str coinA.1, .int coinA.2]

def OkS (A : List Ast) : Prop := ∀ x ∈ A, OkA x ∧ x.1.length ≤ 10
theorem OkS.app {A : List Ast} {x : Ast} (h : OkS A) (k : OkA x ∧ x.1.length ≤ 10) : OkS (A ++ [x]) := fun y hy => (List.mem_append.mp hy).elim (h y) fun z => by rw [List.mem_singleton.mp z]; exact k
theorem OkS.append {A B : List Ast} (h : OkS A) (k : OkS B) : OkS (A ++ B) := fun y hy => (List.mem_append.mp hy).elim (h y) (k y)
theorem tot_fm (p : Ast) : ∀ R : List (Ast × Int), (R.filterMap fun e => if e.1 = p then some e.2 else none).sum = tot R p
  | [] => rfl
  | e :: R => by
    have ih := tot_fm p R
    have e1 : tot (e :: R) p = (if e.1 = p then e.2 else 0) + tot R p := rfl
    by_cases h : e.1 = p <;> simp [List.filterMap_cons, h, ih, e1]

open Ef
mutual
/-- no tuple of more than a thousand -/
def sm : PyData → Bool
  | .none | .bool _ | .int _ | .str _ => true
  | .tuple ds => decide (ds.length ≤ 1000) && smAll ds
  | .list _ | .dict _ => true
def smAll : List PyData → Bool
  | [] => true
  | d :: ds => sm d && smAll ds
end
theorem smAll_mem : ∀ {ds : List PyData}, smAll ds = true ↔ ∀ d ∈ ds, sm d = true
  | [] => by simp [smAll]
  | d :: ds => by simp only [smAll, Bool.and_eq_true, List.mem_cons, forall_eq_or_imp, smAll_mem (ds := ds)]
theorem sm_tuple {ds : List PyData} (hl : ds.length ≤ 1000) (h : ∀ d ∈ ds, sm d = true) : sm (.tuple ds) = true := by
  simp only [sm, Bool.and_eq_true, decide_eq_true_eq]
  exact ⟨hl, smAll_mem.mpr h⟩
/-- good data, no list in it -/
structure OkD (n : Nat) (d : PyData) : Prop where
  sh : Sh n d
  nl : nl d = true
  nd : nd d = true
  sm : sm d = true
theorem OkD.int (i : Int) (n : Nat) : OkD n (.int i) := ⟨Sh.int i n, rfl, rfl, rfl⟩
theorem OkD.str {x : Str} (h : PyData.strOk x = true) (n : Nat) : OkD n (.str x) := ⟨Sh.str n h, rfl, rfl, rfl⟩
theorem OkD.tuple {n : Nat} {ds : List PyData} (hl : ds.length ≤ 1000) (h : ∀ d ∈ ds, OkD n d) : OkD (n + 1) (.tuple ds) := ⟨Sh.tuple fun d hd => (h d hd).sh, by simp only [Dj.nl]; exact nlAll_mem.mpr fun d hd => (h d hd).nl, by simp only [Dj.nd]; exact ndAll_mem.mpr fun d hd => (h d hd).nd, sm_tuple hl fun d hd => (h d hd).sm⟩
theorem OkD.two {n : Nat} {x y : PyData} (h : OkD n x) (k : OkD n y) : OkD (n + 1) (.tuple [x, y]) := .tuple (by simp) fun d hd => by
  simp only [List.mem_cons, List.not_mem_nil, or_false] at hd
  rcases hd with rfl | rfl
  · exact h
  · exact k
/-- plain data: no list in it, no long tuple, n deep at most -/
structure Pl (n : Nat) (d : PyData) : Prop where
  nl : nl d = true
  sm : sm d = true
  dp : PyData.depth d ≤ n
theorem OkD.pl {n : Nat} {d : PyData} (h : OkD n d) : Pl n d := ⟨h.nl, h.sm, h.sh.2⟩
theorem Pl.int (i : Int) (n : Nat) : Pl n (.int i) := ⟨rfl, rfl, by simp [PyData.depth]⟩
theorem Pl.bool (i : Bool) (n : Nat) : Pl n (.bool i) := ⟨rfl, rfl, by simp [PyData.depth]⟩
theorem Pl.str (x : Str) (n : Nat) : Pl n (.str x) := ⟨rfl, rfl, by simp [PyData.depth]⟩
theorem Pl.mono {n m : Nat} {d : PyData} (h : Pl n d) (hm : n ≤ m) : Pl m d := ⟨h.nl, h.sm, Nat.le_trans h.dp hm⟩
theorem Pl.tuple {n : Nat} {ds : List PyData} (hl : ds.length ≤ 1000) (h : ∀ d ∈ ds, Pl n d) : Pl (n + 1) (.tuple ds) := ⟨by simp only [Dj.nl]; exact nlAll_mem.mpr fun d hd => (h d hd).nl, sm_tuple hl fun d hd => (h d hd).sm, by simp only [PyData.depth]; exact Nat.succ_le_succ (depth_mem.mpr fun d hd => (h d hd).dp)⟩
theorem Pl.map {α : Type} {n : Nat} {R : List α} {f : α → PyData} (hl : R.length ≤ 1000) (h : ∀ e ∈ R, Pl n (f e)) : Pl (n + 1) (.tuple (R.map f)) := .tuple (by rw [List.length_map]; exact hl) fun d hd => by
  obtain ⟨e, he, rfl⟩ := List.mem_map.mp hd
  exact h e he
theorem plN {n : Nat} : ∀ d ∈ ([] : List PyData), Pl n d := fun _ h => absurd h List.not_mem_nil
theorem plC {n : Nat} {d : PyData} {ds : List PyData} (h : Pl n d) (k : ∀ d ∈ ds, Pl n d) : ∀ e ∈ d :: ds, Pl n e := fun e he => (List.mem_cons.mp he).elim (fun q => q ▸ h) (k e)
theorem encR_pl (e : Ast × Int) : Pl 2 (encR e) := .tuple (by simp) (plC (.tuple (by simp) (plC (.str _ _) (plC (.int _ _) plN))) (plC (.int _ _) plN))
structure Fo where
  adr : PyData
  rows : List (Ast × Int)
  dat : List Int
def encI (i : Int) : PyData := .int i
def encO (o : Fo) : PyData := .tuple [o.adr, .list (o.rows.map encR), .list (o.dat.map encI)]
/-- ("key", a number) or ("script", a text) -/
def AdK (d : PyData) : Prop := (∃ i : Int, d = .tuple [.str (Rd.S [107, 101, 121]), .int i]) ∨ ∃ l : List Nat, d = .tuple [.str (Rd.S [115, 99, 114, 105, 112, 116]), .str (Rd.S l)] ∧ (∀ c ∈ l, c < 1000) ∧ l.length ≤ 3000
def DdK (d : PyData) : Prop := ∃ (s : Str) (i : Int), d = .tuple [.str s, .int i]
structure OkO (o : Fo) : Prop where
  ak : AdK o.adr
  adr : OkD 4 o.adr
  rows : OkR o.rows
  rl : o.rows.length ≤ 24
  dl : o.dat.length ≤ 24
def encFact (e : PyData × List Int) : PyData := .tuple [e.1, .list (e.2.map encI)]
structure Fd where
  number : Int
  spends : List (Int × Int)
  looks : List (Int × Int)
  pledge : List (Int × Int)
  makes : List Fo
  mint : List (Ast × Int)
  fee : Int
  begins : Int
  ends : Int
  signers : List Int
  data : List (PyData × List Int)
  deeds : List PyData
  draws : List (Int × Int)
  approved : Bool
def fnames : List Str := [Rd.S [110, 117, 109, 98, 101, 114], Rd.S [115, 112, 101, 110, 100, 115], Rd.S [108, 111, 111, 107, 115], Rd.S [112, 108, 101, 100, 103, 101], Rd.S [109, 97, 107, 101, 115], Rd.S [109, 105, 110, 116], Rd.S [102, 101, 101], Rd.S [98, 101, 103, 105, 110, 115], Rd.S [101, 110, 100, 115], Rd.S [115, 105, 103, 110, 101, 114, 115], Rd.S [100, 97, 116, 97], Rd.S [100, 101, 101, 100, 115], Rd.S [100, 114, 97, 119, 115], Rd.S [97, 112, 112, 114, 111, 118, 101, 100]]
theorem fnames_nd : fnames.Nodup := by decide +kernel
def encRef (e : Int × Int) : PyData := .tuple [.int e.1, .int e.2]
def encF (F : Fd) : List PyData := [.int F.number, .list (F.spends.map encRef), .list (F.looks.map encRef), .list (F.pledge.map encRef), .list (F.makes.map encO), .list (F.mint.map encR), .int F.fee, .int F.begins, .int F.ends, .list (F.signers.map encI), .list (F.data.map encFact), .list F.deeds, .list (F.draws.map encRef), .bool F.approved]
/-- the lists of numbers that the fields are drawn from -/
structure Ls (K : PySem.W.Frag) (H : Hp) (a ph pf pe pw pc : Addr) (ns nh nf ne nw cs : List Int) : Prop where
  a : SqL K H a (ns.map V.int)
  h : H ph = some (.lst (nh.map V.int))
  f : H pf = some (.lst (nf.map V.int))
  e : H pe = some (.lst (ne.map V.int))
  w : H pw = some (.lst (nw.map V.int))
  c : H pc = some (.lst (cs.map V.int))
theorem Ls.keep {K : PySem.W.Frag} {H H' : Hp} {a ph pf pe pw pc : Addr} {ns nh nf ne nw cs : List Int} (l : Ls K H a ph pf pe pw pc ns nh nf ne nw cs) (s : Same H H') : Ls K H' a ph pf pe pw pc ns nh nf ne nw cs :=
  ⟨s.seq l.a, s _ _ l.h, s _ _ l.f, s _ _ l.e, s _ _ l.w, s _ _ l.c⟩
/-- the one normal form -/
noncomputable def nf (R : List (Ast × Int)) : List (Ast × Int) := open Classical in if h : ∃ N, Nrm N ∧ ∀ p, tot N p = tot R p then h.choose else []
theorem nf_is {R N : List (Ast × Int)} (h : Nrm N) (t : ∀ p, tot N p = tot R p) : N = nf R := by
  have e : ∃ N, Nrm N ∧ ∀ p, tot N p = tot R p := ⟨N, h, t⟩
  unfold nf
  rw [dif_pos e]
  exact h.uniq e.choose_spec.1 fun p => (t p).trans (e.choose_spec.2 p).symm
noncomputable def encOp (o : Fo) : PyData := .tuple [o.adr, .tuple ((nf o.rows).map encR), .tuple (o.dat.map encI)]
def encFp (e : PyData × List Int) : PyData := .tuple [e.1, .tuple (e.2.map encI)]
structure OkF (F : Fd) : Prop where
  l1 : F.spends.length ≤ 24
  l2 : F.looks.length ≤ 24
  l3 : F.pledge.length ≤ 24
  l4 : F.makes.length ≤ 24
  l5 : F.mint.length ≤ 24
  l6 : F.signers.length ≤ 24
  l7 : F.data.length ≤ 24
  l8 : F.deeds.length ≤ 24
  l9 : F.draws.length ≤ 24
  makes : ∀ o ∈ F.makes, OkO o
  mint : OkR F.mint
  data : ∀ e ∈ F.data, OkD 4 e.1 ∧ e.2.length ≤ 24
  deeds : ∀ d ∈ F.deeds, OkD 4 d
  dk : ∀ d ∈ F.deeds, DdK d
noncomputable def picD (F : Fd) : PyData := .tuple [.int F.number, .tuple (F.spends.map encRef), .tuple (F.looks.map encRef), .tuple (F.pledge.map encRef), .tuple (F.makes.map encOp), .tuple ((nf F.mint).map encR), .int F.fee, .int F.begins, .int F.ends, .tuple (F.signers.map encI), .tuple (F.data.map encFp), .tuple F.deeds, .tuple (F.draws.map encRef), .bool F.approved]
theorem nf_len (R : List (Ast × Int)) : (nf R).length ≤ R.length := by
  unfold nf
  split
  · rename_i h
    exact h.choose_spec.1.len h.choose_spec.2
  · exact Nat.zero_le _
theorem encI_pl (i : Int) : Pl 0 (encI i) := .int i 0
theorem encRef_pl (e : Int × Int) : Pl 1 (encRef e) := .tuple (by simp) (plC (.int _ _) (plC (.int _ _) plN))
theorem encOp_pl {o : Fo} (h : OkO o) : Pl 5 (encOp o) := by
  have h1 := nf_len o.rows
  have h2 := h.rl
  have h3 := h.dl
  exact .tuple (by simp) (plC h.adr.pl (plC ((Pl.map (by omega) fun e _ => encR_pl e).mono (by omega)) (plC ((Pl.map (by omega) fun e _ => encI_pl e).mono (by omega)) plN)))
theorem encFp_pl {e : PyData × List Int} (h : OkD 4 e.1 ∧ e.2.length ≤ 24) : Pl 5 (encFp e) := .tuple (by simp) (plC h.1.pl (plC ((Pl.map (by have := h.2; omega) fun e _ => encI_pl e).mono (by omega)) plN))
theorem picD_pl {F : Fd} (h : OkF F) : Pl 7 (picD F) := by
  obtain ⟨l1, l2, l3, l4, l5, l6, l7, l8, l9, m1, m2, m3, m4, m5⟩ := h
  have h5 := nf_len F.mint
  exact .tuple (by simp) (plC (.int _ _) (plC ((Pl.map (by omega) fun e _ => encRef_pl e).mono (by omega)) (plC ((Pl.map (by omega) fun e _ => encRef_pl e).mono (by omega)) (plC ((Pl.map (by omega) fun e _ => encRef_pl e).mono (by omega)) (plC (Pl.map (by omega) fun e he => encOp_pl (m1 e he)) (plC ((Pl.map (by omega) fun e _ => encR_pl e).mono (by omega)) (plC (.int _ _) (plC (.int _ _) (plC (.int _ _)
    (plC ((Pl.map (by omega) fun e _ => encI_pl e).mono (by omega)) (plC (Pl.map (by omega) fun e he => encFp_pl (m3 e he)) (plC ((Pl.tuple (by omega) fun d hd => (m4 d hd).pl).mono (by omega)) (plC ((Pl.map (by omega) fun e _ => encRef_pl e).mono (by omega)) (plC (.bool _ _) plN))))))))))))))
theorem encOp_nl {o : Fo} (h : OkO o) : nl (encOp o) = true := by
  have h1 := h.adr.nl
  simp [encOp, nl, nlAll, h1, nlMap encR_nl, nlMap (f := encI) (fun _ => rfl)]
theorem encFp_nl {e : PyData × List Int} (h : nl e.1 = true) : nl (encFp e) = true := by simp [encFp, nl, nlAll, h, nlMap (f := encI) (fun _ => rfl)]

/-- an output with these fields at b -/
def OutAt (P : Program) (w : World) (K : PySem.W.Frag) (H : Hp) (b : Addr) (o : Fo) : Prop := ∃ dx u bb dd, H b = some (.ins (He.ga K "Output") dx [(("address" : Str), u), (("bundle" : Str), .ref bb), (("datum" : Str), .ref dd)]) ∧ Dp K H u o.adr ∧ BdS P w K H bb (nf o.rows) ∧ Dp K H (.ref dd) (.tuple (o.dat.map encI))
theorem OutAt.keep {P : Program} {w : World} {K : PySem.W.Frag} {H H' : Hp} {b : Addr} {o : Fo} (h : OutAt P w K H b o) (s : Same H H') : OutAt P w K H' b o := by
  obtain ⟨dx, u, bb, dd, h1, h2, h3, h4⟩ := h
  exact ⟨dx, u, bb, dd, s _ _ h1, dpS1 h2 s, h3.keep s, dpS1 h4 s⟩

theorem BdS.off {P : Program} {w : World} {K : PySem.W.Frag} {H H' : Hp} {b c C dx : Addr} {fs : List (Str × V)} {N : List (Ast × Int)} (h : BdS P w K H c N) (e : Beside b H H') (hb : H b = some (.ins C dx fs)) (ne : c ≠ b) : BdS P w K H' c N := by
  obtain ⟨dx2, r, d, xs, h1, h2, h3, h4, h5⟩ := h
  obtain ⟨z, ys, h6, h7⟩ := id h4
  have nr : r ≠ b := fun q => by subst q; rw [hb] at h2; cases h2
  have nd : d ≠ b := fun q => by
    subst q
    have h8 : some (HO.ins C dx fs) = some (dX P w d ys) := hb.symm.trans h6
    have h9 : HO.ins C dx fs = HO.ext _ := Option.some.inj h8
    cases h9
  exact ⟨dx2, r, d, xs, e _ _ ne h1, e _ _ nr h2, e.dpAll hb h3, h4.keepT ((e _ _ nd h6).trans h6.symm) (fun q ys hq => e.sqT hb hq), h5⟩

/-- outputs, one after the other -/
def Outs (P : Program) (w : World) (K : PySem.W.Frag) (H : Hp) (vs : List V) (os : List Fo) : Prop := Paired (fun v o => ∃ b, v = .ref b ∧ OutAt P w K H b o) vs os
theorem Outs.keep {P : Program} {w : World} {K : PySem.W.Frag} {H H' : Hp} {vs : List V} {os : List Fo} (h : Outs P w K H vs os) (s : Same H H') : Outs P w K H' vs os := Paired.mapP h fun _ _ ⟨b, e, q⟩ => ⟨b, e, q.keep s⟩
theorem Outs.at_ {P : Program} {w : World} {K : PySem.W.Frag} {H : Hp} : ∀ {vs : List V} {os : List Fo} {i : Nat} {v : V}, Outs P w K H vs os → vs[i]? = some v → ∃ b o, v = .ref b ∧ os[i]? = some o ∧ OutAt P w K H b o
  | _, _, _, _, Paired.nil, e => by simp at e
  | _, _, 0, _, Paired.cons h t, e => by
    simp only [List.getElem?_cons_zero, Option.some.injEq] at e
    obtain ⟨b, e2, q⟩ := h
    exact ⟨b, _, e.symm.trans e2, rfl, q⟩
  | _, _, i + 1, _, Paired.cons h t, e => by
    simp only [List.getElem?_cons_succ] at e ⊢
    exact Outs.at_ t e
/-- a transaction with these fields at t -/
structure TxAt (P : Program) (w : World) (K : PySem.W.Frag) (H : Hp) (t : Addr) (F : Fd) : Prop where
  ex : ∃ dx p1 p2 p3 p4 c p9 p10 p11 p12 os, H t = some (.ins (He.ga K "Transaction") dx [(("number" : Str), .int F.number), (("spends" : Str), .ref p1), (("looks" : Str), .ref p2), (("pledge" : Str), .ref p3), (("makes" : Str), .ref p4), (("mint" : Str), .ref c), (("fee" : Str), .int F.fee), (("begins" : Str), .int F.begins), (("ends" : Str), .int F.ends), (("signers" : Str), .ref p9), (("data" : Str), .ref p10), (("deeds" : Str), .ref p11), (("draws" : Str), .ref p12), (("approved" : Str), .bl F.approved)]) ∧
    Dp K H (.ref p1) (.tuple (F.spends.map encRef)) ∧ Dp K H (.ref p2) (.tuple (F.looks.map encRef)) ∧ Dp K H (.ref p3) (.tuple (F.pledge.map encRef)) ∧ SqT K H p4 os ∧ Outs P w K H os F.makes ∧ BdS P w K H c (nf F.mint) ∧
    Dp K H (.ref p9) (.tuple (F.signers.map encI)) ∧ Dp K H (.ref p10) (.tuple (F.data.map encFp)) ∧ Dp K H (.ref p11) (.tuple F.deeds) ∧ Dp K H (.ref p12) (.tuple (F.draws.map encRef))

/-- a bundle at a whose row of rows is xs -/
def OwnAt (K : PySem.W.Frag) (H : Hp) (a : Addr) (xs : List V) : Prop := ∃ dx d t, H a = some (.ins (He.ga K "Bundle") dx [("_quantities", .ref d), ("rows", .ref t)]) ∧ H t = some (.tup xs)
theorem OwnAt.keep {K : PySem.W.Frag} {H H' : Hp} {a : Addr} {xs : List V} (h : OwnAt K H a xs) (s : Same H H') : OwnAt K H' a xs := by
  obtain ⟨dx, d, t, h1, h2⟩ := h
  exact ⟨dx, d, t, s _ _ h1, s _ _ h2⟩

/-- a list or a tuple of this data -/
def SeqD (K : PySem.W.Frag) (G : Hp) (a : Addr) (ds : List PyData) : Prop := ∃ us, (SqL K G a us ∨ SqT K G a us) ∧ DpAll K G us ds
theorem SeqD.keep {K : PySem.W.Frag} {G G' : Hp} {a : Addr} {ds : List PyData} (h : SeqD K G a ds) (s : Same G G') : SeqD K G' a ds := by
  obtain ⟨us, h1, h2⟩ := h
  exact ⟨us, h1.imp s.seq (Rd.same_tup s), dpAll_same s h2⟩
/-- what a transaction of these fields is made of -/
structure TxIn (P : Program) (w : World) (K : PySem.W.Frag) (G : Hp) (a1 a2 a3 a4 am a9 a10 a11 a12 : Addr) (F : Fd) : Prop where
  i1 : SeqD K G a1 (F.spends.map encRef)
  i2 : SeqD K G a2 (F.looks.map encRef)
  i3 : SeqD K G a3 (F.pledge.map encRef)
  i4 : ∃ os, (SqL K G a4 os ∨ SqT K G a4 os) ∧ Outs P w K G os F.makes
  im : ∃ xs, ((SqL K G am xs ∨ SqT K G am xs) ∨ OwnAt K G am xs) ∧ DpAll K G xs (F.mint.map encR)
  i9 : SeqD K G a9 (F.signers.map encI)
  i10 : SeqD K G a10 (F.data.map encFact)
  i11 : SeqD K G a11 F.deeds
  i12 : SeqD K G a12 (F.draws.map encRef)
theorem TxIn.keep {P : Program} {w : World} {K : PySem.W.Frag} {G G' : Hp} {a1 a2 a3 a4 am a9 a10 a11 a12 : Addr} {F : Fd} (h : TxIn P w K G a1 a2 a3 a4 am a9 a10 a11 a12 F) (s : Same G G') : TxIn P w K G' a1 a2 a3 a4 am a9 a10 a11 a12 F := by
  obtain ⟨h1, h2, h3, ⟨os, h4, h4b⟩, ⟨xs, hm, hmb⟩, h9, h10, h11, h12⟩ := h
  exact ⟨h1.keep s, h2.keep s, h3.keep s, ⟨os, h4.imp s.seq (Rd.same_tup s), h4b.keep s⟩, ⟨xs, hm.imp (fun z => z.imp s.seq (Rd.same_tup s)) (fun z => z.keep s), dpAll_same s hmb⟩, h9.keep s, h10.keep s, h11.keep s, h12.keep s⟩
theorem besideDl {H : Hp} {t : Addr} : Beside t H (dl H t) := fun a o n e => (dl_ne n).trans e
theorem fput {K : PySem.W.Frag} {H H0 : Hp} {t C dx : Addr} {fs fs' : List (Str × V)} {f : Str} {y : V} {n : L2.St → Hp → Prop} {σ : L2.St} (ht : H t = some (.ins C dx fs)) (c : Cls K C) (na : NoAttr K C f) (l : fs.length < 1000) (hf : putF f y fs = fs')
    (s : Same (dl H0 t) (dl H t)) (b : Beside t H0 H) (k : ∀ H1, H1 t = some (.ins C dx fs') → Same (dl H0 t) (dl H1 t) → Beside t H0 H1 → Same (dl H t) (dl H1 t) → n σ H1) :
    ∃ a C dx fs, V.ref t = .ref a ∧ H a = some (.ins C dx fs) ∧ Cls K C ∧ NoAttr K C f ∧ fs.length < 1000 ∧ n σ (upd H a (.ins C dx (putF f y fs))) := by
  subst hf
  exact ⟨t, C, dx, fs, rfl, ht, c, na, l, k _ upd_same (by rw [dl_upd]; exact s) (fun a o h e => (upd_ne h).trans (b a o h e)) (by rw [dl_upd]; exact Same.refl _)⟩
theorem tupF {K : PySem.W.Frag} {H H0 : Hp} {t a : Addr} {us : List V} {o : HO} {Q : VK} (ht : H t = some o) (h : SqL K (dl H0 t) a us ∨ SqT K (dl H0 t) a us) (s : Same (dl H0 t) (dl H t)) (k : ∀ p H', Same H H' → Same (dl H0 t) (dl H' t) → SqT K (dl H' t) p us → Q (.ref p) H') : Rd.TupK K [.ref a] H Q :=
  tupE ht (h.imp s.seq (Rd.same_tup s)) fun p H' sp q => k p H' sp (s.trans (same_dl sp)) q
theorem Beside.thn {t : Addr} {H H1 H2 : Hp} (b : Beside t H H1) (s : Same H1 H2) : Beside t H H2 := fun a o h e => s _ _ (b a o h e)
theorem lcDE {α : Type} {K : PySem.W.Frag} {σ : L2.St} {H : Hp} {Q : VK} {i0 : Nat} {a : Addr} {xs : List V} {g : TG} {te : TE} {vs : List Nat} {R : List α} (enc : α → PyData) (F : α → PyData) (hv : σ[i0]? = some (some (.ref a))) (h : SqL K H a xs ∨ SqT K H a xs) (hx : DpAll K H xs (R.map enc)) (hl : xs.length ≤ 100000) (hn : ∀ e ∈ R, nl (F e) = true)
    (hs : ∀ (e : α) (x : V) (D : Addr) (acc : List V) (H' : Hp) (C : VK), H D = none → Same H H' → e ∈ R → Dp K H' x (enc e) → H' D = some (.lst acc) → (∀ y H3, Same H' H3 → Dp K H3 y (F e) → C y H3) →
      g x (wipe σ vs) H' fun σ2 H2 => wipe σ2 vs = wipe σ vs ∧ te σ2 H2 C)
    (hd : ∀ D acc H', H D = none → Same H H' → H' D = some (.lst acc) → DpAll K H' acc (R.map F) → Q (.ref D) H') :
    Bd.iLt K (tVar i0) σ H fun J H1 => Rd.LcJ g tYes te vs σ Q J H1 := by
  rcases h with h | h
  · exact .inl ⟨.ref a, hv, lcD enc F h hx hl hn hs hd⟩
  · exact .inr ⟨.ref a, hv, lcDT enc F h hx hl hn hs hd⟩

/-- parameters with these four values stand at b -/
def PA (K : PySem.W.Frag) (H : Hp) (b : Addr) (fb fw fs cb : Int) : Prop := ∃ dx i0 i4 i6 i7 i8 i9, H b = some (.ins (He.ga K "Params") dx [(("deposit" : Str), i0), (("fee_base" : Str), .int fb), (("fee_weight" : Str), .int fw), (("fee_step" : Str), .int fs), (("pledge_rate" : Str), i4), (("coin_base" : Str), .int cb), (("epoch_length" : Str), i6), (("share" : Str), i7), (("depth" : Str), i8), (("most_steps" : Str), i9)])
theorem PA.keep {K : PySem.W.Frag} {H H' : Hp} {b : Addr} {fb fw fs cb : Int} (h : PA K H b fb fw fs cb) (s : Same H H') : PA K H' b fb fw fs cb := by
  obtain ⟨dx, i0, i4, i6, i7, i8, i9, e⟩ := h
  exact ⟨dx, i0, i4, i6, i7, i8, i9, s _ _ e⟩

def adT : PyData → Int
  | .tuple [.str _, .str x] => (x.length : Int) / 10
  | _ => 0
noncomputable def wo (o : Fo) : Int := 2 + 2 * ((nf o.rows).length : Int) + (o.dat.length : Int) + adT o.adr
noncomputable def wt (F : Fd) : Int := 5 + 2 * ((F.spends.length : Int) + (F.looks.length : Int)) + (F.makes.map wo).sum + (F.signers.length : Int) + (F.data.map fun e => (2 : Int) + (e.2.length : Int)).sum + 2 * (((nf F.mint).length : Int) + (F.deeds.length : Int) + (F.draws.length : Int))

theorem wo_k {o : Fo} {i : Int} (e : o.adr = .tuple [.str (Rd.S [107, 101, 121]), .int i]) : wo o = 2 + 2 * ((nf o.rows).length : Int) + (o.dat.length : Int) := by
  unfold wo; rw [e]; show _ + (0 : Int) = _; omega
theorem wo_s {o : Fo} {l : List Nat} (e : o.adr = .tuple [.str (Rd.S [115, 99, 114, 105, 112, 116]), .str (Rd.S l)]) : wo o = 2 + 2 * ((nf o.rows).length : Int) + (o.dat.length : Int) + (l.length : Int) / 10 := by
  unfold wo; rw [e]; show _ + ((Rd.S l).length : Int) / 10 = _; rw [Rd.S_len]
theorem take_sum {α : Type} {R : List α} {f : α → Int} {i : Nat} {e : α} (h : R[i]? = some e) : ((R.take (i + 1)).map f).sum = ((R.take i).map f).sum + f e := by
  rw [take_map h, List.sum_append]; simp

def grown (R : List (Ast × Int)) (c : Int) : List (Ast × Int) := R.map fun e => (e.1, e.2 * c)
theorem grown_nrm {R : List (Ast × Int)} {c : Int} (h : Nrm R) (hc : c ≠ 0) : Nrm (grown R c) := by
  refine ⟨List.pairwise_map.mpr (h.srt.imp fun q => q), ?_, fun e he => ?_⟩
  · have e : (grown R c).map (·.1) = R.map (·.1) := by unfold grown; rw [List.map_map]; rfl
    rw [e]; exact h.nd
  · obtain ⟨f, hf, rfl⟩ := List.mem_map.mp he
    exact fun q => (Int.mul_eq_zero.mp q).elim (h.nz f hf) hc
theorem nf_self {R : List (Ast × Int)} (h : Nrm R) : nf R = R := (nf_is h fun _ => rfl).symm

structure CF_Params (K : PySem.W.Frag) (mg : Str → Option Value) : Prop where
  cls : Cls K (He.ga K "Params")
  m : mg "Params" = some (.ref (He.ga K "Params"))
  mkr : Mk K (He.ga K "Params") (He.fAd K ("Params", some "__init__"))
  n_coin_base : NoAttr K (He.ga K "Params") "coin_base"
  n_deposit : NoAttr K (He.ga K "Params") "deposit"
  n_depth : NoAttr K (He.ga K "Params") "depth"
  n_epoch_length : NoAttr K (He.ga K "Params") "epoch_length"
  n_fee_base : NoAttr K (He.ga K "Params") "fee_base"
  n_fee_step : NoAttr K (He.ga K "Params") "fee_step"
  n_fee_weight : NoAttr K (He.ga K "Params") "fee_weight"
  n_most_steps : NoAttr K (He.ga K "Params") "most_steps"
  n_pledge_rate : NoAttr K (He.ga K "Params") "pledge_rate"
  n_share : NoAttr K (He.ga K "Params") "share"
structure CF_Bundle (K : PySem.W.Frag) (mg : Str → Option Value) : Prop where
  cls : Cls K (He.ga K "Bundle")
  m : mg "Bundle" = some (.ref (He.ga K "Bundle"))
  mkr : Mk K (He.ga K "Bundle") (He.fAd K ("Bundle", some "__init__"))
  mt___iter__ : Meth K (He.ga K "Bundle") "__iter__" (He.fAd K ("Bundle", some "__iter__"))
  n__quantities : NoAttr K (He.ga K "Bundle") "_quantities"
  n_rows : NoAttr K (He.ga K "Bundle") "rows"
structure CF_Output (K : PySem.W.Frag) (mg : Str → Option Value) : Prop where
  cls : Cls K (He.ga K "Output")
  m : mg "Output" = some (.ref (He.ga K "Output"))
  mkr : Mk K (He.ga K "Output") (He.fAd K ("Output", some "__init__"))
  mt_picture : Meth K (He.ga K "Output") "picture" (He.fAd K ("Output", some "picture"))
  n_address : NoAttr K (He.ga K "Output") "address"
  n_bundle : NoAttr K (He.ga K "Output") "bundle"
  n_datum : NoAttr K (He.ga K "Output") "datum"
structure CF_Transaction (K : PySem.W.Frag) (mg : Str → Option Value) : Prop where
  cls : Cls K (He.ga K "Transaction")
  m : mg "Transaction" = some (.ref (He.ga K "Transaction"))
  mkr : Mk K (He.ga K "Transaction") (He.fAd K ("Transaction", some "__init__"))
  mt_picture : Meth K (He.ga K "Transaction") "picture" (He.fAd K ("Transaction", some "picture"))
  n_approved : NoAttr K (He.ga K "Transaction") "approved"
  n_begins : NoAttr K (He.ga K "Transaction") "begins"
  n_data : NoAttr K (He.ga K "Transaction") "data"
  n_deeds : NoAttr K (He.ga K "Transaction") "deeds"
  n_draws : NoAttr K (He.ga K "Transaction") "draws"
  n_ends : NoAttr K (He.ga K "Transaction") "ends"
  n_fee : NoAttr K (He.ga K "Transaction") "fee"
  n_looks : NoAttr K (He.ga K "Transaction") "looks"
  n_makes : NoAttr K (He.ga K "Transaction") "makes"
  n_mint : NoAttr K (He.ga K "Transaction") "mint"
  n_number : NoAttr K (He.ga K "Transaction") "number"
  n_pledge : NoAttr K (He.ga K "Transaction") "pledge"
  n_signers : NoAttr K (He.ga K "Transaction") "signers"
  n_spends : NoAttr K (He.ga K "Transaction") "spends"
def sp_least_coin (P : Program) (w : World) (K : PySem.W.Frag) : Sp := fun vs H Q _ => ∃ (b p : Addr) (o : Fo) (fb fw fs cb : Int), vs = [.ref b, .ref p] ∧ (OutAt P w K H b o) ∧ (PA K H p fb fw fs cb) ∧ (Q (.int (cb + ((nf o.rows).length : Int) + (o.dat.length : Int))) H)
def sp_weight (P : Program) (w : World) (K : PySem.W.Frag) : Sp := fun vs H Q _ => ∃ (t : Addr) (F : Fd), vs = [.ref t] ∧ (TxAt P w K H t F) ∧ (OkF F) ∧ (∀ H', Same H H' → Q (.int (wt F)) H')
def sp_weight_of_output (P : Program) (w : World) (K : PySem.W.Frag) : Sp := fun vs H Q _ => ∃ (b : Addr) (o : Fo), vs = [.ref b] ∧ (OutAt P w K H b o) ∧ (OkO o) ∧ (Q (.int (wo o)) H)
def sp_least_fee (P : Program) (w : World) (K : PySem.W.Frag) : Sp := fun vs H Q _ => ∃ (t p : Addr) (F : Fd) (st fb fw fs cb : Int), vs = [.ref t, .int st, .ref p] ∧ (TxAt P w K H t F) ∧ (OkF F) ∧ (PA K H p fb fw fs cb) ∧ (0 ≤ fw ∧ fw ≤ 1000 ∧ 0 ≤ fs ∧ fs ≤ 1000) ∧ (∀ H', Same H H' → Q (.int (fb + fw * wt F + fs * st / 100)) H')
def sp_Bundle___init (P : Program) (w : World) (K : PySem.W.Frag) : Sp := fun vs H Q _ => ∃ (b dx a : Addr) (xs : List V) (R : List (Ast × Int)), vs = [.ref b, .ref a] ∧ (H b = some (.ins (He.ga K "Bundle") dx [])) ∧ ((SqL K H a xs ∨ SqT K H a xs) ∨ OwnAt K H a xs) ∧ (DpAll K H xs (R.map encR)) ∧ (R.length ≤ 1000) ∧ (∀ H' N, Beside b H H' → Nrm N → (∀ p, tot N p = tot R p) → BdS P w K H' b N → Q .non H')
def sp_Bundle___iter (P : Program) (w : World) (K : PySem.W.Frag) : Sp := fun vs H Q _ => ∃ (b dx d r : Addr) (xs : List V), vs = [.ref b] ∧ (H b = some (.ins (He.ga K "Bundle") dx [("_quantities", .ref d), ("rows", .ref r)])) ∧ (H r = some (.tup xs)) ∧ (∀ it, H it = none → (∀ z o, H z = some o → z < it) → Q (.ref it) (upd H it (TtO r it)))
def sp_Output___init (P : Program) (w : World) (K : PySem.W.Frag) : Sp := fun vs H Q _ => ∃ (b dx a dz : Addr) (u : V) (xs : List V) (o : Fo), vs = [.ref b, u, .ref a, .ref dz] ∧ (H b = some (.ins (He.ga K "Output") dx [])) ∧ (Dp K H u o.adr) ∧ ((SqL K H a xs ∨ SqT K H a xs) ∨ OwnAt K (dl H b) a xs) ∧ (DpAll K H xs (o.rows.map encR)) ∧ (o.rows.length ≤ 1000) ∧ (SqL K H dz (o.dat.map V.int) ∨ SqT K H dz (o.dat.map V.int)) ∧ (∀ H', Beside b H H' → OutAt P w K H' b o → Q .non H')
def sp_Output_picture (P : Program) (w : World) (K : PySem.W.Frag) : Sp := fun vs H Q _ => ∃ (b : Addr) (o : Fo), vs = [.ref b] ∧ (OutAt P w K H b o) ∧ (∀ p H', Same H H' → Dp K H' (.ref p) (encOp o) → Q (.ref p) H')
def sp_Params___init (P : Program) (w : World) (K : PySem.W.Frag) : Sp := fun vs H Q _ => ∃ (b dx : Addr) (j0 j4 j6 j7 j8 j9 : V) (fb fw fs cb : Int), vs = [.ref b, j0, .int fb, .int fw, .int fs, j4, .int cb, j6, j7, j8, j9] ∧ (H b = some (.ins (He.ga K "Params") dx [])) ∧ (∀ H', Beside b H H' → PA K H' b fb fw fs cb → Q .non H')
def sp_Transaction___init (P : Program) (w : World) (K : PySem.W.Frag) : Sp := fun vs H Q _ => ∃ (t dx a1 a2 a3 a4 am a9 a10 a11 a12 : Addr) (F : Fd), vs = [.ref t, .int F.number, .ref a1, .ref a4, .int F.fee, .ref a2, .ref a3, .ref am, .int F.begins, .int F.ends, .ref a9, .ref a10, .ref a11, .ref a12, .bl F.approved] ∧ (H t = some (.ins (He.ga K "Transaction") dx [])) ∧ (TxIn P w K (dl H t) a1 a2 a3 a4 am a9 a10 a11 a12 F) ∧ (OkF F) ∧ (∀ H', Beside t H H' → TxAt P w K H' t F → Q .non H')
def sp_Transaction_picture (P : Program) (w : World) (K : PySem.W.Frag) : Sp := fun vs H Q _ => ∃ (t : Addr) (F : Fd), vs = [.ref t] ∧ (TxAt P w K H t F) ∧ (OkF F) ∧ (∀ p H', Same H H' → Dp K H' (.ref p) (picD F) → Q (.ref p) H')
def sp_law_cell (P : Program) (w : World) (K : PySem.W.Frag) : Sp := fun vs H Q _ => ∃ (a : Addr) (ns : List Int) (i : Int), vs = [.ref a, .int i] ∧ (SqL K H a (ns.map V.int)) ∧ (0 ≤ i) ∧ (∀ z, Q (.int z) H)
def sp_law_numbers (P : Program) (w : World) (K : PySem.W.Frag) : Sp := fun vs H Q _ => ∃ (c m : Int), vs = [.int c, .int m] ∧ (0 ≤ m ∧ m ≤ 1000) ∧ (∀ p (nums : List Int) H', Same H H' → H p = none → H' p = some (.lst (nums.map V.int)) → nums.length = m.toNat → B3 nums → Q (.ref p) H')
def sp_law_stream (P : Program) (w : World) (K : PySem.W.Frag) : Sp := fun vs H Q _ => ∃ (a : Addr) (ns : List Int) (k m : Int), vs = [.ref a, .int k, .int m] ∧ (SqL K H a (ns.map V.int)) ∧ (0 ≤ k) ∧ (0 ≤ m ∧ m ≤ 1000) ∧ (∀ p (nums : List Int) H', Same H H' → H p = none → H' p = some (.lst (nums.map V.int)) → nums.length = m.toNat → B3 nums → Q (.ref p) H')
def sp_law_between (P : Program) (w : World) (K : PySem.W.Frag) : Sp := fun vs H Q _ => ∃ (b : Addr) (ns : List Int) (i lo hi : Int), vs = [.ref b, .int i, .int lo, .int hi] ∧ (H b = some (.lst (ns.map V.int))) ∧ (B3 ns) ∧ (0 < ns.length ∧ ns.length ≤ 1000) ∧ (lo ≤ hi) ∧ (∀ z H', Same H H' → lo ≤ z ∧ z ≤ hi → Q (.int z) H')
def sp_law_char (P : Program) (w : World) (K : PySem.W.Frag) : Sp := fun vs H Q _ => ∃ (i : Int), vs = [.int i] ∧ (∀ c : Nat, c < 1000 → Q (.str (Rd.S [c])) H)
def sp_law_text (P : Program) (w : World) (K : PySem.W.Frag) : Sp := fun vs H Q _ => ∃ (b : Addr) (ns : List Int) (i j : Int), vs = [.ref b, .int i, .int j] ∧ (H b = some (.lst (ns.map V.int))) ∧ (B3 ns) ∧ (0 < ns.length ∧ ns.length ≤ 1000) ∧ (0 ≤ j ∧ j ≤ 1000) ∧ (∀ l : List Nat, (∀ c ∈ l, c < 1000) → l.length ≤ 3000 → Q (.str (Rd.S l)) H)
def sp_law_same (P : Program) (w : World) (K : PySem.W.Frag) (turns : Nat) : Sp := fun vs H Q _ => ∃ (x y : V) (d : PyData), vs = [x, y] ∧ (Dp K H x d) ∧ (Dp K H y d) ∧ (nl d = true) ∧ (sm d = true) ∧ (PyData.depth d < turns) ∧ (Q (.bl true) H)
def sp_law_normal (P : Program) (w : World) (K : PySem.W.Frag) : Sp := fun vs H Q _ => ∃ (a : Addr) (xs : List V) (R : List (Ast × Int)), vs = [.ref a] ∧ (SqL K H a xs) ∧ (DpAll K H xs (R.map encR)) ∧ (OkR R) ∧ (R.length ≤ 400) ∧ (∀ p ys N H', Same H H' → H p = none → H' p = some (.tup ys) → DpAll K H' ys (N.map encR) → Nrm N → (∀ x, tot N x = tot R x) → Q (.ref p) H')
def sp_law_integer (P : Program) (w : World) (K : PySem.W.Frag) : Sp := fun vs H Q _ => ∃ (b : Addr) (ns : List Int) (i : Int), vs = [.ref b, .int i] ∧ (H b = some (.lst (ns.map V.int))) ∧ (B3 ns) ∧ (0 < ns.length ∧ ns.length ≤ 1000) ∧ (∀ z H', Same H H' → Q (.int z) H')
def sp_law_reference (P : Program) (w : World) (K : PySem.W.Frag) : Sp := fun vs H Q _ => ∃ (b : Addr) (ns : List Int) (i : Int), vs = [.ref b, .int i] ∧ (H b = some (.lst (ns.map V.int))) ∧ (B3 ns) ∧ (0 < ns.length ∧ ns.length ≤ 1000) ∧ (∀ z (x y : Int) H', Same H H' → H z = none → H' z = some (.tup [.int x, .int y]) → Q (.ref z) H')
def sp_law_any_text (P : Program) (w : World) (K : PySem.W.Frag) : Sp := fun vs H Q _ => ∃ (b : Addr) (ns : List Int) (i : Int), vs = [.ref b, .int i] ∧ (H b = some (.lst (ns.map V.int))) ∧ (B3 ns) ∧ (0 < ns.length ∧ ns.length ≤ 1000) ∧ (∀ l : List Nat, (∀ c ∈ l, c < 1000) → l.length ≤ 3000 → Q (.str (Rd.S l)) H)
def sp_law_any_asset (P : Program) (w : World) (K : PySem.W.Frag) : Sp := fun vs H Q _ => ∃ (b : Addr) (ns : List Int) (i : Int), vs = [.ref b, .int i] ∧ (H b = some (.lst (ns.map V.int))) ∧ (B3 ns) ∧ (0 < ns.length ∧ ns.length ≤ 1000) ∧ (∀ p (x : Ast) H', Same H H' → H p = none → H' p = some (.tup [.str x.1, .int x.2]) → OkA x → Q (.ref p) H')
def sp_law_any_rows (P : Program) (w : World) (K : PySem.W.Frag) : Sp := fun vs H Q _ => ∃ (b : Addr) (ns : List Int) (i m : Int), vs = [.ref b, .int i, .int m] ∧ (H b = some (.lst (ns.map V.int))) ∧ (B3 ns) ∧ (0 < ns.length ∧ ns.length ≤ 1000) ∧ (0 ≤ m ∧ m ≤ 24) ∧ (∀ z xs R H', Same H H' → H z = none → H' z = some (.lst xs) → DpAll K H' xs (R.map encR) → OkR R → R.length = m.toNat → Q (.ref z) H')
def sp_law_any_output (P : Program) (w : World) (K : PySem.W.Frag) : Sp := fun vs H Q _ => ∃ (b : Addr) (ns : List Int), vs = [.ref b] ∧ (H b = some (.lst (ns.map V.int))) ∧ (B3 ns) ∧ (0 < ns.length ∧ ns.length ≤ 1000) ∧ (3 ≤ ns.length) ∧ (∀ z o H', Same H H' → Dp K H' (.ref z) (encO o) → OkO o → FrD K H H' (.ref z) (encO o) → Q (.ref z) H')
def sp_law_any_purpose (P : Program) (w : World) (K : PySem.W.Frag) : Sp := fun vs H Q _ => ∃ (b : Addr) (ns : List Int) (i : Int), vs = [.ref b, .int i] ∧ (H b = some (.lst (ns.map V.int))) ∧ (B3 ns) ∧ (0 < ns.length ∧ ns.length ≤ 1000) ∧ (∀ z d H', Same H H' → Dp K H' (.ref z) d → OkD 4 d → Q (.ref z) H')
def sp_law_any_pair (P : Program) (w : World) (K : PySem.W.Frag) : Sp := fun vs H Q _ => ∃ (b : Addr) (ns : List Int) (i : Int), vs = [.ref b, .int i] ∧ (H b = some (.lst (ns.map V.int))) ∧ (B3 ns) ∧ (0 < ns.length ∧ ns.length ≤ 1000) ∧ (∀ z d H', Same H H' → Dp K H' (.ref z) d → OkD 4 d → DdK d → Q (.ref z) H')
def sp_law_any_fields (P : Program) (w : World) (K : PySem.W.Frag) : Sp := fun vs H Q _ => ∃ (a : Addr) (ns : List Int) (i : Int), vs = [.ref a, .int i] ∧ (SqL K H a (ns.map V.int)) ∧ (0 ≤ i ∧ i ≤ 1000) ∧ (∀ f F H', Same H H' → H f = none → FdAt K H' f fnames (encF F) → OkF F → Q (.ref f) H')
def sp_law_picture (P : Program) (w : World) (K : PySem.W.Frag) : Sp := fun vs H Q _ => ∃ (f : Addr) (F : Fd), vs = [.ref f] ∧ (FdAt K H f fnames (encF F)) ∧ (OkF F) ∧ (∀ p H', Same H H' → Dp K H' (.ref p) (picD F) → Q (.ref p) H')
def sp_law_make (P : Program) (w : World) (K : PySem.W.Frag) : Sp := fun vs H Q _ => ∃ (f : Addr) (F : Fd), vs = [.ref f] ∧ (FdAt K H f fnames (encF F)) ∧ (OkF F) ∧ (∀ t H', Same H H' → H t = none → TxAt P w K H' t F → Q (.ref t) H')
def sp_law_params (P : Program) (w : World) (K : PySem.W.Frag) : Sp := fun vs H Q _ => ∃ (b : Addr) (ns : List Int), vs = [.ref b] ∧ (H b = some (.lst (ns.map V.int))) ∧ (B3 ns) ∧ (0 < ns.length ∧ ns.length ≤ 1000) ∧ (∀ p v0 v1 v2 v3 H', Same H H' → H p = none → H' p = some (.lst [.int v0, .int v1, .int v2, .int v3]) → (0 ≤ v0 ∧ v0 ≤ 1000 ∧ 0 ≤ v1 ∧ v1 ≤ 1000 ∧ 0 ≤ v2 ∧ v2 ≤ 1000 ∧ 0 ≤ v3 ∧ v3 ≤ 1000) → Q (.ref p) H')
def sp_law_made_params (P : Program) (w : World) (K : PySem.W.Frag) : Sp := fun vs H Q _ => ∃ (a : Addr) (v0 v1 v2 v3 : Int), vs = [.ref a] ∧ (SqL K H a [.int v0, .int v1, .int v2, .int v3]) ∧ (∀ b H', Same H H' → PA K H' b v0 v1 v2 v3 → Q (.ref b) H')
def sp_law_weight (P : Program) (w : World) (K : PySem.W.Frag) : Sp := fun vs H Q _ => ∃ (f : Addr) (F : Fd), vs = [.ref f] ∧ (FdAt K H f fnames (encF F)) ∧ (OkF F) ∧ (∀ H', Same H H' → Q (.int (wt F)) H')
def sp_law_grown (P : Program) (w : World) (K : PySem.W.Frag) : Sp := fun vs H Q _ => ∃ (a : Addr) (xs : List V) (R : List (Ast × Int)) (c : Int), vs = [.ref a, .int c] ∧ (SqL K H a xs) ∧ (DpAll K H xs (R.map encR)) ∧ (OkR R) ∧ (R.length ≤ 24) ∧ (-100 ≤ c ∧ c ≤ 100) ∧ (∀ z ys H', Same H H' → H z = none → H' z = some (.lst ys) → DpAll K H' ys ((grown (nf R) c).map encR) → Q (.ref z) H')
def sp_law_changed (P : Program) (w : World) (K : PySem.W.Frag) : Sp := fun vs H Q _ => ∃ (f b : Addr) (F : Fd) (ns : List Int), vs = [.ref f, .ref b] ∧ (FdAt K H f fnames (encF F)) ∧ (OkF F) ∧ (H b = some (.lst (ns.map V.int))) ∧ (B3 ns) ∧ (ns.length = 60) ∧ (∀ g F' H', Same H H' → H g = none → FdAt K H' g fnames (encF F') → OkF F' → wt F' = wt F → Q (.ref g) H')
def sp_law (P : Program) (w : World) (K : PySem.W.Frag) : Sp := fun vs H Q _ => ∃ (a : Addr) (ns : List Int), vs = [.ref a] ∧ (SqL K H a (ns.map V.int)) ∧ (ns.length ≤ 63) ∧ (∀ H', Q (.bl true) H')
local macro_rules | `(tactic| walk_at "cnd") => `(tactic| first
  | ((with_reducible show CMul _ _); first | (exact Or.inl (And.intro (by omega) (by omega))) | (exact Or.inr (And.intro (by omega) (by omega))))
  | ((with_reducible show CDiv _ _); exact And.intro (by omega) (by omega))
  | ((with_reducible show CPow _ _); exact And.intro (by omega) (And.intro (by omega) (by omega)))
  | ((with_reducible show Rd.CDivX _ _); exact Rd.cdivX' (by omega) (by omega))
  | ((with_reducible show (_ : Int) < _); omega)
  | ((with_reducible show (_ : Int) ≠ _); omega))
local macro_rules | `(tactic| walk_at "rd1") => `(tactic| first
  | (with_reducible refine Rd.seq ?_)
  | (with_reducible refine Rd.asg ?_)
  | (with_reducible refine Rd.opIsN ?_)
  | (with_reducible refine Rd.opNotN ?_)
  | (with_reducible refine Rd.opAddS ?_)
  | (with_reducible refine Rd.opInS ?_)
  | (with_reducible refine Rd.op ?_)
  | (with_reducible refine Rd.cst ?_)
  | ((with_reducible show tVar _ _ _ _); refine Rd.var rfl ?_)
  | (with_reducible refine Rd.cons ?_)
  | (with_reducible refine Rd.nil ?_)
  | (with_reducible refine Rd.opI0 ?_)
  | ((with_reducible show rI CPow _ (V.int 10) (V.int _) _ _); refine Rd.pw (z := 1000000000000000) ⟨by decide, by decide, by decide⟩ (by decide) ?_)
  | ((with_reducible show rI CPow _ (V.int 10) (V.int _) _ _); refine Rd.pw (z := 1000000000000000000) ⟨by decide, by decide, by decide⟩ (by decide) ?_)
  | ((with_reducible show rI CPow _ (V.int 10) (V.int _) _ _); refine Rd.pw (z := 1000000000) ⟨by decide, by decide, by decide⟩ (by decide) ?_)
  | ((with_reducible show rI CPow _ (V.int 10) (V.int _) _ _); refine Rd.pw (z := 1000000) ⟨by decide, by decide, by decide⟩ (by decide) ?_)
  | ((with_reducible show rI CPow _ (V.int 10) (V.int _) _ _); refine Rd.pw (z := 10000000000000000000000000000000000000000) ⟨by decide, by decide, by decide⟩ (by decide) ?_)
  | ((with_reducible refine Rd.opI ?_ ?_); (first | walk_at "cnd" | skip))
  | (with_reducible refine Rd.ret ?_)
  | (with_reducible refine Rd.ifS ?_)
  | (with_reducible refine Rd.tst ?_)
  | (with_reducible refine Rd.tB_ ?_)
  | (with_reducible refine Rd.bl ?_)
  | (with_reducible refine Rd.eqI ?_)
  | (with_reducible refine Rd.eqS' ?_)
  | (with_reducible refine Rd.eqS ?_)
  | (with_reducible refine Rd.eqB ?_)
  | (with_reducible refine Rd.neI ?_)
  | (with_reducible refine Rd.neS' ?_)
  | (with_reducible refine Rd.neS ?_)
  | (with_reducible refine Rd.neB ?_)
  | (with_reducible refine Rd.callN ?_)
  | (with_reducible refine Rd.cbLen ?_)
  | (with_reducible refine Rd.cbLenS ?_)
  | (with_reducible refine Rd.cbInt ?_)
  | (with_reducible refine Rd.cbIntS ?_)
  | (with_reducible refine Rd.cbAbs ?_)
  | (with_reducible refine Rd.cbStrI ?_)
  | (with_reducible refine Rd.cbLst ?_)
  | (with_reducible refine Rd.cbTup ?_)
  | (with_reducible refine Rd.cbMax2 ?_)
  | (with_reducible refine Rd.cbMin2 ?_)
  | (with_reducible refine Rd.cb ?_)
  | (with_reducible refine Rd.isN' ?_)
  | (with_reducible refine Rd.notN' ?_)
  | (with_reducible refine Rd.intB ?_)
  | (with_reducible refine Rd.max2 (fun _ _ _ _ => ?_))
  | (with_reducible refine Rd.min2 (fun _ _ _ _ => ?_))
  | (with_reducible refine Rd.int1 ?_)
  | (with_reducible refine Rd.abs1 (fun _ _ _ => ?_))
  | (with_reducible refine Rd.un ?_)
  | (with_reducible refine Rd.opU ?_)
  | (with_reducible refine Rd.tup ?_)
  | (with_reducible refine Rd.lst ?_)
  | (with_reducible refine Rd.len (Nat.le_of_ble_eq_true rfl) (fun _ _ => ?_))
  | (with_reducible refine Rd.next ?_)
  | (with_reducible refine Rd.chain ?_)
  | (with_reducible refine Rd.andV ?_)
  | (with_reducible refine Rd.orV ?_)
  | (with_reducible refine Rd.notV ?_)
  | (with_reducible refine Rd.and_ ?_)
  | (with_reducible refine Rd.or_ ?_)
  | (with_reducible refine Rd.not_ ?_)
  | (with_reducible refine Rd.ifE ?_)
  | (with_reducible refine Rd.iteT ?_)
  | (with_reducible refine Rd.iteF ?_)
  | (with_reducible refine Rd.iteD (fun _ => ?_) (fun _ => ?_))
  | (with_reducible refine Rd.iteN (fun _ => ?_) (fun _ => ?_))
  | (with_reducible refine Rd.drop ?_)
  | (with_reducible refine Rd.app ?_)
  | ((with_reducible refine Rd.tyL (xs := ?xs) ?h ?_); (case h => walk_at "hq"))
  | ((with_reducible refine Rd.appd (xs := ?xs) ?h ?z ?_); (case h => walk_at "hq"); (case z => walk_at "sz"))
  | ((with_reducible refine Rd.setL (xs := ?xs) (j := ?j) ?h ?e ?_); (case h => walk_at "hq"); (case e => rfl))
  | ((with_reducible refine Rd.lenL (ys := ?ys) ?h rfl ?_); (case h => walk_at "hp"))
  | ((with_reducible refine Rd.lenT (ys := ?ys) ?h rfl ?_); (case h => walk_at "hp"))
  | ((with_reducible refine Rd.ixL (xs := ?xs) (v := ?v) ?h ?a ?_); (case h => walk_at "hp"); (case a => walk_at "ix"))
  | ((with_reducible refine Rd.ixT (xs := ?xs) (v := ?v) ?h ?a ?_); (case h => walk_at "hp"); (case a => walk_at "ix"))
  | ((with_reducible refine Rd.isiI (r := ?r) ?e ?_); (case e => first | exact Rd.kb_int_int | exact Rd.kb_int_bool | exact Rd.kb_int_str | exact Rd.kb_int_tuple | exact Rd.kb_int_list | exact Rd.kb_int_dict))
  | ((with_reducible refine Rd.isiB (r := ?r) ?e ?_); (case e => first | exact Rd.kb_bool_int | exact Rd.kb_bool_bool | exact Rd.kb_bool_str | exact Rd.kb_bool_tuple | exact Rd.kb_bool_list | exact Rd.kb_bool_dict))
  | ((with_reducible refine Rd.isiS (r := ?r) ?e ?_); (case e => first | exact Rd.kb_str_int | exact Rd.kb_str_bool | exact Rd.kb_str_str | exact Rd.kb_str_tuple | exact Rd.kb_str_list | exact Rd.kb_str_dict))
  | ((with_reducible refine Rd.isiN (r := ?r) ?e ?_); (case e => first | exact Rd.kb_NoneType_int | exact Rd.kb_NoneType_bool | exact Rd.kb_NoneType_str | exact Rd.kb_NoneType_tuple | exact Rd.kb_NoneType_list | exact Rd.kb_NoneType_dict))
  | ((with_reducible refine Rd.isiT (xs := ?xs) (r := ?r) ?h ?e ?_); (case h => walk_at "hp"); (case e => first | exact Rd.kb_tuple_int | exact Rd.kb_tuple_bool | exact Rd.kb_tuple_str | exact Rd.kb_tuple_tuple | exact Rd.kb_tuple_list | exact Rd.kb_tuple_dict))
  | ((with_reducible refine Rd.isiL (xs := ?xs) (r := ?r) ?h ?e ?_); (case h => walk_at "hp"); (case e => first | exact Rd.kb_list_int | exact Rd.kb_list_bool | exact Rd.kb_list_str | exact Rd.kb_list_tuple | exact Rd.kb_list_list | exact Rd.kb_list_dict))
  | (with_reducible refine Rd.iteNT ?_)
  | (with_reducible refine Rd.iteNF ?_)
  | (with_reducible refine Rd.iteB (fun _ => ?_) (fun _ => ?_))
  | (with_reducible refine Rd.asgS ?_)
  | (with_reducible refine Rd.for_ ?_)
  | (with_reducible refine Rd.iR1 ?_)
  | (with_reducible refine Rd.iR2 ?_)
  | (with_reducible refine Rd.iL ?_)
  | (with_reducible refine Rd.iT ?_)
  | (with_reducible refine Rd.lc_ ?_)
  | (with_reducible refine Rd.brk ?_)
  | (with_reducible refine Rd.cont ?_)
  | (with_reducible refine Rd.retN ?_)
  | (with_reducible refine Rd.sl ?_)
  | ((with_reducible show tAug _ _ _ _ _ _); refine Rd.aug rfl ?_)
  | (with_reducible refine Rd.augI ?_)
  | (with_reducible refine Rd.inS ?_)
  | (with_reducible refine Rd.bm0 ?_)
  | (with_reducible refine Rd.revL ?_)
  | ((with_reducible refine Rd.slL' (xs := ?xs) ?h (fun _ _ => ?_)); (case h => walk_at "hp"))
  | ((with_reducible refine Rd.revL' (xs := ?xs) ?h (fun _ _ => ?_)); (case h => walk_at "hp"))
  | ((with_reducible refine Rd.catL (xs := ?xs) (ys := ?ys) ?a ?b ?z (fun _ _ => ?_)); (case a => walk_at "hq"); (case b => walk_at "hq"); (case z => walk_at "sz"))
  | (with_reducible refine Rd.nopart ?_)
  | (with_reducible refine Rd.part ?_)
  | (with_reducible refine Rd.part' ?_)
  | (with_reducible refine Rd.whlN ?_)
  | ((with_reducible refine Rd.addS' ?h ?_); (case h => walk_at "tz"))
  | ((with_reducible refine Rd.lenS' ?h ?_); (case h => walk_at "tz"))
  | ((with_reducible refine Rd.mulS1 ?h ?_); (case h => omega))
  | ((with_reducible refine Rd.ixS (c := ?c) ?h ?a ?_); (case h => walk_at "tz"); (case a => walk_at "ixs"))
  | walk_at "use")
local macro_rules | `(tactic| walk_at "sz") => `(tactic| first
  | (simp only [List.length_map, List.length_append, List.length_cons, List.length_nil]; omega)
  | omega | decide)
local macro_rules | `(tactic| walk_at "tz") => `(tactic| first
  | omega
  | (simp only [List.length_append, List.length_cons, List.length_nil, List.length_replicate]; omega)
  | decide)
local macro_rules | `(tactic| walk_at "ixs") => `(tactic| first
  | assumption
  | ((with_reducible show atI (_ :: _) _ = _); (first | rfl | exact Rd.atI_of (by decide) rfl)))
local macro_rules | `(tactic| walk_at "ix") => `(tactic| first
  | (with_reducible refine Rd.atI_ints ?_ ?_ <;> omega)
  | ((with_reducible show atI (_ :: _) _ = _); (first | rfl | exact Rd.atI_of (by decide) rfl))
  | ((with_reducible show atI (List.set (_ :: _) _ _) _ = _); rfl))
local macro_rules | `(tactic| walk_at "rd") => `(tactic| repeat' (walk_at "rd1"))
local macro_rules | `(tactic| walk_at "sm") => `(tactic| first
  | (with_reducible exact Same.refl _)
  | assumption
  | ((with_reducible refine Same.trans ?_ (Rd.same_new ‹_›)); walk_at "sm")
  | ((with_reducible refine Same.trans ?_ ‹Same _ _›); walk_at "sm"))

local macro_rules | `(tactic| walk_at "rj") => `(tactic| repeat' ((fail_if_success (with_reducible show tSeq (tIfS _ _ _) _ _ _ _)); walk_at "rd1"))


local macro_rules | `(tactic| walk_at "pre") => `(tactic| first | assumption | (walk_at "hp") | ((with_reducible refine Dj.dpS (H := ?H0) ?h ?s); (case h => assumption); (case s => walk_at "sm")) | ((with_reducible refine Dj.dpS1 (H := ?H0) ?h ?s); (case h => assumption); (case s => walk_at "sm")) | omega | (constructor <;> omega) | decide | (simp only [List.length_map]; omega) | (simp only [List.length_cons, List.length_nil]; omega) | (exact Rd.slT) | (exact Rd.slL) | fail)
local macro_rules | `(tactic| walk_at "cnd") => `(tactic| first | (simp only [List.length_map]; omega) | (constructor <;> omega) | fail)
local macro_rules | `(tactic| walk_at "rd1") => `(tactic| first
  | ((with_reducible refine Dj.ixB (ns := ?ns) ?h ?b ?lo ?hi (fun _ _ _ => ?_)); (case h => walk_at "hp"); (case b => assumption); (case lo => omega); (case hi => first | omega | (simp only [List.length_map] at *; omega)))
  | ((with_reducible refine Dj.ixBm (ns := ?ns) ?h ?b ?lo (fun _ _ _ => ?_)); (case h => walk_at "hp"); (case b => assumption); (case lo => omega))
  | ((with_reducible refine Dj.lenI (ns := ?ns) ?h rfl ?_); (case h => walk_at "hp"))
  | (with_reducible refine Dj.gN ?_)
  | (with_reducible refine Re.meth ?_)
  | (with_reducible refine Re.prop ?_)
  | (with_reducible refine Re.stat ?_)
  | (with_reducible refine Rb.make ?_)
  | (with_reducible refine Re.statC ?_ rfl)
  | ((with_reducible refine Re.methB (P := ?P) (w := ?w) (N := ?N) ?h ?n ?_); (case h => walk_at "pre"); (case n => decide))
  | ((with_reducible refine Re.propB (P := ?P) (w := ?w) (N := ?N) ?h ?_); (case h => walk_at "pre"))
  | ((with_reducible refine Re.own2B (P := ?P) (w := ?w) (N := ?N) (M := ?M) ?h ?h' ?_); (case h => walk_at "pre"); (case h' => walk_at "pre"))
  | ((with_reducible refine Re.own1B (P := ?P) (w := ?w) (N := ?N) ?h ?_); (case h => walk_at "pre"))
  | ((with_reducible refine Re.rowsB (P := ?P) (w := ?w) (N := ?N) ?h ?c ?n (fun _ _ _ _ => ?_)); (case h => walk_at "pre"); (case c => assumption); (case n => assumption))
  | ((with_reducible refine Re.inOwnB (P := ?P) (w := ?w) (N := ?N) ?h ?_); (case h => walk_at "pre"))
  | ((with_reducible refine Re.boolOwnB (P := ?P) (w := ?w) (N := ?N) ?h ?_); (case h => walk_at "pre"))
  | ((with_reducible refine Re.neAst (x := ?x) (y := ?y) (i := ?i) (j := ?j) ?h1 ?h2 ?o1 ?o2 ?_); (case h1 => walk_at "hp"); (case h2 => walk_at "hp"); (case o1 => walk_at "oka"); (case o2 => walk_at "oka"))
  | ((with_reducible refine Re.eqAst (x := ?x) (y := ?y) (i := ?i) (j := ?j) ?h1 ?h2 ?o1 ?o2 ?_); (case h1 => walk_at "hp"); (case h2 => walk_at "hp"); (case o1 => walk_at "oka"); (case o2 => walk_at "oka"))
  | ((with_reducible show wipe _ _ = wipe _ _ ∧ _); refine ⟨rfl, ?_⟩)
  | ((with_reducible refine Re.fldK (C := ?C) (dx := ?dx) (fs := ?fs) (v := ?v) ?h ?c ?n ?l ?_); (case h => walk_at "hq"); (case c => assumption); (case n => assumption); (case l => rfl))
  | ((with_reducible refine Re.methI (dx := ?dx) (fs := ?fs) ?h ?l ?_); (case h => walk_at "hq"); (case l => rfl))
  | ((with_reducible refine Re.propI (dx := ?dx) (fs := ?fs) ?h ?_); (case h => walk_at "hq"))
  | (with_reducible refine Rb.fld ?_)
  | ((with_reducible refine Dj.fldK (C := ?C) (dx := ?dx) (fs := ?fs) (v := ?v) ?h ?c ?n ?l ?_); (case h => walk_at "hq"); (case c => assumption); (case n => assumption); (case l => rfl))
  | ((with_reducible refine Rd.lstL (ys := ?ys) ?h (fun _ _ => ?_)); (case h => walk_at "hp"))
  | ((with_reducible refine Rd.lstT (ys := ?ys) ?h (fun _ _ => ?_)); (case h => walk_at "hp"))
  | ((with_reducible refine Rd.tupL (ys := ?ys) ?h (fun _ _ => ?_)); (case h => walk_at "hp"))
  | ((with_reducible refine Rd.tupT (ys := ?ys) ?h ?_); (case h => walk_at "hp"))
  | ((with_reducible show tAsg _ (gTup _ _ _) _ _ _); (with_reducible refine Rb.asgG ?_))
  | ((with_reducible refine Dj.pair_of (x := ?x) (y := ?y) ?h ?_); (case h => walk_at "hp"))
  | ((with_reducible refine Dj.iteDt ?h ?_); (case h => walk_at "ar"))
  | ((with_reducible refine Dj.iteDf ?h ?_); (case h => walk_at "ar"))
  | ((with_reducible refine Dj.iteNt ?h ?_); (case h => walk_at "ar"))
  | ((with_reducible refine Dj.iteNf ?h ?_); (case h => walk_at "ar"))
  | fail)
local macro_rules | `(tactic| walk_at "ar") => `(tactic| first | omega | (simp only [List.length_cons, List.length_nil, List.length_map]; omega) | fail)
local macro_rules | `(tactic| walk_at "dead") => `(tactic| first | contradiction | (exfalso; omega) | (exfalso; simp only [List.length_cons, List.length_nil, List.length_map] at *; omega) | fail)
local macro_rules | `(tactic| walk_at "ix") => `(tactic| first | assumption | fail)
local macro_rules | `(tactic| walk_at "hq") => `(tactic| first
  | assumption
  | (with_reducible exact upd_same)
  | ((first
      | (with_reducible refine Rd.nh (by assumption) ?_)
      | (with_reducible refine Rd.uh (by assumption) ?_)
      | ((with_reducible refine Dj.sat (H0 := ?H0) ?s ?_); (case s => assumption))); walk_at "hq")
  | fail)
local macro_rules | `(tactic| walk_at "hp1") => `(tactic| first
  | (with_reducible refine Rd.nl (by assumption) ?_)
  | (with_reducible refine Rd.nt (by assumption) ?_)
  | (with_reducible refine Rd.ul (by assumption) ?_)
  | (with_reducible refine Rd.ut (by assumption) ?_)
  | ((with_reducible refine Dj.satL (H0 := ?H0) ?s ?_); (case s => assumption))
  | ((with_reducible refine Dj.satT (H0 := ?H0) ?s ?_); (case s => assumption))
  | fail)
local macro_rules | `(tactic| walk_at "hpr") => `(tactic| first
  | assumption
  | (with_reducible exact Rd.slL)
  | (with_reducible exact Rd.slT)
  | (walk_at "hp1"; walk_at "hpr")
  | fail)
local macro_rules | `(tactic| walk_at "hp") => `(tactic| first
  | walk_at "hpr"
  | ((first | (with_reducible refine SqL.of ?_) | (with_reducible refine SqT.of ?_)); walk_at "hq")
  | walk_at "hq"
  | fail)

local macro_rules | `(tactic| walk_at "pre") => `(tactic| first | ((with_reducible refine Es.BdS.keep (H := ?H0) ?h ?s); (case h => assumption); (case s => walk_at "sm")) | fail)
local macro_rules | `(tactic| walk_at "oka") => `(tactic| first | assumption | exact (show Bd.OkA coinA by unfold Bd.OkA coinA; decide +kernel) | fail)
local macro_rules | `(tactic| walk_at "hpr") => `(tactic| first | (with_reducible exact (‹∀ H : Hp, SqT _ H _ _› _)) | fail)


theorem mkB {P : Program} {w : World} {K : PySem.W.Frag} {H1 : Hp} {Pv : Addr → Hp → Prop} {E : XK} {a : Addr} {xs : List V} {R : List (Ast × Int)} (h : (SqL K H1 a xs ∨ SqT K H1 a xs) ∨ OwnAt K H1 a xs) (hR : DpAll K H1 xs (R.map encR)) (hl : R.length ≤ 1000)
    (k : ∀ H' c N, Same H1 H' → H1 c = none → Nrm N → (∀ p, tot N p = tot R p) → BdS P w K H' c N → Pv c H') :
    ∀ x dx, H1 x = none → H1 dx = none → dx ≠ x → sp_Bundle___init P w K (.ref x :: ([.ref a] ++ [])) (upd (upd H1 dx (.own x)) x (.ins (He.ga K "Bundle") dx [])) (fun v H2 => v = .non ∧ Pv x H2) E := fun x dx hx hd ne => by
  have s1 : Same H1 (upd (upd H1 dx (.own x)) x (.ins (He.ga K "Bundle") dx [])) := fun b o e => by
    rw [upd_ne (ne_of_none e hx), upd_ne (ne_of_none e hd)]; exact e
  refine ⟨x, dx, a, xs, R, rfl, upd_same, h.elim (fun z => .inl (z.elim (fun z => .inl (s1.seq z)) (fun z => .inr (Rd.same_tup s1 z)))) (fun z => .inr (z.keep s1)), dpAll_same s1 hR, hl, fun H' N kp nm tt bd => ⟨rfl, k H' x N (fun b o e => kp b o (ne_of_none e hx) (s1 b o e)) hx nm tt bd⟩⟩

local macro_rules | `(tactic| walk_at "rd1") => `(tactic| first
  | ((with_reducible show rI CPow _ (V.int 10) (V.int _) _ _); refine Rd.pw (z := 1000000000000000000000000000000000) ⟨by decide, by decide, by decide⟩ (by decide) ?_)
  | ((with_reducible refine Ef.ixLt (n := 25) (ns := ?ns) ?h ?b ?lo ?hi (fun _ _ _ => ?_)); (case h => walk_at "hp"); (case b => assumption); (case lo => omega); (case hi => omega))
  | ((with_reducible refine Ef.slFrom (ns := ?ns) ?h ?k (fun _ _ => ?_)); (case h => walk_at "hp"); (case k => omega))
  | (with_reducible refine Ef.disp (fun _ _ => ?_))
  | (with_reducible refine Ef.pairS ?_)
  | (with_reducible refine Ef.pairN ?_)
  | (with_reducible refine Ef.dgetS ?_)
  | fail)

theorem forAny {P : Program} {w : World} {K : PySem.W.Frag} {σ : L2.St} {H H0 : Hp} {nn : Nat} {E : XK} {a : Addr} {xs : List V} {g : TG} {tb : TS} {n b c : L2.St → Hp → Prop} {r : VK} (Pv : Nat → L2.St → Hp → Prop) (hv : σ[1]? = some (some (.ref a))) (h : (SqL K H0 a xs ∨ SqT K H0 a xs) ∨ OwnAt K H0 a xs) (e0 : Same H0 H) (hn : ∃ z o, H z = some o ∧ nn ≤ z) (h0 : Pv 0 σ H)
    (hl : ∀ i σ H', i ≤ xs.length → Pv i σ H' → Same H0 H') (hs : ∀ (i : Nat) (x : V) (σ' : L2.St) (H' : Hp), xs[i]? = some x → Pv i σ' H' → g x σ' H' fun σ2 H2 => tb ⟨Pv (i + 1), r, n, Pv (i + 1)⟩ σ2 H2)
    (hd : ∀ σ' H', Pv xs.length σ' H' → n σ' H') : tFor (Bd.iAny K nn (He.ga K "Bundle") (sp_Bundle___iter P w K) E (tVar 1)) g tb ⟨n, r, b, c⟩ σ H := by
  rcases h with h | ⟨dx, d, t, h1, h2⟩
  · exact .inl (Rb.forLt Pv hv h e0 h0 hl hs hd)
  · obtain ⟨z, o, hz, hzn⟩ := hn
    refine .inr ⟨.ref a, hv, a, dx, _, rfl, e0 _ _ h1, ⟨a, dx, d, t, xs, rfl, e0 _ _ h1, e0 _ _ h2, fun it hit hlt => ?_⟩⟩
    refine ⟨it, t, xs, rfl, Nat.le_trans hzn (Nat.le_of_lt (hlt z o hz)), upd_same, SqT.of (Rd.same_new hit _ _ (e0 _ _ h2)), ?_⟩
    rw [ItX.dropH_upd hit]
    exact for_tup Pv h0 (fun i σ' H' hi p => SqT.of (hl i σ' H' hi p _ _ h2)) hs hd

/-- the __init__ of Transaction as it stands in the written part -/
structure CalT (P : Program) (w : World) (K : PySem.W.Frag) (mg : Str → Option Value) (base : Heap) : Prop where
  ex : ∃ fd, FunD K "__init__" "Transaction.__init__" (defArgs s_Transaction___init) (defBody s_Transaction___init) (defScope s_Transaction___init) [] (Bk38.kwP K) (He.fAd K ("Transaction", some "__init__")) fd ∧ FnOk P w K mg base CX0 4 (He.fAd K ("Transaction", some "__init__")) fd Bk38.ps (sp_Transaction___init P w K)
theorem mkT {P : Program} {w : World} {K : PySem.W.Frag} {L : Addr → List V} {H2 : Hp} {Pv : Addr → Hp → Prop} {E : XK} {a1 a2 a3 a4 am a9 a10 a11 a12 : Addr} {F : Fd} (g : ∀ x, L x = [.ref x, .int F.number, .ref a1, .ref a4, .int F.fee, .ref a2, .ref a3, .ref am, .int F.begins, .int F.ends, .ref a9, .ref a10, .ref a11, .ref a12, .bl F.approved])
    (hI : TxIn P w K H2 a1 a2 a3 a4 am a9 a10 a11 a12 F) (hO : OkF F) (k : ∀ H' t, Same H2 H' → H2 t = none → TxAt P w K H' t F → Pv t H') :
    ∀ x dx, H2 x = none → H2 dx = none → dx ≠ x → sp_Transaction___init P w K (L x) (upd (upd H2 dx (.own x)) x (.ins (He.ga K "Transaction") dx [])) (fun v H3 => v = .non ∧ Pv x H3) E := fun x dx h1 h2 h3 => by
  rw [g]
  have s1 : Same H2 (upd (upd H2 dx (.own x)) x (.ins (He.ga K "Transaction") dx [])) := fun b o e => by
    rw [upd_ne (ne_of_none e h1), upd_ne (ne_of_none e h2)]; exact e
  have s2 : Same H2 (dl (upd (upd H2 dx (.own x)) x (.ins (He.ga K "Transaction") dx [])) x) := fun b o e => (dl_ne (ne_of_none e h1)).trans (s1 b o e)
  exact ⟨x, dx, a1, a2, a3, a4, am, a9, a10, a11, a12, F, rfl, upd_same, hI.keep s2, hO, fun H' kp pa => ⟨rfl, k H' x (fun b o e => kp b o (ne_of_none e h1) (s1 b o e)) h1 pa⟩⟩

theorem bdsT {P : Program} {w : World} {K : PySem.W.Frag} {H H' : Hp} {b : Addr} {N : List (Ast × Int)} (h : BdS P w K H b N) (e : SameT H H') : BdS P w K H' b N := by
  obtain ⟨dx2, r, d, xs, h1, h2, h3, h4, h5⟩ := h
  obtain ⟨z, ys, h6, h7⟩ := id h4
  exact ⟨dx2, r, d, xs, e _ _ h1 (fun _ q => by cases q), e _ _ h2 (fun _ q => by cases q), dpAll_keep e (nlMap encR_nl) h3, h4.keepT ((e _ _ h6 (fun _ q => by cases q)).trans h6.symm) (fun q ys hq => sqT_keep e hq), h5⟩
theorem OutAt.keepT {P : Program} {w : World} {K : PySem.W.Frag} {H H' : Hp} {b : Addr} {o : Fo} (h : OutAt P w K H b o) (n : nl o.adr = true) (s : SameT H H') : OutAt P w K H' b o := by
  obtain ⟨dx, u, bb, dd, h1, h2, h3, h4⟩ := h
  exact ⟨dx, u, bb, dd, s _ _ h1 (fun _ q => by cases q), dp_keep s n h2, bdsT h3 s, dp_keep s (by simp [nl, nlMap (f := encI) (fun _ => rfl)]) h4⟩
theorem mkO {P : Program} {w : World} {K : PySem.W.Frag} {H1 : Hp} {Pv : Addr → Hp → Prop} {E : XK} {u : V} {a dz : Addr} {xs : List V} {o : Fo} (hu : Dp K H1 u o.adr) (hx : (SqL K H1 a xs ∨ SqT K H1 a xs) ∨ OwnAt K H1 a xs) (hR : DpAll K H1 xs (o.rows.map encR)) (hl : o.rows.length ≤ 1000)
    (hd : SqL K H1 dz (o.dat.map V.int) ∨ SqT K H1 dz (o.dat.map V.int)) (k : ∀ H' b, Same H1 H' → H1 b = none → OutAt P w K H' b o → Pv b H') :
    ∀ x dx, H1 x = none → H1 dx = none → dx ≠ x → sp_Output___init P w K (.ref x :: ([u, .ref a, .ref dz] ++ [])) (upd (upd H1 dx (.own x)) x (.ins (He.ga K "Output") dx [])) (fun v H2 => v = .non ∧ Pv x H2) E := fun x dx h1 h2 h3 => by
  have s1 : Same H1 (upd (upd H1 dx (.own x)) x (.ins (He.ga K "Output") dx [])) := fun b o e => by
    rw [upd_ne (ne_of_none e h1), upd_ne (ne_of_none e h2)]; exact e
  have s2 : Same H1 (dl (upd (upd H1 dx (.own x)) x (.ins (He.ga K "Output") dx [])) x) := fun b o e => (dl_ne (ne_of_none e h1)).trans (s1 b o e)
  exact ⟨x, dx, a, dz, u, xs, o, rfl, upd_same, dpS1 hu s1, hx.imp (fun z => z.imp s1.seq (Rd.same_tup s1)) (fun z => z.keep s2), dpAll_same s1 hR, hl, hd.imp s1.seq (Rd.same_tup s1), fun H' kp ho => ⟨rfl, k H' x (fun b o e => kp b o (ne_of_none e h1) (s1 b o e)) h1 ho⟩⟩
theorem outs_one {P : Program} {w : World} {K : PySem.W.Frag} {H : Hp} {b : Addr} {o : Fo} (h : OutAt P w K H b o) : Outs P w K H [.ref b] [o] := Paired.cons ⟨b, rfl, h⟩ Paired.nil
theorem outs_app {P : Program} {w : World} {K : PySem.W.Frag} {H : Hp} : ∀ {xs ys : List V} {os ps : List Fo}, Outs P w K H xs os → Outs P w K H ys ps → Outs P w K H (xs ++ ys) (os ++ ps)
  | _, _, _, _, Paired.nil, h => h
  | _, _, _, _, Paired.cons h t, k => Paired.cons h (outs_app t k)
/-- [an output for each e of a list of data] -/
theorem lcOut {P : Program} {w : World} {K : PySem.W.Frag} {σ : L2.St} {H : Hp} {Q : VK} {a : Addr} {xs : List V} {g : TG} {te : TE} {vs : List Nat} {R : List Fo} (h : SqL K H a xs) (hx : DpAll K H xs (R.map encO)) (hl : xs.length ≤ 100000) (hO : ∀ o ∈ R, OkO o)
    (hs : ∀ (o : Fo) (x : V) (D : Addr) (acc : List V) (H' : Hp) (C : VK), H D = none → Same H H' → o ∈ R → Dp K H' x (encO o) → H' D = some (.lst acc) → (∀ b H3, Same H' H3 → OutAt P w K H3 b o → C (.ref b) H3) →
      g x (wipe σ vs) H' fun σ2 H2 => wipe σ2 vs = wipe σ vs ∧ te σ2 H2 C)
    (hd : ∀ D acc H', H D = none → Same H H' → H' D = some (.lst acc) → Outs P w K (dl H' D) acc R → Q (.ref D) H') :
    ∃ p, V.ref a = .ref p ∧ (∃ ys, SqL K H p ys) ∧ Rd.LcJ g tYes te vs σ Q (Itl K p) H := by
  have hxl := Rd.dpAll_len hx
  rw [List.length_map] at hxl
  refine Rb.lcL2 (fun D i acc H' => Outs P w K (dl H' D) acc (R.take i)) h (fun D H' _ _ _ => .nil) ?_ ?_
  · intro i x acc D H' hD s hi hl2 hDl hacc
    obtain ⟨d, hd2, hdp⟩ := dpAll_at hx hi
    obtain ⟨e, he, rfl⟩ := map_at hd2
    have hi2 : i < xs.length := (List.getElem?_eq_some_iff.mp hi).1
    refine hs e x D acc H' _ hD s (List.mem_of_getElem? he) (Rd.dp_same s hdp) hDl fun y H3 s3 hy => ?_
    refine Rd.lcE hD (s3 _ _ hDl) (s.trans s3) hl2 (by omega) ?_
    rw [dl_upd, show R.take (i + 1) = R.take i ++ [e] from by rw [List.take_add_one, he]; rfl]
    exact outs_app (hacc.keep (same_dl s3)) (outs_one (hy.keepT (hO e (List.mem_of_getElem? he)).adr.nl (sameT_dl (s3 _ _ hDl))))
  · intro D acc H' hD s hDl hal hacc
    rw [hxl, List.take_length] at hacc
    exact hd D acc H' hD s hDl hacc
/-- [data with lists in it for each e of a list of data] -/
theorem lcDL {α : Type} {K : PySem.W.Frag} {σ : L2.St} {H : Hp} {Q : VK} {a : Addr} {xs : List V} {g : TG} {te : TE} {vs : List Nat} {R : List α} (enc F : α → PyData) (h : SqL K H a xs) (hx : DpAll K H xs (R.map enc)) (hl : xs.length ≤ 100000)
    (hs : ∀ (e : α) (x : V) (D : Addr) (acc : List V) (H' : Hp) (C : VK), H D = none → Same H H' → e ∈ R → Dp K H' x (enc e) → H' D = some (.lst acc) → (∀ y H3, Same H' H3 → Dp K (dl H3 D) y (F e) → C y H3) →
      g x (wipe σ vs) H' fun σ2 H2 => wipe σ2 vs = wipe σ vs ∧ te σ2 H2 C)
    (hd : ∀ D acc H', H D = none → Same H H' → H' D = some (.lst acc) → DpAll K (dl H' D) acc (R.map F) → Q (.ref D) H') :
    ∃ p, V.ref a = .ref p ∧ (∃ ys, SqL K H p ys) ∧ Rd.LcJ g tYes te vs σ Q (Itl K p) H := by
  have hxl := Rd.dpAll_len hx
  rw [List.length_map] at hxl
  refine Rb.lcL2 (fun D i acc H' => DpAll K (dl H' D) acc ((R.take i).map F)) h (fun D H' _ _ _ => .nil) ?_ ?_
  · intro i x acc D H' hD s hi hl2 hDl hacc
    obtain ⟨d, hd2, hdp⟩ := dpAll_at hx hi
    obtain ⟨e, he, rfl⟩ := map_at hd2
    have hi2 : i < xs.length := (List.getElem?_eq_some_iff.mp hi).1
    refine hs e x D acc H' _ hD s (List.mem_of_getElem? he) (Rd.dp_same s hdp) hDl fun y H3 s3 hy => ?_
    refine Rd.lcE hD (s3 _ _ hDl) (s.trans s3) hl2 (by omega) ?_
    rw [dl_upd, take_map he]
    exact dpAll_app (dpAll_same (same_dl s3) hacc) (dpAll_one hy)
  · intro D acc H' hD s hDl hal hacc
    rw [hxl, List.take_length] at hacc
    exact hd D acc H' hD s hDl hacc

structure CalP (P : Program) (w : World) (K : PySem.W.Frag) (mg : Str → Option Value) (base : Heap) : Prop where
  ex : ∃ fd, FunD K "__init__" "Params.__init__" (defArgs s_Params___init) (defBody s_Params___init) (defScope s_Params___init) [] (Bk38p.kwP K) (He.fAd K ("Params", some "__init__")) fd ∧ FnOk P w K mg base CX0 1 (He.fAd K ("Params", some "__init__")) fd Bk38p.ps (sp_Params___init P w K)
theorem mkPa {P : Program} {w : World} {K : PySem.W.Frag} {L : Addr → List V} {H2 : Hp} {Pv : Addr → Hp → Prop} {E : XK} {fb fw fs cb : Int} {j0 j4 j6 j7 j8 j9 : V} (g : ∀ x, L x = [.ref x, j0, .int fb, .int fw, .int fs, j4, .int cb, j6, j7, j8, j9])
    (k : ∀ H' t, Same H2 H' → H2 t = none → PA K H' t fb fw fs cb → Pv t H') :
    ∀ x dx, H2 x = none → H2 dx = none → dx ≠ x → sp_Params___init P w K (L x) (upd (upd H2 dx (.own x)) x (.ins (He.ga K "Params") dx [])) (fun v H3 => v = .non ∧ Pv x H3) E := fun x dx h1 h2 h3 => by
  rw [g]
  have s1 : Same H2 (upd (upd H2 dx (.own x)) x (.ins (He.ga K "Params") dx [])) := fun b o e => by
    rw [upd_ne (ne_of_none e h1), upd_ne (ne_of_none e h2)]; exact e
  exact ⟨x, dx, j0, j4, j6, j7, j8, j9, fb, fw, fs, cb, rfl, upd_same, fun H' kp pa => ⟨rfl, k H' x (fun b o e => kp b o (ne_of_none e h1) (s1 b o e)) h1 pa⟩⟩

theorem nfNrm (R : List (Ast × Int)) : Nrm (nf R) := by
  unfold nf
  split
  · rename_i h
    exact h.choose_spec.1
  · exact Nrm.nil
theorem nf_grown (R : List (Ast × Int)) {c : Int} (hc : c ≠ 0) : (nf (grown (nf R) c)).length = (nf R).length := by
  rw [nf_self (grown_nrm (nfNrm R) hc)]; unfold grown; rw [List.length_map]
theorem nf_ok {R : List (Ast × Int)} (h : OkR R) : OkR (nf R) := by
  unfold nf
  split
  · rename_i hx
    intro e he
    have n := hx.choose_spec.1
    have h2 := (n.key e.1).mp (List.mem_map.mpr ⟨e, he, rfl⟩)
    rw [hx.choose_spec.2] at h2
    rcases Classical.em (e.1 ∈ R.map (·.1)) with z | z
    · obtain ⟨f, hf, ef⟩ := List.mem_map.mp z
      rw [← ef]; exact h f hf
    · exact absurd (tot_none z) h2
  · exact fun _ h => absurd h List.not_mem_nil
theorem grown_ok {R : List (Ast × Int)} {c : Int} (h : OkR R) : OkR (grown R c) := fun e he => by
  obtain ⟨f, hf, rfl⟩ := List.mem_map.mp he
  exact h f hf

theorem pair_in {K : PySem.W.Frag} {σ : L2.St} {H : Hp} {T z : Addr} {x y w : V} {i j l : Nat} {Qd : L2.St → Hp → Prop} (h : SqT K H T [x, .ref z]) (h2 : SqT K H z [y, w]) (k : Qd (((σ.set i (some x)).set j (some y)).set l (some w)) H) :
    gTup K 2 (gCons (gName i) (gCons (gTup K 2 (gCons (gName j) (gCons (gName l) gNil))) gNil)) (.ref T) σ H Qd := ⟨T, _, rfl, h, rfl, x, [.ref z], rfl, .ref z, [], rfl, z, _, rfl, h2, rfl, y, [w], rfl, w, [], rfl, rfl, rfl, k⟩
theorem wo_same {o p : Fo} (h1 : (nf o.rows).length = (nf p.rows).length) (h2 : o.dat.length = p.dat.length) (h3 : adT o.adr = adT p.adr) : wo o = wo p := by unfold wo; rw [h1, h2, h3]
def ddI : PyData → Int
  | .tuple [_, .int i] => i
  | _ => 0

local macro_rules | `(tactic| walk_at "rd1") => `(tactic| first
  | ((with_reducible show rI CPow _ (V.int 10) (V.int _) _ _); refine Rd.pw (z := 1000000000000000000000000000000) ⟨by decide, by decide, by decide⟩ (by decide) ?_)
  | fail)
theorem outs_get {P : Program} {w : World} {K : PySem.W.Frag} {H : Hp} {vs : List V} {os : List Fo} {i : Nat} {o : Fo} (h : Outs P w K H vs os) (e : os[i]? = some o) : ∃ b, vs[i]? = some (.ref b) ∧ OutAt P w K H b o := by
  have hl : vs.length = os.length := Paired.length h
  have hi : i < vs.length := by rw [hl]; exact (List.getElem?_eq_some_iff.mp e).1
  obtain ⟨b, o2, h1, h2, h3⟩ := Outs.at_ h (List.getElem?_eq_getElem hi)
  rw [e] at h2
  cases h2
  exact ⟨b, by rw [List.getElem?_eq_getElem hi, h1], h3⟩
theorem TxAt.keep {P : Program} {w : World} {K : PySem.W.Frag} {H H' : Hp} {t : Addr} {F : Fd} (h : TxAt P w K H t F) (s : Same H H') : TxAt P w K H' t F := by
  obtain ⟨dx, p1, p2, p3, p4, c, p9, p10, p11, p12, os, h0, h1, h2, h3, h4, h5, h6, h9, h10, h11, h12⟩ := h.ex
  exact ⟨dx, p1, p2, p3, p4, c, p9, p10, p11, p12, os, s _ _ h0, dpS1 h1 s, dpS1 h2 s, dpS1 h3 s, Rd.same_tup s h4, h5.keep s, h6.keep s, dpS1 h9 s, dpS1 h10 s, dpS1 h11 s, dpS1 h12 s⟩

local macro_rules | `(tactic| walk_at "issp") => `(tactic| first | (with_reducible show sp_least_coin _ _ _ _ _ _ _) | (with_reducible show sp_weight _ _ _ _ _ _ _) | (with_reducible show sp_weight_of_output _ _ _ _ _ _ _) | (with_reducible show sp_least_fee _ _ _ _ _ _ _) | (with_reducible show sp_Bundle___init _ _ _ _ _ _ _) | (with_reducible show sp_Bundle___iter _ _ _ _ _ _ _) | (with_reducible show sp_Output___init _ _ _ _ _ _ _) | (with_reducible show sp_Output_picture _ _ _ _ _ _ _) | (with_reducible show sp_Params___init _ _ _ _ _ _ _) | (with_reducible show sp_Transaction___init _ _ _ _ _ _ _) | (with_reducible show sp_Transaction_picture _ _ _ _ _ _ _) | (with_reducible show sp_law_cell _ _ _ _ _ _ _) | (with_reducible show sp_law_numbers _ _ _ _ _ _ _) | (with_reducible show sp_law_stream _ _ _ _ _ _ _) | (with_reducible show sp_law_between _ _ _ _ _ _ _) | (with_reducible show sp_law_char _ _ _ _ _ _ _) | (with_reducible show sp_law_text _ _ _ _ _ _ _) | (with_reducible show sp_law_same _ _ _ _ _ _ _ _) | (with_reducible show sp_law_normal _ _ _ _ _ _ _) | (with_reducible show sp_law_integer _ _ _ _ _ _ _) | (with_reducible show sp_law_reference _ _ _ _ _ _ _) | (with_reducible show sp_law_any_text _ _ _ _ _ _ _) | (with_reducible show sp_law_any_asset _ _ _ _ _ _ _) | (with_reducible show sp_law_any_rows _ _ _ _ _ _ _) | (with_reducible show sp_law_any_output _ _ _ _ _ _ _) | (with_reducible show sp_law_any_purpose _ _ _ _ _ _ _) | (with_reducible show sp_law_any_pair _ _ _ _ _ _ _) | (with_reducible show sp_law_any_fields _ _ _ _ _ _ _) | (with_reducible show sp_law_picture _ _ _ _ _ _ _) | (with_reducible show sp_law_make _ _ _ _ _ _ _) | (with_reducible show sp_law_params _ _ _ _ _ _ _) | (with_reducible show sp_law_made_params _ _ _ _ _ _ _) | (with_reducible show sp_law_weight _ _ _ _ _ _ _) | (with_reducible show sp_law_grown _ _ _ _ _ _ _) | (with_reducible show sp_law_changed _ _ _ _ _ _ _) | fail)
local macro_rules | `(tactic| walk_at "rn") => `(tactic| repeat' ((fail_if_success (walk_at "issp")); walk_at "rd1"))
local macro_rules | `(tactic| walk_at "rnj") => `(tactic| repeat' ((fail_if_success (walk_at "issp")); (fail_if_success (with_reducible show tSeq (tIfS _ _ _) _ _ _ _)); walk_at "rd1"))
local macro_rules | `(tactic| walk_at "use") => `(tactic| first
  | ((with_reducible show sp_least_coin _ _ _ _ _ _ _); refine ⟨_, _, ?o, ?fb, ?fw, ?fs, ?cb, rfl, ?h0, ?h1, ?_⟩; (case h0 => walk_at "pre"); (case h1 => walk_at "pre"))
  | ((with_reducible show sp_weight _ _ _ _ _ _ _); refine ⟨_, ?F, rfl, ?h0, ?h1, (fun _ _ => ?_)⟩; (case h0 => walk_at "pre"); (case h1 => walk_at "pre"))
  | ((with_reducible show sp_weight_of_output _ _ _ _ _ _ _); refine ⟨_, ?o, rfl, ?h0, ?h1, ?_⟩; (case h0 => walk_at "pre"); (case h1 => walk_at "pre"))
  | ((with_reducible show sp_least_fee _ _ _ _ _ _ _); refine ⟨_, _, ?F, _, ?fb, ?fw, ?fs, ?cb, rfl, ?h0, ?h1, ?h2, ?h3, (fun _ _ => ?_)⟩; (case h0 => walk_at "pre"); (case h1 => walk_at "pre"); (case h2 => walk_at "pre"); (case h3 => walk_at "pre"))
  | ((with_reducible show sp_Bundle___init _ _ _ _ _ _ _); refine ⟨_, ?dx, _, ?xs, ?R, rfl, ?h0, ?h1, ?h2, ?h3, (fun _ _ _ _ _ _ => ?_)⟩; (case h0 => walk_at "pre"); (case h1 => walk_at "pre"); (case h2 => walk_at "pre"); (case h3 => walk_at "pre"))
  | ((with_reducible show sp_Bundle___iter _ _ _ _ _ _ _); refine ⟨_, ?dx, ?d, ?r, ?xs, rfl, ?h0, ?h1, (fun _ _ _ => ?_)⟩; (case h0 => walk_at "pre"); (case h1 => walk_at "pre"))
  | ((with_reducible show sp_Output___init _ _ _ _ _ _ _); refine ⟨_, ?dx, _, _, _, ?xs, ?o, rfl, ?h0, ?h1, ?h2, ?h3, ?h4, ?h5, (fun _ _ _ => ?_)⟩; (case h0 => walk_at "pre"); (case h1 => walk_at "pre"); (case h2 => walk_at "pre"); (case h3 => walk_at "pre"); (case h4 => walk_at "pre"); (case h5 => walk_at "pre"))
  | ((with_reducible show sp_Output_picture _ _ _ _ _ _ _); refine ⟨_, ?o, rfl, ?h0, (fun _ _ _ _ => ?_)⟩; (case h0 => walk_at "pre"))
  | ((with_reducible show sp_Params___init _ _ _ _ _ _ _); refine ⟨_, ?dx, _, _, _, _, _, _, _, _, _, _, rfl, ?h0, (fun _ _ _ => ?_)⟩; (case h0 => walk_at "pre"))
  | ((with_reducible show sp_Transaction___init _ _ _ _ _ _ _); refine ⟨_, ?dx, _, _, _, _, _, _, _, _, _, _, rfl, ?h0, ?h1, ?h2, (fun _ _ _ => ?_)⟩; (case h0 => walk_at "pre"); (case h1 => walk_at "pre"); (case h2 => walk_at "pre"))
  | ((with_reducible show sp_Transaction_picture _ _ _ _ _ _ _); refine ⟨_, ?F, rfl, ?h0, ?h1, (fun _ _ _ _ => ?_)⟩; (case h0 => walk_at "pre"); (case h1 => walk_at "pre"))
  | ((with_reducible show sp_law_cell _ _ _ _ _ _ _); refine ⟨_, ?ns, _, rfl, ?h0, ?h1, (fun _ => ?_)⟩; (case h0 => walk_at "pre"); (case h1 => walk_at "pre"))
  | ((with_reducible show sp_law_numbers _ _ _ _ _ _ _); refine ⟨_, _, rfl, ?h0, (fun _ _ _ _ _ _ _ _ => ?_)⟩; (case h0 => walk_at "pre"))
  | ((with_reducible show sp_law_stream _ _ _ _ _ _ _); refine ⟨_, ?ns, _, _, rfl, ?h0, ?h1, ?h2, (fun _ _ _ _ _ _ _ _ => ?_)⟩; (case h0 => walk_at "pre"); (case h1 => walk_at "pre"); (case h2 => walk_at "pre"))
  | ((with_reducible show sp_law_between _ _ _ _ _ _ _); refine ⟨_, ?ns, _, _, _, rfl, ?h0, ?h1, ?h2, ?h3, (fun _ _ _ _ => ?_)⟩; (case h0 => walk_at "pre"); (case h1 => walk_at "pre"); (case h2 => walk_at "pre"); (case h3 => walk_at "pre"))
  | ((with_reducible show sp_law_char _ _ _ _ _ _ _); refine ⟨_, rfl, (fun _ _ => ?_)⟩; skip)
  | ((with_reducible show sp_law_text _ _ _ _ _ _ _); refine ⟨_, ?ns, _, _, rfl, ?h0, ?h1, ?h2, ?h3, (fun _ _ _ => ?_)⟩; (case h0 => walk_at "pre"); (case h1 => walk_at "pre"); (case h2 => walk_at "pre"); (case h3 => walk_at "pre"))
  | ((with_reducible show sp_law_same _ _ _ _ _ _ _ _); refine ⟨_, _, ?d, rfl, ?h0, ?h1, ?h2, ?h3, ?h4, ?_⟩; (case h0 => walk_at "pre"); (case h1 => walk_at "pre"); (case h2 => walk_at "pre"); (case h3 => walk_at "pre"); (case h4 => walk_at "pre"))
  | ((with_reducible show sp_law_normal _ _ _ _ _ _ _); refine ⟨_, ?xs, ?R, rfl, ?h0, ?h1, ?h2, ?h3, (fun _ _ _ _ _ _ _ _ _ _ => ?_)⟩; (case h0 => walk_at "pre"); (case h1 => walk_at "pre"); (case h2 => walk_at "pre"); (case h3 => walk_at "pre"))
  | ((with_reducible show sp_law_integer _ _ _ _ _ _ _); refine ⟨_, ?ns, _, rfl, ?h0, ?h1, ?h2, (fun _ _ _ => ?_)⟩; (case h0 => walk_at "pre"); (case h1 => walk_at "pre"); (case h2 => walk_at "pre"))
  | ((with_reducible show sp_law_reference _ _ _ _ _ _ _); refine ⟨_, ?ns, _, rfl, ?h0, ?h1, ?h2, (fun _ _ _ _ _ _ _ => ?_)⟩; (case h0 => walk_at "pre"); (case h1 => walk_at "pre"); (case h2 => walk_at "pre"))
  | ((with_reducible show sp_law_any_text _ _ _ _ _ _ _); refine ⟨_, ?ns, _, rfl, ?h0, ?h1, ?h2, (fun _ _ _ => ?_)⟩; (case h0 => walk_at "pre"); (case h1 => walk_at "pre"); (case h2 => walk_at "pre"))
  | ((with_reducible show sp_law_any_asset _ _ _ _ _ _ _); refine ⟨_, ?ns, _, rfl, ?h0, ?h1, ?h2, (fun _ _ _ _ _ _ _ => ?_)⟩; (case h0 => walk_at "pre"); (case h1 => walk_at "pre"); (case h2 => walk_at "pre"))
  | ((with_reducible show sp_law_any_rows _ _ _ _ _ _ _); refine ⟨_, ?ns, _, _, rfl, ?h0, ?h1, ?h2, ?h3, (fun _ _ _ _ _ _ _ _ _ _ => ?_)⟩; (case h0 => walk_at "pre"); (case h1 => walk_at "pre"); (case h2 => walk_at "pre"); (case h3 => walk_at "pre"))
  | ((with_reducible show sp_law_any_output _ _ _ _ _ _ _); refine ⟨_, ?ns, rfl, ?h0, ?h1, ?h2, ?h3, (fun _ _ _ _ _ _ _ => ?_)⟩; (case h0 => walk_at "pre"); (case h1 => walk_at "pre"); (case h2 => walk_at "pre"); (case h3 => walk_at "pre"))
  | ((with_reducible show sp_law_any_purpose _ _ _ _ _ _ _); refine ⟨_, ?ns, _, rfl, ?h0, ?h1, ?h2, (fun _ _ _ _ _ _ => ?_)⟩; (case h0 => walk_at "pre"); (case h1 => walk_at "pre"); (case h2 => walk_at "pre"))
  | ((with_reducible show sp_law_any_pair _ _ _ _ _ _ _); refine ⟨_, ?ns, _, rfl, ?h0, ?h1, ?h2, (fun _ _ _ _ _ _ _ => ?_)⟩; (case h0 => walk_at "pre"); (case h1 => walk_at "pre"); (case h2 => walk_at "pre"))
  | ((with_reducible show sp_law_any_fields _ _ _ _ _ _ _); refine ⟨_, ?ns, _, rfl, ?h0, ?h1, (fun _ _ _ _ _ _ _ => ?_)⟩; (case h0 => walk_at "pre"); (case h1 => walk_at "pre"))
  | ((with_reducible show sp_law_picture _ _ _ _ _ _ _); refine ⟨_, ?F, rfl, ?h0, ?h1, (fun _ _ _ _ => ?_)⟩; (case h0 => walk_at "pre"); (case h1 => walk_at "pre"))
  | ((with_reducible show sp_law_make _ _ _ _ _ _ _); refine ⟨_, ?F, rfl, ?h0, ?h1, (fun _ _ _ _ _ => ?_)⟩; (case h0 => walk_at "pre"); (case h1 => walk_at "pre"))
  | ((with_reducible show sp_law_params _ _ _ _ _ _ _); refine ⟨_, ?ns, rfl, ?h0, ?h1, ?h2, (fun _ _ _ _ _ _ _ _ _ _ => ?_)⟩; (case h0 => walk_at "pre"); (case h1 => walk_at "pre"); (case h2 => walk_at "pre"))
  | ((with_reducible show sp_law_made_params _ _ _ _ _ _ _); refine ⟨_, ?v0, ?v1, ?v2, ?v3, rfl, ?h0, (fun _ _ _ _ => ?_)⟩; (case h0 => walk_at "pre"))
  | ((with_reducible show sp_law_weight _ _ _ _ _ _ _); refine ⟨_, ?F, rfl, ?h0, ?h1, (fun _ _ => ?_)⟩; (case h0 => walk_at "pre"); (case h1 => walk_at "pre"))
  | ((with_reducible show sp_law_grown _ _ _ _ _ _ _); refine ⟨_, ?xs, ?R, _, rfl, ?h0, ?h1, ?h2, ?h3, ?h4, (fun _ _ _ _ _ _ _ => ?_)⟩; (case h0 => walk_at "pre"); (case h1 => walk_at "pre"); (case h2 => walk_at "pre"); (case h3 => walk_at "pre"); (case h4 => walk_at "pre"))
  | ((with_reducible show sp_law_changed _ _ _ _ _ _ _); refine ⟨_, _, ?F, ?ns, rfl, ?h0, ?h1, ?h2, ?h3, ?h4, (fun _ _ _ _ _ _ _ _ => ?_)⟩; (case h0 => walk_at "pre"); (case h1 => walk_at "pre"); (case h2 => walk_at "pre"); (case h3 => walk_at "pre"); (case h4 => walk_at "pre"))
  | fail)
theorem lit_0 : Str.ofString "script" = Rd.S [115, 99, 114, 105, 112, 116] := by decide +kernel
theorem lit_1 : Str.ofString " !\"#$&'()*+,-./0123456789:;<=>?@ABCDEFGHIJKLMNOPQRSTUVWXYZ[\\]^_`" = Rd.S [32, 33, 34, 35, 36, 38, 39, 40, 41, 42, 43, 44, 45, 46, 47, 48, 49, 50, 51, 52, 53, 54, 55, 56, 57, 58, 59, 60, 61, 62, 63, 64, 65, 66, 67, 68, 69, 70, 71, 72, 73, 74, 75, 76, 77, 78, 79, 80, 81, 82, 83, 84, 85, 86, 87, 88, 89, 90, 91, 92, 93, 94, 95, 96] := by decide +kernel
theorem lit_2 : Str.ofString "abcdefghijklmnopqrstuvwxyz{|}~" = Rd.S [97, 98, 99, 100, 101, 102, 103, 104, 105, 106, 107, 108, 109, 110, 111, 112, 113, 114, 115, 116, 117, 118, 119, 120, 121, 122, 123, 124, 125, 126] := by decide +kernel
theorem lit_3 : Str.ofString "" = Rd.S [] := by decide +kernel
theorem lit_4 : Str.ofString "p" = Rd.S [112] := by decide +kernel
theorem lit_5 : Str.ofString "q" = Rd.S [113] := by decide +kernel
theorem lit_6 : Str.ofString "key" = Rd.S [107, 101, 121] := by decide +kernel
theorem lit_7 : Str.ofString "mint" = Rd.S [109, 105, 110, 116] := by decide +kernel
theorem lit_8 : Str.ofString "spend" = Rd.S [115, 112, 101, 110, 100] := by decide +kernel
theorem lit_9 : Str.ofString "join" = Rd.S [106, 111, 105, 110] := by decide +kernel
theorem lit_10 : Str.ofString "leave" = Rd.S [108, 101, 97, 118, 101] := by decide +kernel
theorem lit_11 : Str.ofString "number" = Rd.S [110, 117, 109, 98, 101, 114] := by decide +kernel
theorem lit_12 : Str.ofString "spends" = Rd.S [115, 112, 101, 110, 100, 115] := by decide +kernel
theorem lit_13 : Str.ofString "looks" = Rd.S [108, 111, 111, 107, 115] := by decide +kernel
theorem lit_14 : Str.ofString "pledge" = Rd.S [112, 108, 101, 100, 103, 101] := by decide +kernel
theorem lit_15 : Str.ofString "makes" = Rd.S [109, 97, 107, 101, 115] := by decide +kernel
theorem lit_16 : Str.ofString "fee" = Rd.S [102, 101, 101] := by decide +kernel
theorem lit_17 : Str.ofString "begins" = Rd.S [98, 101, 103, 105, 110, 115] := by decide +kernel
theorem lit_18 : Str.ofString "ends" = Rd.S [101, 110, 100, 115] := by decide +kernel
theorem lit_19 : Str.ofString "signers" = Rd.S [115, 105, 103, 110, 101, 114, 115] := by decide +kernel
theorem lit_20 : Str.ofString "data" = Rd.S [100, 97, 116, 97] := by decide +kernel
theorem lit_21 : Str.ofString "deeds" = Rd.S [100, 101, 101, 100, 115] := by decide +kernel
theorem lit_22 : Str.ofString "draws" = Rd.S [100, 114, 97, 119, 115] := by decide +kernel
theorem lit_23 : Str.ofString "approved" = Rd.S [97, 112, 112, 114, 111, 118, 101, 100] := by decide +kernel
theorem lit_24 : Str.ofString "z" = Rd.S [122] := by decide +kernel
section
variable {P : Program} {w : World} {K : PySem.W.Frag} {mg : Str → Option Value} {base : Heap}
theorem fn_least_coin {f : Addr} {fd : FuncData} (F : FnP K "least_coin" s_least_coin f fd)  (z_len : mg "len" = none) (W_Params : CF_Params K mg) (W_Bundle : CF_Bundle K mg) (W_Output : CF_Output K mg) : FnOk P w K mg base CX0 1 f fd ["output", "params"] (sp_least_coin P w K) := by
  have cf_Params := W_Params
  have cfc_Params := cf_Params.cls
  have cfn_Params_coin_base := cf_Params.n_coin_base
  have cf_Bundle := W_Bundle
  have cfc_Bundle := cf_Bundle.cls
  have cfn_Bundle_rows := cf_Bundle.n_rows
  have cf_Output := W_Output
  have cfc_Output := cf_Output.cls
  have cfn_Output_bundle := cf_Output.n_bundle
  have cfn_Output_datum := cf_Output.n_datum
  refine F.ok sc_least_coin (fun vs H Q E h => ?_) (fun cdv A outer s H vs Q E hr h => ?_)
  · obtain ⟨b, p, o, fb, fw, fs, cb, rfl, _⟩ := h; rfl
  · obtain ⟨b, p, o, fb, fw, fs, cb, rfl, hb, hp, k⟩ := h
    refine ⟨_, PSs.nox (pss_one (ps_ret (pe_op op_add (pe_op op_add (pe_fld (pv 1) rfl) (pe_callB call_len_seq (by rfl) z_len boot_len (pa_cons (pe_fld (pe_fld (pv 0) rfl) rfl) pa_nil))) (pe_callB call_len_seq (by rfl) z_len boot_len (pa_cons (pe_fld (pv 0) rfl) pa_nil))))), ?_⟩
    try simp only [Rd.cxK, Re.cxP, Re.cxW]
    obtain ⟨dx, u, bb, dd, h1, h2, h3, h4⟩ := hb
    obtain ⟨bdx, r, d, xs, g1, g2, g3, g4, g5⟩ := h3
    obtain ⟨zd, ud, hzd, qd, dpd⟩ := dp_tup h4
    cases hzd
    obtain ⟨pdx, i0, i4, i6, i7, i8, i9, hpp⟩ := hp
    have el : xs.length = (nf o.rows).length := rowsLen g3
    have ed : ud.length = o.dat.length := by rw [Rd.dpAll_len dpd, List.length_map]
    walk_at "rn"
    rw [← el, ← ed] at k
    exact k
theorem ok_least_coin {f : Addr} {fd : FuncData} (mf : mg "least_coin" = some (.ref f)) (F : FnP K "least_coin" s_least_coin f fd)  (z_len : mg "len" = none) (W_Params : CF_Params K mg) (W_Bundle : CF_Bundle K mg) (W_Output : CF_Output K mg) : Cal P w K mg base "least_coin" 1 ["output", "params"] (sp_least_coin P w K) :=
  ⟨f, fd, mf, F.kp, F.bindsN fun _ _ _ _ _ _ us hl => match us, hl with | [_, _], _ => rfl, fn_least_coin F z_len W_Params W_Bundle W_Output⟩

theorem fn_weight_of_output {f : Addr} {fd : FuncData} (F : FnP K "_weight_of_output" s_weight_of_output f fd)  (z_len : mg "len" = none) (W_Output : CF_Output K mg) (W_Bundle : CF_Bundle K mg) : FnOk P w K mg base CX0 1 f fd ["output"] (sp_weight_of_output P w K) := by
  have cf_Output := W_Output
  have cfc_Output := cf_Output.cls
  have cfn_Output_address := cf_Output.n_address
  have cfn_Output_bundle := cf_Output.n_bundle
  have cfn_Output_datum := cf_Output.n_datum
  have cf_Bundle := W_Bundle
  have cfc_Bundle := cf_Bundle.cls
  have cfn_Bundle_rows := cf_Bundle.n_rows
  refine F.ok sc_weight_of_output (fun vs H Q E h => ?_) (fun cdv A outer s H vs Q E hr h => ?_)
  · obtain ⟨b, o, rfl, _⟩ := h; rfl
  · obtain ⟨b, o, rfl, hb, hk, k⟩ := h
    refine ⟨_, PSs.nox (pss_cons (ps_asg (pe_fld (pv 0) rfl) (pg_tup (n := 2) rfl (pgs_cons (pg_name (i := 2) sc_weight_of_output.nd rfl (by first | exact Or.inl rfl | exact Or.inr rfl)) (pgs_cons (pg_name (i := 3) sc_weight_of_output.nd rfl (by first | exact Or.inl rfl | exact Or.inr rfl)) pgs_nil))))
      (pss_cons (ps_set (i := 1) sc_weight_of_output.nd rfl (by first | exact Or.inl rfl | exact Or.inr rfl) (pe_ifExp (pt_cmpR op_eq (pv 2) pe_str (nomark _)) (pe_op op_fdiv (pe_callB call_len_str (by rfl) z_len boot_len (pa_cons (pv 3) pa_nil)) pe_int) pe_int))
      (pss_one (ps_ret (pe_op op_add (pe_op op_add (pe_op op_add pe_int (pe_op op_mul pe_int (pe_callB call_len_seq (by rfl) z_len boot_len (pa_cons (pe_fld (pe_fld (pv 0) rfl) rfl) pa_nil)))) (pe_callB call_len_seq (by rfl) z_len boot_len (pa_cons (pe_fld (pv 0) rfl) pa_nil))) (pv 1)))))), ?_⟩
    try simp only [Rd.cxK, Re.cxP, Re.cxW, lit_0]
    obtain ⟨dx, u, bb, dd, h1, h2, h3, h4⟩ := hb
    obtain ⟨bdx, r, d, xs, g1, g2, g3, g4, g5⟩ := h3
    obtain ⟨zd, ud, hzd, qd, dpd⟩ := dp_tup h4
    cases hzd
    have el : xs.length = (nf o.rows).length := rowsLen g3
    have ed : ud.length = o.dat.length := by rw [Rd.dpAll_len dpd, List.length_map]
    have hrl := nf_len o.rows
    have hrl2 := hk.rl
    have hdl := hk.dl
    refine Rd.seq (Rb.asgG ?_)
    walk_at "rn"
    rcases hk.ak with ⟨i, e⟩ | ⟨l, e, hl1, hl2⟩
    · rw [e] at h2
      obtain ⟨z, x, y, rfl, hz, hx, hy⟩ := dp_pair h2
      obtain rfl := dp_str hx
      obtain rfl := dp_int hy
      refine pair_of hz ?_
      walk_at "rn"
      all_goals first | (exfalso; simp at *; done) | skip
      rw [show wo o = 2 + 2 * (xs.length : Int) + (ud.length : Int) + 0 from by unfold wo; rw [e, el, ed]; rfl] at k
      exact k
    · rw [e] at h2
      obtain ⟨z, x, y, rfl, hz, hx, hy⟩ := dp_pair h2
      obtain rfl := dp_str hx
      obtain rfl := dp_str hy
      refine pair_of hz ?_
      walk_at "rn"
      all_goals first | (exfalso; simp at *; done) | skip
      rw [show wo o = 2 + 2 * (xs.length : Int) + (ud.length : Int) + (l.length : Int) / 10 from by unfold wo; rw [e, el, ed]; show _ + ((Rd.S l).length : Int) / 10 = _; rw [Rd.S_len]] at k
      exact k
theorem ok_weight_of_output {f : Addr} {fd : FuncData} (mf : mg "_weight_of_output" = some (.ref f)) (F : FnP K "_weight_of_output" s_weight_of_output f fd)  (z_len : mg "len" = none) (W_Output : CF_Output K mg) (W_Bundle : CF_Bundle K mg) : Cal P w K mg base "_weight_of_output" 1 ["output"] (sp_weight_of_output P w K) :=
  ⟨f, fd, mf, F.kp, F.bindsN fun _ _ _ _ _ _ us hl => match us, hl with | [_], _ => rfl, fn_weight_of_output F z_len W_Output W_Bundle⟩

theorem fn_Bundle___iter {fd : FuncData} (F : FunD K "__iter__" "Bundle.__iter__" (defArgs s_Bundle___iter) (defBody s_Bundle___iter) (defScope s_Bundle___iter) [] [] (He.fAd K ("Bundle", some "__iter__")) fd)  (z_iter : mg "iter" = none) (W_Bundle : CF_Bundle K mg) : FnOk P w K mg base CX0 1 (He.fAd K ("Bundle", some "__iter__")) fd ["self"] (sp_Bundle___iter P w K) := by
  have cf_Bundle := W_Bundle
  have cfc_Bundle := cf_Bundle.cls
  have cfn_Bundle_rows := cf_Bundle.n_rows
  refine F.ok sc_Bundle___iter (fun vs H Q E h => ?_) (fun cdv A outer s H vs Q E hr h => ?_)
  · obtain ⟨b, dx, d, r, xs, rfl, _⟩ := h; rfl
  · obtain ⟨b, dx, d, r, xs, rfl, hb, hr2, k⟩ := h
    refine ⟨_, PSs.nox (pss_one (ps_ret (pe_callB Bd.cr_iterT (by rfl) z_iter boot_iter (pa_cons (pe_fld (pv 0) rfl) pa_nil)))), ?_⟩
    try simp only [Rd.cxK, Re.cxP, Re.cxW]
    walk_at "rn"
    exact ⟨r, xs, rfl, SqT.of hr2, fun it h1 h2 => k it h1 h2⟩
theorem ok_Bundle___iter {fd : FuncData} (F : FunD K "__iter__" "Bundle.__iter__" (defArgs s_Bundle___iter) (defBody s_Bundle___iter) (defScope s_Bundle___iter) [] [] (He.fAd K ("Bundle", some "__iter__")) fd)  (z_iter : mg "iter" = none) (W_Bundle : CF_Bundle K mg) : CalM P w K mg base (He.fAd K ("Bundle", some "__iter__")) 1 ["self"] [] (sp_Bundle___iter P w K) :=
  ⟨fd, F.bindsN fun _ _ _ _ _ _ us hl => match us, hl with | [_], _ => rfl, fn_Bundle___iter F z_iter W_Bundle, [], .nil, F.bindsN fun _ _ _ _ _ _ us hl => match us, hl with | [_], _ => rfl⟩

theorem fn_Output_picture {fd : FuncData} (F : FunD K "picture" "Output.picture" (defArgs s_Output_picture) (defBody s_Output_picture) (defScope s_Output_picture) [] [] (He.fAd K ("Output", some "picture")) fd)   (W_Output : CF_Output K mg) (W_Bundle : CF_Bundle K mg) : FnOk P w K mg base CX0 1 (He.fAd K ("Output", some "picture")) fd ["self"] (sp_Output_picture P w K) := by
  have cf_Output := W_Output
  have cfc_Output := cf_Output.cls
  have cfn_Output_address := cf_Output.n_address
  have cfn_Output_bundle := cf_Output.n_bundle
  have cfn_Output_datum := cf_Output.n_datum
  have cf_Bundle := W_Bundle
  have cfc_Bundle := cf_Bundle.cls
  have cfn_Bundle_rows := cf_Bundle.n_rows
  refine F.ok sc_Output_picture (fun vs H Q E h => ?_) (fun cdv A outer s H vs Q E hr h => ?_)
  · obtain ⟨b, o, rfl, _⟩ := h; rfl
  · obtain ⟨b, o, rfl, hb, k⟩ := h
    refine ⟨_, PSs.nox (pss_one (ps_ret (pe_tup (pa_cons (pe_fld (pv 0) rfl) (pa_cons (pe_fld (pe_fld (pv 0) rfl) rfl) (pa_cons (pe_fld (pv 0) rfl) pa_nil)))))), ?_⟩
    try simp only [Rd.cxK, Re.cxP, Re.cxW]
    obtain ⟨dx, u, bb, dd, h1, h2, h3, h4⟩ := hb
    obtain ⟨bdx, r, d, xs, g1, g2, g3, g4, g5⟩ := h3
    walk_at "rn"
    rename_i p hp
    have t := Rd.same_new (o := .tup [u, .ref r, .ref dd]) hp
    exact k p _ t (.tup (SqT.of upd_same) (.cons (dpS1 h2 t) (.cons (.tup (SqT.of (t _ _ g2)) (dpAll_same t g3)) (.cons (dpS1 h4 t) .nil))))
theorem ok_Output_picture {fd : FuncData} (F : FunD K "picture" "Output.picture" (defArgs s_Output_picture) (defBody s_Output_picture) (defScope s_Output_picture) [] [] (He.fAd K ("Output", some "picture")) fd)   (W_Output : CF_Output K mg) (W_Bundle : CF_Bundle K mg) : CalM P w K mg base (He.fAd K ("Output", some "picture")) 1 ["self"] [] (sp_Output_picture P w K) :=
  ⟨fd, F.bindsN fun _ _ _ _ _ _ us hl => match us, hl with | [_], _ => rfl, fn_Output_picture F W_Output W_Bundle, [], .nil, F.bindsN fun _ _ _ _ _ _ us hl => match us, hl with | [_], _ => rfl⟩

theorem fn_Params___init {fd : FuncData} (F : FunD K "__init__" "Params.__init__" (defArgs s_Params___init) (defBody s_Params___init) (defScope s_Params___init) [] (Bk38p.kwP K) (He.fAd K ("Params", some "__init__")) fd)   (W_Params : CF_Params K mg) : FnOk P w K mg base CX0 1 (He.fAd K ("Params", some "__init__")) fd ["self", "deposit", "fee_base", "fee_weight", "fee_step", "pledge_rate", "coin_base", "epoch_length", "share", "depth", "most_steps"] (sp_Params___init P w K) := by
  have cf_Params := W_Params
  have cfc_Params := cf_Params.cls
  have cfn_Params_coin_base := cf_Params.n_coin_base
  have cfn_Params_deposit := cf_Params.n_deposit
  have cfn_Params_depth := cf_Params.n_depth
  have cfn_Params_epoch_length := cf_Params.n_epoch_length
  have cfn_Params_fee_base := cf_Params.n_fee_base
  have cfn_Params_fee_step := cf_Params.n_fee_step
  have cfn_Params_fee_weight := cf_Params.n_fee_weight
  have cfn_Params_most_steps := cf_Params.n_most_steps
  have cfn_Params_pledge_rate := cf_Params.n_pledge_rate
  have cfn_Params_share := cf_Params.n_share
  refine F.ok sc_Params___init (fun vs H Q E h => ?_) (fun cdv A outer s H vs Q E hr h => ?_)
  · obtain ⟨b, dx, j0, j4, j6, j7, j8, j9, fb, fw, fs, cb, rfl, _⟩ := h; rfl
  · obtain ⟨b, dx, j0, j4, j6, j7, j8, j9, fb, fw, fs, cb, rfl, hb, k⟩ := h
    refine ⟨_, PSs.nox (pss_cons (ps_fld (pv 0) (pv 1) rfl)
      (pss_cons (ps_fld (pv 0) (pv 2) rfl)
      (pss_cons (ps_fld (pv 0) (pv 3) rfl)
      (pss_cons (ps_fld (pv 0) (pv 4) rfl)
      (pss_cons (ps_fld (pv 0) (pv 5) rfl)
      (pss_cons (ps_fld (pv 0) (pv 6) rfl)
      (pss_cons (ps_fld (pv 0) (pv 7) rfl)
      (pss_cons (ps_fld (pv 0) (pv 8) rfl)
      (pss_cons (ps_fld (pv 0) (pv 9) rfl)
      (pss_one (ps_fld (pv 0) (pv 10) rfl))))))))))), ?_⟩
    try simp only [Rd.cxK, Re.cxP, Re.cxW]
    have s0 : Same (dl H b) (dl H b) := Same.refl _
    have b0 : Beside b H H := fun _ _ _ e => e
    have ht0 := hb
    refine Rd.seq (Rb.sfld (Rd.var rfl (Rd.var rfl (fput (fs' := [(("deposit" : Str), j0)]) ht0 cfc_Params cfn_Params_deposit (by show 0 < 1000; decide) rfl s0 b0 fun G1 ht1 s1 b1 _ => ?_))))
    refine Rd.seq (Rb.sfld (Rd.var rfl (Rd.var rfl (fput (fs' := [(("deposit" : Str), j0), (("fee_base" : Str), .int fb)]) ht1 cfc_Params cfn_Params_fee_base (by show 1 < 1000; decide) rfl s1 b1 fun G2 ht2 s2 b2 _ => ?_))))
    refine Rd.seq (Rb.sfld (Rd.var rfl (Rd.var rfl (fput (fs' := [(("deposit" : Str), j0), (("fee_base" : Str), .int fb), (("fee_weight" : Str), .int fw)]) ht2 cfc_Params cfn_Params_fee_weight (by show 2 < 1000; decide) rfl s2 b2 fun G3 ht3 s3 b3 _ => ?_))))
    refine Rd.seq (Rb.sfld (Rd.var rfl (Rd.var rfl (fput (fs' := [(("deposit" : Str), j0), (("fee_base" : Str), .int fb), (("fee_weight" : Str), .int fw), (("fee_step" : Str), .int fs)]) ht3 cfc_Params cfn_Params_fee_step (by show 3 < 1000; decide) rfl s3 b3 fun G4 ht4 s4 b4 _ => ?_))))
    refine Rd.seq (Rb.sfld (Rd.var rfl (Rd.var rfl (fput (fs' := [(("deposit" : Str), j0), (("fee_base" : Str), .int fb), (("fee_weight" : Str), .int fw), (("fee_step" : Str), .int fs), (("pledge_rate" : Str), j4)]) ht4 cfc_Params cfn_Params_pledge_rate (by show 4 < 1000; decide) rfl s4 b4 fun G5 ht5 s5 b5 _ => ?_))))
    refine Rd.seq (Rb.sfld (Rd.var rfl (Rd.var rfl (fput (fs' := [(("deposit" : Str), j0), (("fee_base" : Str), .int fb), (("fee_weight" : Str), .int fw), (("fee_step" : Str), .int fs), (("pledge_rate" : Str), j4), (("coin_base" : Str), .int cb)]) ht5 cfc_Params cfn_Params_coin_base (by show 5 < 1000; decide) rfl s5 b5 fun G6 ht6 s6 b6 _ => ?_))))
    refine Rd.seq (Rb.sfld (Rd.var rfl (Rd.var rfl (fput (fs' := [(("deposit" : Str), j0), (("fee_base" : Str), .int fb), (("fee_weight" : Str), .int fw), (("fee_step" : Str), .int fs), (("pledge_rate" : Str), j4), (("coin_base" : Str), .int cb), (("epoch_length" : Str), j6)]) ht6 cfc_Params cfn_Params_epoch_length (by show 6 < 1000; decide) rfl s6 b6 fun G7 ht7 s7 b7 _ => ?_))))
    refine Rd.seq (Rb.sfld (Rd.var rfl (Rd.var rfl (fput (fs' := [(("deposit" : Str), j0), (("fee_base" : Str), .int fb), (("fee_weight" : Str), .int fw), (("fee_step" : Str), .int fs), (("pledge_rate" : Str), j4), (("coin_base" : Str), .int cb), (("epoch_length" : Str), j6), (("share" : Str), j7)]) ht7 cfc_Params cfn_Params_share (by show 7 < 1000; decide) rfl s7 b7 fun G8 ht8 s8 b8 _ => ?_))))
    refine Rd.seq (Rb.sfld (Rd.var rfl (Rd.var rfl (fput (fs' := [(("deposit" : Str), j0), (("fee_base" : Str), .int fb), (("fee_weight" : Str), .int fw), (("fee_step" : Str), .int fs), (("pledge_rate" : Str), j4), (("coin_base" : Str), .int cb), (("epoch_length" : Str), j6), (("share" : Str), j7), (("depth" : Str), j8)]) ht8 cfc_Params cfn_Params_depth (by show 8 < 1000; decide) rfl s8 b8 fun G9 ht9 s9 b9 _ => ?_))))
    refine (Rb.sfld (Rd.var rfl (Rd.var rfl (fput (fs' := [(("deposit" : Str), j0), (("fee_base" : Str), .int fb), (("fee_weight" : Str), .int fw), (("fee_step" : Str), .int fs), (("pledge_rate" : Str), j4), (("coin_base" : Str), .int cb), (("epoch_length" : Str), j6), (("share" : Str), j7), (("depth" : Str), j8), (("most_steps" : Str), j9)]) (n := fun _ H2 => Q .non H2) (σ := []) ht9 cfc_Params cfn_Params_most_steps (by show 9 < 1000; decide) rfl s9 b9 fun G10 ht10 s10 b10 _ => ?_))))
    exact k G10 b10 ⟨dx, j0, j4, j6, j7, j8, j9, ht10⟩
theorem ok_Params___init {fd : FuncData} (F : FunD K "__init__" "Params.__init__" (defArgs s_Params___init) (defBody s_Params___init) (defScope s_Params___init) [] (Bk38p.kwP K) (He.fAd K ("Params", some "__init__")) fd)   (W_Params : CF_Params K mg) : CalP P w K mg base :=
  ⟨fd, F, fn_Params___init F W_Params⟩

theorem fn_law_cell {f : Addr} {fd : FuncData} (F : FnP K "_law_cell" s_law_cell f fd)  (z_len : mg "len" = none) : FnOk P w K mg base CX0 1 f fd ["script", "k"] (sp_law_cell P w K) := by
  refine F.ok sc_law_cell (fun vs H Q E h => ?_) (fun cdv A outer s H vs Q E hr h => ?_)
  · obtain ⟨a, ns, i, rfl, _⟩ := h; rfl
  · obtain ⟨a, ns, i, rfl, hS, h0, k⟩ := h
    refine ⟨_, PSs.nox (pss_cons (ps_if (pt_cmpR op_lt (pv 1) (pe_callB call_len_seq (by rfl) z_len boot_len (pa_cons (pv 0) pa_nil)) (nomark _)) (pss_one (ps_ret (pe_ix ix_list (pv 0) (pv 1) (fun _ _ => rfl)))) pss_nil)
      (pss_one (ps_ret pe_int))), ?_⟩
    try simp only [Rd.cxK, Re.cxP, Re.cxW]
    walk_at "rd"
    all_goals exact k _
theorem ok_law_cell {f : Addr} {fd : FuncData} (mf : mg "_law_cell" = some (.ref f)) (F : FnP K "_law_cell" s_law_cell f fd)  (z_len : mg "len" = none) : Cal P w K mg base "_law_cell" 1 ["script", "k"] (sp_law_cell P w K) :=
  ⟨f, fd, mf, F.kp, F.bindsN fun _ _ _ _ _ _ us hl => match us, hl with | [_, _], _ => rfl, fn_law_cell F z_len⟩

theorem fn_law_numbers {f : Addr} {fd : FuncData} (F : FnP K "_law_numbers" s_law_numbers f fd)  (z_abs : mg "abs" = none) (z_range : mg "range" = none) (z_int : mg "int" = none) : FnOk P w K mg base CX0 1 f fd ["cell", "many"] (sp_law_numbers P w K) := by
  refine F.ok sc_law_numbers (fun vs H Q E h => ?_) (fun cdv A outer s H vs Q E hr h => ?_)
  · obtain ⟨c, m, rfl, _⟩ := h; rfl
  · obtain ⟨c, m, rfl, hm, k⟩ := h
    refine ⟨_, PSs.nox (pss_cons (ps_set (i := 2) sc_law_numbers.nd rfl (by first | exact Or.inl rfl | exact Or.inr rfl) (pe_callB call_abs (by rfl) z_abs boot_abs (pa_cons (pv 0) pa_nil)))
      (pss_cons (ps_set (i := 3) sc_law_numbers.nd rfl (by first | exact Or.inl rfl | exact Or.inr rfl) (pv 2))
      (pss_cons (ps_set (i := 4) sc_law_numbers.nd rfl (by first | exact Or.inl rfl | exact Or.inr rfl) (pe_lst pa_nil))
      (pss_cons (ps_for PassesOwn.never rfl (pi_range1 (by rfl) z_range (pa_cons (pv 1) pa_nil)) (pg_name (i := 5) sc_law_numbers.nd rfl (by first | exact Or.inl rfl | exact Or.inr rfl)) (pss_one (ps_if (PW.pt (pw_and (pt_cmpR op_ge (pv 3) (pe_op op_pow pe_int pe_int) (nomark _)) (pw_and1 (pt_cmpR op_gt (pv 2) pe_int (nomark _))))) (pss_cons (ps_expr (pe_bm PySem.F.plainAttrs_list PySem.F.slot_list_append PySem.F.type_list_append mt_append (pv 4) (pa_cons (pe_op op_mod (pe_callTy call_int1 (by rfl) z_int boot_int (pa_cons (pv 2) pa_nil)) pe_int) pa_nil)))
      (pss_one (ps_set (i := 2) sc_law_numbers.nd rfl (by first | exact Or.inl rfl | exact Or.inr rfl) (pe_op op_fdiv (pv 2) pe_int)))) (pss_cons (ps_set (i := 6) sc_law_numbers.nd rfl (by first | exact Or.inl rfl | exact Or.inr rfl) (pe_op op_mod (pe_callTy call_int1 (by rfl) z_int boot_int (pa_cons (pe_op op_add (pe_op op_add (pe_op op_mul (pv 3) pe_int) (pe_op op_mul (pv 5) pe_int)) pe_int) pa_nil)) pe_int))
      (pss_cons (ps_set (i := 6) sc_law_numbers.nd rfl (by first | exact Or.inl rfl | exact Or.inr rfl) (pe_op op_mod (pe_callTy call_int1 (by rfl) z_int boot_int (pa_cons (pe_op op_add (pe_op op_add (pe_op op_mul (pv 6) (pv 6)) (pe_op op_mul pe_int (pv 5))) pe_int) pa_nil)) pe_int))
      (pss_one (ps_expr (pe_bm PySem.F.plainAttrs_list PySem.F.slot_list_append PySem.F.type_list_append mt_append (pv 4) (pa_cons (pe_op op_mod (pe_callTy call_int1 (by rfl) z_int boot_int (pa_cons (pe_op op_fdiv (pv 6) pe_int) pa_nil)) pe_int) pa_nil)))))))))
      (pss_one (ps_ret (pv 4))))))), ?_⟩
    try simp only [Rd.cxK, Re.cxP, Re.cxW]
    walk_at "rd"
    rename_i z hz0 hz1 p hp
    refine Rd.rng1 (fun i σ' H' => ∃ (r : Int) (nums : List Int) (kv mv : Option V), σ' = [some (.int c), some (.int m), some (.int r), some (.int z), some (.ref p), kv, mv] ∧ 0 ≤ r ∧ nums.length = i ∧ (∀ x ∈ nums, 0 ≤ x ∧ x < 1000) ∧ Same H H' ∧ H' p = some (.lst (nums.map V.int))) ⟨by omega, by omega⟩ ?_ ?_ ?_
    · exact ⟨z, [], _, _, rfl, hz0, rfl, by simp, Rd.same_new hp, upd_same⟩
    · rintro i σ' H' hi ⟨r, nums, kv, mv, rfl, hr0, hl, hb, hs, hp'⟩
      walk_at "rd"
      all_goals (refine ⟨_, nums ++ [_], _, _, rfl, ?_, ?_, Rd.bd_app hb ?_, Rd.same_mut hs hp, Rd.pushInts⟩ <;> first | omega | simp [hl])
    · rintro σ' H' ⟨r, nums, kv, mv, rfl, hr0, hl, hb, hs, hp'⟩
      walk_at "rd"
      exact k p nums H' hs hp hp' hl hb
theorem ok_law_numbers {f : Addr} {fd : FuncData} (mf : mg "_law_numbers" = some (.ref f)) (F : FnP K "_law_numbers" s_law_numbers f fd)  (z_abs : mg "abs" = none) (z_range : mg "range" = none) (z_int : mg "int" = none) : Cal P w K mg base "_law_numbers" 1 ["cell", "many"] (sp_law_numbers P w K) :=
  ⟨f, fd, mf, F.kp, F.bindsN fun _ _ _ _ _ _ us hl => match us, hl with | [_, _], _ => rfl, fn_law_numbers F z_abs z_range z_int⟩

theorem fn_law_between {f : Addr} {fd : FuncData} (F : FnP K "_law_between" s_law_between f fd)  (z_int : mg "int" = none) (z_len : mg "len" = none) (z_range : mg "range" = none) (z_min : mg "min" = none) : FnOk P w K mg base CX0 1 f fd ["numbers", "at", "low", "high"] (sp_law_between P w K) := by
  refine F.ok sc_law_between (fun vs H Q E h => ?_) (fun cdv A outer s H vs Q E hr h => ?_)
  · obtain ⟨b, ns, i, lo, hi, rfl, _⟩ := h; rfl
  · obtain ⟨b, ns, i, lo, hi, rfl, hb, hb3, hnl, hlh, k⟩ := h
    refine ⟨_, PSs.nox (pss_cons (ps_setLc (i := 4) (own := [("k", 6)]) (g := gName 6) (tt := tYes) rfl sc_law_between.nd rfl rfl (sw_true rfl rfl rfl (by decide +kernel)) (pi_range1 (by rfl) z_range (pa_cons pe_int pa_nil)) (blkOk_by (N := N_law_between) (sc := defScope s_law_between) (by decide +kernel)) (fun _ _ _ _ _ => pg_name (i := 6) sc_law_between.nd rfl (by first | exact Or.inl rfl | exact Or.inr rfl)) (fun _ _ _ _ _ => pts_nil) (fun _ _ _ _ _ => (pe_ix (Rb.ix_listK (K := K) rfl) (pv 0) (pe_op op_mod (pe_callTy call_int1 (by rfl) z_int boot_int (pa_cons (pe_op op_add (pv 1) (pv 6)) pa_nil)) (pe_callB (Rb.call_lenK (K := K) rfl) (by rfl) z_len boot_len (pa_cons (pv 0) pa_nil))) (fun _ _ => rfl))))
      (pss_cons (ps_if (pt_cmpR op_eq (pe_op op_mod (pe_ix ix_list (pv 4) pe_int (fun _ _ => rfl)) pe_int) pe_int (nomark _)) (pss_one (ps_ret (pv 2))) pss_nil)
      (pss_cons (ps_if (pt_cmpR op_eq (pe_op op_mod (pe_ix ix_list (pv 4) pe_int (fun _ _ => rfl)) pe_int) pe_int (nomark _)) (pss_one (ps_ret (pv 3))) pss_nil)
      (pss_cons (ps_if (pt_cmpR op_eq (pe_op op_mod (pe_ix ix_list (pv 4) pe_int (fun _ _ => rfl)) pe_int) pe_int (nomark _)) (pss_one (ps_ret (pe_callB (call_min2 rfl) (by rfl) z_min boot_min (pa_cons (pv 3) (pa_cons (pe_op op_add (pv 2) (pe_op op_mod (pe_ix ix_list (pv 4) pe_int (fun _ _ => rfl)) pe_int)) pa_nil))))) pss_nil)
      (pss_cons (ps_set (i := 5) sc_law_between.nd rfl (by first | exact Or.inl rfl | exact Or.inr rfl) (pe_op op_add (pe_op op_add (pe_op op_add (pe_op op_fdiv (pe_ix ix_list (pv 4) pe_int (fun _ _ => rfl)) pe_int) (pe_op op_mul pe_int (pe_ix ix_list (pv 4) pe_int (fun _ _ => rfl)))) (pe_op op_mul pe_int (pe_ix ix_list (pv 4) pe_int (fun _ _ => rfl)))) (pe_op op_mul pe_int (pe_ix ix_list (pv 4) pe_int (fun _ _ => rfl)))))
      (pss_cons (ps_set (i := 5) sc_law_between.nd rfl (by first | exact Or.inl rfl | exact Or.inr rfl) (pe_op op_add (pe_op op_add (pv 5) (pe_op op_mul pe_int (pe_ix ix_list (pv 4) pe_int (fun _ _ => rfl)))) (pe_op op_mul pe_int (pe_ix ix_list (pv 4) pe_int (fun _ _ => rfl)))))
      (pss_one (ps_ret (pe_op op_add (pv 2) (pe_op op_mod (pe_callTy call_int1 (by rfl) z_int boot_int (pa_cons (pv 5) pa_nil)) (pe_op op_add (pe_op op_sub (pv 3) (pv 2)) pe_int))))))))))), ?_⟩
    try simp only [Rd.cxK, Re.cxP, Re.cxW]
    walk_at "rn"
    refine Rd.lcR1 (fun D i acc H' => ∃ xs : List Int, acc = xs.map V.int ∧ xs.length = i ∧ B3 xs) (by omega) (fun D H' _ _ _ => ⟨[], rfl, rfl, B3.nil⟩) ?_ ?_
    · rintro i acc D H' hD s hi hl hDl ⟨xs, rfl, hxl, hx3⟩
      have hb' := s _ _ hb
      walk_at "rn"
      rename_i v hv1 hv2
      exact Rd.lcE hD hDl s hl (by omega) ⟨xs ++ [v], by rw [List.map_append]; rfl, by rw [List.length_append]; simp; omega, hx3.push ⟨hv1, hv2⟩⟩
    · rintro D acc H' hD s hDl hal ⟨xs, rfl, hxl, hx3⟩
      rw [List.length_map] at hal
      walk_at "rn"
      all_goals first | exact k _ _ s ⟨by omega, by omega⟩ | exact k _ _ s (modBd hlh)
theorem ok_law_between {f : Addr} {fd : FuncData} (mf : mg "_law_between" = some (.ref f)) (F : FnP K "_law_between" s_law_between f fd)  (z_int : mg "int" = none) (z_len : mg "len" = none) (z_range : mg "range" = none) (z_min : mg "min" = none) : Cal P w K mg base "_law_between" 1 ["numbers", "at", "low", "high"] (sp_law_between P w K) :=
  ⟨f, fd, mf, F.kp, F.bindsN fun _ _ _ _ _ _ us hl => match us, hl with | [_, _, _, _], _ => rfl, fn_law_between F z_int z_len z_range z_min⟩

theorem fn_law_char {f : Addr} {fd : FuncData} (F : FnP K "_law_char" s_law_char f fd)  (z_int : mg "int" = none) : FnOk P w K mg base CX0 1 f fd ["number"] (sp_law_char P w K) := by
  refine F.ok sc_law_char (fun vs H Q E h => ?_) (fun cdv A outer s H vs Q E hr h => ?_)
  · obtain ⟨i, rfl, _⟩ := h; rfl
  · obtain ⟨i, rfl, k⟩ := h
    refine ⟨_, PSs.nox (pss_cons (ps_set (i := 1) sc_law_char.nd rfl (by first | exact Or.inl rfl | exact Or.inr rfl) pe_str)
      (pss_cons (ps_set (i := 1) sc_law_char.nd rfl (by first | exact Or.inl rfl | exact Or.inr rfl) (pe_op op_add_str (pv 1) pe_str))
      (pss_one (ps_ret (pe_ix ix_str (pv 1) (pe_op op_mod (pe_callTy call_int1 (by rfl) z_int boot_int (pa_cons (pv 0) pa_nil)) pe_int) (fun _ _ => rfl)))))), ?_⟩
    try simp only [Rd.cxK, Re.cxP, Re.cxW, lit_1, lit_2]
    walk_at "rd"
    all_goals first | exact Rd.ixSall (by decide) (by omega) (by show _ < (94 : Int); omega) (fun c hc => k c (by revert c; decide))
theorem ok_law_char {f : Addr} {fd : FuncData} (mf : mg "_law_char" = some (.ref f)) (F : FnP K "_law_char" s_law_char f fd)  (z_int : mg "int" = none) : Cal P w K mg base "_law_char" 1 ["number"] (sp_law_char P w K) :=
  ⟨f, fd, mf, F.kp, F.bindsN fun _ _ _ _ _ _ us hl => match us, hl with | [_], _ => rfl, fn_law_char F z_int⟩

theorem fn_law_normal {f : Addr} {fd : FuncData} (F : FnP K "_law_normal" s_law_normal f fd)  (z_sorted : mg "sorted" = none) (z_sum : mg "sum" = none) (z_tuple : mg "tuple" = none) : FnOk P w K mg base CX0 1 f fd ["rows"] (sp_law_normal P w K) := by
  refine F.ok sc_law_normal (fun vs H Q E h => ?_) (fun cdv A outer s H vs Q E hr h => ?_)
  · obtain ⟨a, xs, R, rfl, _⟩ := h; rfl
  · obtain ⟨a, xs, R, rfl, hx, hR, ho, hl, k⟩ := h
    refine ⟨_, PSs.nox (pss_cons (ps_set (i := 1) sc_law_normal.nd rfl (by first | exact Or.inl rfl | exact Or.inr rfl) (pe_lst pa_nil))
      (pss_cons (ps_for PassesOwn.never rfl (pi_list (pv 0)) (pg_tup (n := 2) rfl (pgs_cons (pg_name (i := 3) sc_law_normal.nd rfl (by first | exact Or.inl rfl | exact Or.inr rfl)) (pgs_cons (pg_name (i := 4) sc_law_normal.nd rfl (by first | exact Or.inl rfl | exact Or.inr rfl)) pgs_nil))) (pss_one (ps_if (pt_cmpR (op_notInD (Rb.units65 hr)) (pv 3) (pv 1) (by rfl)) (pss_one (ps_expr (pe_bm PySem.F.plainAttrs_list PySem.F.slot_list_append PySem.F.type_list_append mt_append (pv 1) (pa_cons (pv 3) pa_nil)))) pss_nil)))
      (pss_cons (ps_set (i := 2) sc_law_normal.nd rfl (by first | exact Or.inl rfl | exact Or.inr rfl) (pe_lst pa_nil))
      (pss_cons (ps_for PassesOwn.never rfl (pi_list (pe_callB Es.cr_sortedSS (by rfl) z_sorted boot_sorted (pa_cons (pv 1) pa_nil))) (pg_name (i := 3) sc_law_normal.nd rfl (by first | exact Or.inl rfl | exact Or.inr rfl)) (pss_cons (ps_set (i := 4) sc_law_normal.nd rfl (by first | exact Or.inl rfl | exact Or.inr rfl) (pe_callB (cr_sum rfl) (by rfl) z_sum boot_sum (pa_cons (pe_lc (own := [("row", 5)]) (g := gName 5) (tt := _) rfl sc_law_normal.nd (pi_list (pv 0)) (blkOk_by (N := N_law_normal) (sc := defScope s_law_normal) (by decide +kernel)) (fun _ _ _ _ _ => pg_name (i := 5) sc_law_normal.nd rfl (by first | exact Or.inl rfl | exact Or.inr rfl)) (fun _ _ _ _ _ => pts_one (pt_cmpR (Rb.op_eqDK (K := K) rfl hr.units) (pe_ix (Rb.ix_tupK (K := K) rfl) (pv 5) pe_int (fun _ _ => rfl)) (pv 3) (nomark _))) (fun _ _ _ _ _ => (pe_ix (Rb.ix_tupK (K := K) rfl) (pv 5) pe_int (fun _ _ => rfl)))) pa_nil)))
      (pss_one (ps_if (pt_cmpR op_ne (pv 4) pe_int (nomark _)) (pss_one (ps_expr (pe_bm PySem.F.plainAttrs_list PySem.F.slot_list_append PySem.F.type_list_append mt_append (pv 2) (pa_cons (pe_tup (pa_cons (pv 3) (pa_cons (pv 4) pa_nil))) pa_nil)))) pss_nil))))
      (pss_one (ps_ret (pe_callTy call_tuple_of (by rfl) z_tuple boot_tuple (pa_cons (pv 2) pa_nil)))))))), ?_⟩
    try simp only [Rd.cxK, Re.cxP, Re.cxW]
    have hxl := rowsLen hR
    walk_at "rn"
    rename_i f hf
    refine Rd.forL (fun i σ' H' => ∃ (vs : List V) (A : List Ast), ∃ c2 c3 c4 c5,  σ' = [some (.ref a), some (.ref f), c2, c3, c4, c5] ∧ Same H H' ∧ H' f = some (.lst vs) ∧ DpAll K H' vs (A.map encA) ∧ A.Nodup ∧ (∀ p, p ∈ A ↔ p ∈ (R.take i).map (·.1)) ∧ A.length ≤ i) (Rd.nl hf hx) ⟨[], [], _, _, _, _,  rfl, Rd.same_new hf, upd_same, .nil, List.nodup_nil, fun p => by simp, Nat.le_refl _⟩ (fun i σ' H' _ ⟨_, _, c2, c3, c4, c5,  _, h, _⟩ => h.seq (hx)) ?_ ?_
    · rintro i x σ' H' hi ⟨vs, A, c2, c3, c4, c5,  rfl, hs, hfl, hA, hnd, hmem, hAl⟩
      obtain ⟨z, kq, e, rfl, hri, hz, hkq⟩ := Es.rowAt (dpAll_same hs hR) hi
      have hi2 : i < R.length := (List.getElem?_eq_some_iff.mp hri).1
      have hop : OkA e.1 := ho e (List.mem_of_getElem? hri)
      have hok : ∀ y ∈ A, OkA y := fun y hy => by
        obtain ⟨e', he', rfl⟩ := List.mem_map.mp ((hmem y).mp hy)
        exact ho e' (List.mem_of_mem_take he')
      have htk : (R.take (i + 1)).map (·.1) = (R.take i).map (·.1) ++ [e.1] := take_map hri
      have hAv : vs.length = A.length := by rw [Rd.dpAll_len hA, List.length_map]
      walk_at "rn"
      refine Re.notInAst hkq (SqL.of hfl) hA hop hok ?_
      walk_at "rn"
      · rename_i hno
        refine ⟨_, A ++ [e.1], _, _, _, _,  rfl, Rd.same_mut hs hf, upd_same, ?_, ?_, ?_, by rw [List.length_append]; simp; omega⟩
        · rw [List.map_append]
          exact push hA (nlMap encA_nl) (Same.refl _) hfl (astDp hkq) (encA_nl _)
        · rw [List.nodup_append]
          refine ⟨hnd, by simp, fun y hy w hw => ?_⟩
          rw [List.mem_singleton.mp hw]
          intro e2; rw [e2] at hy; exact hno hy
        · intro y
          rw [htk, List.mem_append, List.mem_append, hmem]
      · rename_i hyes
        have hyes' : e.1 ∈ A := hyes
        refine ⟨vs, A, _, _, _, _,  rfl, hs, hfl, hA, hnd, fun y => ?_, by omega⟩
        rw [htk, List.mem_append, ← hmem]
        exact ⟨.inl, fun h => h.elim id fun h => by rw [List.mem_singleton.mp h]; exact hyes'⟩
    · rintro σ' H1 ⟨vs, A, c2, c3, c4, c5,  rfl, hs, hfl, hA, hnd, hmem, hAl⟩
      rw [hxl, List.take_length] at hmem
      walk_at "rn"
      rename_i n hn
      have hHn : H n = none := hs.free hn
      refine ⟨f, vs, A, rfl, SqL.of (Rd.nh hn hfl), dpAll_same (Rd.same_new hn) hA, fun B ys l hperm hsrt hl hys => ?_⟩
      have nln : n ≠ l := fun y => by rw [← y, upd_same] at hl; cases hl
      have hqnd : B.Nodup := hperm.nodup_iff.mpr hnd
      have hBl : B.length ≤ 400 := by rw [hperm.length_eq]; omega
      have hyl : ys.length = B.length := by rw [Rd.dpAll_len hys, List.length_map]
      have hbase : Same H (upd (upd H1 n (.lst [])) l (.lst ys)) := (hs.trans (Rd.same_new hn)).trans (Rd.same_new hl)
      refine Rd.forL (fun i σ' H' => ∃ (zs : List V), ∃ c3 c4 c5,  σ' = [some (.ref a), some (.ref f), some (.ref n), c3, c4, c5] ∧ Same H H' ∧ H' l = some (.lst ys) ∧ DpAll K H' ys (B.map encA) ∧ H' n = some (.lst zs) ∧ DpAll K H' zs ((nfOf R (B.take i)).map encR)) (SqL.of upd_same) ⟨[], _, _, _,  rfl, hbase, upd_same, dpAll_same (Rd.same_new hl) hys, (upd_ne nln).trans upd_same, .nil⟩ (fun i σ' H' _ ⟨_, c3, c4, c5,  _, _, h, _⟩ => SqL.of h) ?_ ?_
      · rintro i x σ' H2 hi ⟨zs, c3, c4, c5,  rfl, hs2, hl2, hy2, hn2, hz2⟩
        obtain ⟨d, hd, hdp⟩ := dpAll_at hy2 hi
        obtain ⟨p, hp, rfl⟩ := map_at hd
        obtain ⟨kq, rfl, hkq⟩ := dpAst hdp
        have hop : OkA p := by
          obtain ⟨e', he', rfl⟩ := List.mem_map.mp ((hmem p).mp (hperm.mem_iff.mp (List.mem_of_getElem? hp)))
          exact ho e' he'
        have htk : B.take (i + 1) = B.take i ++ [p] := by rw [List.take_add_one, hp]; rfl
        have hzl := rowsLen hz2
        have hnl := nfOf_len R (B.take i)
        simp only [List.length_take] at hnl
        have hi2 : i < ys.length := (List.getElem?_eq_some_iff.mp hi).1
        walk_at "rn"
        refine lcDFI encR (fun e => if e.1 = p then some e.2 else none) ((hs2.seq hx)) (dpAll_same hs2 hR) (by omega) ?_ ?_
        · rintro e x D acc H' C N hD s he hx' hDl hC hN
          obtain ⟨z, kq', rfl, hz, hkq'⟩ := dpRow hx'
          have hoe := ho e he
          have hk' := Rd.same_tup s hkq
          walk_at "rd"
          · rename_i h; exact hC _ _ (Same.refl _) (if_pos h)
          · rename_i h; exact hN _ (Same.refl _) (if_neg h)
        intro D H3 hD s3 hDl
        refine Rd.nil ⟨D, R.filterMap (fun e => if e.1 = p then some e.2 else none), rfl, SqL.of hDl, ?_⟩
        rw [tot_fm]
        have hn3 := s3 _ _ hn2
        have hl3 := s3 _ _ hl2
        have hk3 := Rd.same_tup s3 hkq
        walk_at "rd"
        · rename_i hne t ht
          refine ⟨_, _, _, _,  rfl, Rd.same_mut ((hs2.trans s3).trans (Rd.same_new ht)) hHn, (upd_ne (Ne.symm nln)).trans (Rd.same_new ht _ _ hl3), ?_, upd_same, ?_⟩
          · exact dpAll_keep (SameT.trans (.of (s3.trans (Rd.same_new ht))) (.put (Rd.same_new ht _ _ hn3))) (nlMap encA_nl) hy2
          · rw [htk, nfOf_yes hne, List.map_append]
            exact push hz2 (nlMap encR_nl) (s3.trans (Rd.same_new ht)) (Rd.same_new ht _ _ hn3) (rowDp (SqT.of upd_same) (Rd.same_tup (Rd.same_new ht) hk3)) (encR_nl _)
        · rename_i he
          refine ⟨zs, _, _, _,  rfl, hs2.trans s3, hl3, dpAll_same s3 hy2, hn3, ?_⟩
          rw [htk, nfOf_no (by omega)]
          exact dpAll_same s3 hz2
      · rintro σ' H2 ⟨zs, c3, c4, c5,  rfl, hs2, hl2, hy2, hn2, hz2⟩
        rw [hyl, List.take_length] at hz2
        walk_at "rn"
        rename_i q hq
        refine k q zs (nfOf R B) _ (hs2.trans (Rd.same_new hq)) (hs2.free hq) upd_same (dpAll_same (Rd.same_new hq) hz2) (nf_nrm hsrt hqnd) (nf_tot hsrt hqnd fun p hp => hperm.mem_iff.mpr ((hmem p).mpr hp))
theorem ok_law_normal {f : Addr} {fd : FuncData} (mf : mg "_law_normal" = some (.ref f)) (F : FnP K "_law_normal" s_law_normal f fd)  (z_sorted : mg "sorted" = none) (z_sum : mg "sum" = none) (z_tuple : mg "tuple" = none) : Cal P w K mg base "_law_normal" 1 ["rows"] (sp_law_normal P w K) :=
  ⟨f, fd, mf, F.kp, F.bindsN fun _ _ _ _ _ _ us hl => match us, hl with | [_], _ => rfl, fn_law_normal F z_sorted z_sum z_tuple⟩

theorem fn_law_integer {f : Addr} {fd : FuncData} (F : FnP K "_law_integer" s_law_integer f fd)  (z_int : mg "int" = none) (z_len : mg "len" = none) (z_range : mg "range" = none) : FnOk P w K mg base CX0 1 f fd ["numbers", "at"] (sp_law_integer P w K) := by
  refine F.ok sc_law_integer (fun vs H Q E h => ?_) (fun cdv A outer s H vs Q E hr h => ?_)
  · obtain ⟨b, ns, i, rfl, _⟩ := h; rfl
  · obtain ⟨b, ns, i, rfl, hb, hb3, hnl, k⟩ := h
    refine ⟨_, PSs.nox (pss_cons (ps_setLc (i := 2) (own := [("k", 4)]) (g := gName 4) (tt := tYes) rfl sc_law_integer.nd rfl rfl (sw_true rfl rfl rfl (by decide +kernel)) (pi_range1 (by rfl) z_range (pa_cons pe_int pa_nil)) (blkOk_by (N := N_law_integer) (sc := defScope s_law_integer) (by decide +kernel)) (fun _ _ _ _ _ => pg_name (i := 4) sc_law_integer.nd rfl (by first | exact Or.inl rfl | exact Or.inr rfl)) (fun _ _ _ _ _ => pts_nil) (fun _ _ _ _ _ => (pe_ix (Rb.ix_listK (K := K) rfl) (pv 0) (pe_op op_mod (pe_callTy call_int1 (by rfl) z_int boot_int (pa_cons (pe_op op_add (pv 1) (pv 4)) pa_nil)) (pe_callB (Rb.call_lenK (K := K) rfl) (by rfl) z_len boot_len (pa_cons (pv 0) pa_nil))) (fun _ _ => rfl))))
      (pss_cons (ps_if (pt_cmpR op_eq (pe_op op_mod (pe_ix ix_list (pv 2) pe_int (fun _ _ => rfl)) pe_int) pe_int (nomark _)) (pss_one (ps_ret (pe_op op_mod (pe_ix ix_list (pv 2) pe_int (fun _ _ => rfl)) pe_int))) pss_nil)
      (pss_cons (ps_set (i := 3) sc_law_integer.nd rfl (by first | exact Or.inl rfl | exact Or.inr rfl) (pe_op op_add (pe_op op_mul (pe_ix ix_list (pv 2) pe_int (fun _ _ => rfl)) pe_int) (pe_ix ix_list (pv 2) pe_int (fun _ _ => rfl))))
      (pss_cons (ps_if (pt_cmpR op_eq (pe_op op_mod (pe_ix ix_list (pv 2) pe_int (fun _ _ => rfl)) pe_int) pe_int (nomark _)) (pss_one (ps_set (i := 3) sc_law_integer.nd rfl (by first | exact Or.inl rfl | exact Or.inr rfl) (pe_op op_add (pe_op op_add (pe_op op_mul (pe_ix ix_list (pv 2) pe_int (fun _ _ => rfl)) (pe_op op_pow pe_int pe_int)) (pe_op op_mul (pe_ix ix_list (pv 2) pe_int (fun _ _ => rfl)) (pe_op op_pow pe_int pe_int))) (pe_ix ix_list (pv 2) pe_int (fun _ _ => rfl))))) pss_nil)
      (pss_cons (ps_if (pt_cmpR op_eq (pe_op op_mod (pe_ix ix_list (pv 2) pe_int (fun _ _ => rfl)) pe_int) pe_int (nomark _)) (pss_one (ps_ret (pe_op op_sub pe_int (pv 3)))) pss_nil)
      (pss_one (ps_ret (pv 3)))))))), ?_⟩
    try simp only [Rd.cxK, Re.cxP, Re.cxW]
    walk_at "rn"
    refine Rd.lcR1 (fun D i acc H' => ∃ xs : List Int, acc = xs.map V.int ∧ xs.length = i ∧ B3 xs) (by omega) (fun D H' _ _ _ => ⟨[], rfl, rfl, B3.nil⟩) ?_ ?_
    · rintro i acc D H' hD s hi hl hDl ⟨xs, rfl, hxl, hx3⟩
      have hb' := s _ _ hb
      walk_at "rn"
      rename_i v hv1 hv2
      exact Rd.lcE hD hDl s hl (by omega) ⟨xs ++ [v], by rw [List.map_append]; rfl, by rw [List.length_append]; simp; omega, hx3.push ⟨hv1, hv2⟩⟩
    · rintro D acc H' hD s hDl hal ⟨xs, rfl, hxl, hx3⟩
      rw [List.length_map] at hal
      walk_at "rd"
      all_goals exact k _ _ s
theorem ok_law_integer {f : Addr} {fd : FuncData} (mf : mg "_law_integer" = some (.ref f)) (F : FnP K "_law_integer" s_law_integer f fd)  (z_int : mg "int" = none) (z_len : mg "len" = none) (z_range : mg "range" = none) : Cal P w K mg base "_law_integer" 1 ["numbers", "at"] (sp_law_integer P w K) :=
  ⟨f, fd, mf, F.kp, F.bindsN fun _ _ _ _ _ _ us hl => match us, hl with | [_, _], _ => rfl, fn_law_integer F z_int z_len z_range⟩

theorem fn_weight {f : Addr} {fd : FuncData} (F : FnP K "weight" s_weight f fd) (C_weight_of_output : Cal P w K mg base "_weight_of_output" 1 ["output"] (sp_weight_of_output P w K)) (z_len : mg "len" = none) (z_sum : mg "sum" = none) (W_Transaction : CF_Transaction K mg) (W_Bundle : CF_Bundle K mg) : FnOk P w K mg base CX0 2 f fd ["tx"] (sp_weight P w K) := by
  obtain ⟨f_weight_of_output, fd_weight_of_output, m_weight_of_output, k_weight_of_output, b_weight_of_output, G_weight_of_output⟩ := C_weight_of_output.ex
  have cf_Transaction := W_Transaction
  have cfc_Transaction := cf_Transaction.cls
  have cfn_Transaction_data := cf_Transaction.n_data
  have cfn_Transaction_deeds := cf_Transaction.n_deeds
  have cfn_Transaction_draws := cf_Transaction.n_draws
  have cfn_Transaction_looks := cf_Transaction.n_looks
  have cfn_Transaction_makes := cf_Transaction.n_makes
  have cfn_Transaction_mint := cf_Transaction.n_mint
  have cfn_Transaction_signers := cf_Transaction.n_signers
  have cfn_Transaction_spends := cf_Transaction.n_spends
  have cf_Bundle := W_Bundle
  have cfc_Bundle := cf_Bundle.cls
  have cfn_Bundle_rows := cf_Bundle.n_rows
  refine F.ok sc_weight (fun vs H Q E h => ?_) (fun cdv A outer s H vs Q E hr h => ?_)
  · obtain ⟨t, F, rfl, _⟩ := h; rfl
  · obtain ⟨t, F, rfl, ht, hO, k⟩ := h
    refine ⟨_, PSs.nox (pss_cons (ps_set (i := 1) sc_weight.nd rfl (by first | exact Or.inl rfl | exact Or.inr rfl) (pe_op op_add (pe_callB call_len_seq (by rfl) z_len boot_len (pa_cons (pe_fld (pv 0) rfl) pa_nil)) (pe_callB call_len_seq (by rfl) z_len boot_len (pa_cons (pe_fld (pv 0) rfl) pa_nil))))
      (pss_cons (ps_set (i := 2) sc_weight.nd rfl (by first | exact Or.inl rfl | exact Or.inr rfl) (pe_callB (cr_sum rfl) (by rfl) z_sum boot_sum (pa_cons (pe_lc (own := [("output", 5)]) (g := gName 5) (tt := tYes) rfl sc_weight.nd (pi_tup (pe_fld (pv 0) rfl)) (blkOk_by (N := N_weight) (sc := defScope s_weight) (by decide +kernel)) (fun _ _ _ _ _ => pg_name (i := 5) sc_weight.nd rfl (by first | exact Or.inl rfl | exact Or.inr rfl)) (fun _ _ _ _ _ => pts_nil) (fun _ _ _ _ _ => (pe_call G_weight_of_output (hr.mono (by decide)) (by rfl) m_weight_of_output k_weight_of_output b_weight_of_output .nil pass0 (pa_cons (pv 5) pa_nil)))) pa_nil)))
      (pss_cons (ps_set (i := 3) sc_weight.nd rfl (by first | exact Or.inl rfl | exact Or.inr rfl) (pe_callB (cr_sum rfl) (by rfl) z_sum boot_sum (pa_cons (pe_lc (own := [("purpose", 6), ("datum", 7)]) (g := (gTup K 2 (gCons (gName 6) (gCons (gName 7) gNil)))) (tt := tYes) rfl sc_weight.nd (pi_tup (pe_fld (pv 0) rfl)) (blkOk_by (N := N_weight) (sc := defScope s_weight) (by decide +kernel)) (fun _ _ _ _ _ => (pg_tup (n := 2) rfl (pgs_cons (pg_name (i := 6) sc_weight.nd rfl (by first | exact Or.inl rfl | exact Or.inr rfl)) (pgs_cons (pg_name (i := 7) sc_weight.nd rfl (by first | exact Or.inl rfl | exact Or.inr rfl)) pgs_nil)))) (fun _ _ _ _ _ => pts_nil) (fun _ _ _ _ _ => (pe_op op_add pe_int (pe_callB (Rb.call_lenK (K := K) rfl) (by rfl) z_len boot_len (pa_cons (pv 7) pa_nil))))) pa_nil)))
      (pss_cons (ps_set (i := 4) sc_weight.nd rfl (by first | exact Or.inl rfl | exact Or.inr rfl) (pe_op op_add (pe_op op_add (pe_callB call_len_seq (by rfl) z_len boot_len (pa_cons (pe_fld (pe_fld (pv 0) rfl) rfl) pa_nil)) (pe_callB call_len_seq (by rfl) z_len boot_len (pa_cons (pe_fld (pv 0) rfl) pa_nil))) (pe_callB call_len_seq (by rfl) z_len boot_len (pa_cons (pe_fld (pv 0) rfl) pa_nil))))
      (pss_one (ps_ret (pe_op op_add (pe_op op_add (pe_op op_add (pe_op op_add (pe_op op_add pe_int (pe_op op_mul pe_int (pv 1))) (pv 2)) (pe_callB call_len_seq (by rfl) z_len boot_len (pa_cons (pe_fld (pv 0) rfl) pa_nil))) (pv 3)) (pe_op op_mul pe_int (pv 4))))))))), ?_⟩
    try simp only [Rd.cxK, Re.cxP, Re.cxW]
    obtain ⟨dx, p1, p2, p3, p4, c, p9, p10, p11, p12, os, h0, h1, h2, h3, h4, h5, h6, h9, h10, h11, h12⟩ := ht.ex
    obtain ⟨bdx, r, dd, xs, g1, g2, g3, g4, g5⟩ := h6
    have hol : os.length = F.makes.length := Paired.length h5
    obtain ⟨_, u1, e1, q1, d1⟩ := dp_tup h1; cases e1
    obtain ⟨_, u2, e2, q2, d2⟩ := dp_tup h2; cases e2
    obtain ⟨_, u9, e9, q9, d9⟩ := dp_tup h9; cases e9
    obtain ⟨_, u10, e10, q10, d10⟩ := dp_tup h10; cases e10
    obtain ⟨_, u11, e11, q11, d11⟩ := dp_tup h11; cases e11
    obtain ⟨_, u12, e12, q12, d12⟩ := dp_tup h12; cases e12
    have l1 := Rd.dpAll_len d1
    have l2 := Rd.dpAll_len d2
    have l9 := Rd.dpAll_len d9
    have l10 := Rd.dpAll_len d10
    have l11 := Rd.dpAll_len d11
    have l12 := Rd.dpAll_len d12
    rw [List.length_map] at l1 l2 l9 l10 l12
    have el : xs.length = (nf F.mint).length := rowsLen g3
    have hm4 := hO.l4
    have hm7 := hO.l7
    walk_at "rn"
    refine Rb.lcT (fun D i acc H' => acc = ((F.makes.take i).map wo).map V.int) h4 (fun D H' _ _ _ => rfl) ?_ ?_
    · rintro i x acc D H' hD s hi hl2 hDl rfl
      obtain ⟨b, o, rfl, ho, hout⟩ := Outs.at_ (h5.keep s) hi
      have hi2 : i < os.length := (List.getElem?_eq_some_iff.mp hi).1
      walk_at "rn"
      refine ⟨_, o, rfl, hout, (hO.makes o (List.mem_of_getElem? ho)), ?_⟩
      refine Rd.lcE hD hDl s hl2 (by omega) ?_
      rw [take_map ho, List.map_append]; rfl
    rintro D acc H1 hD s1 hDl hal rfl
    rw [hol, List.take_length] at hDl
    refine Rd.nil ⟨D, F.makes.map wo, rfl, SqL.of hDl, ?_⟩
    have h01 := s1 _ _ h0
    walk_at "rn"
    refine lcDT encFp (fun e => .int ((2 : Int) + (e.2.length : Int))) (Rd.same_tup s1 q10) (dpAll_same s1 d10) (by omega) (fun _ _ => rfl) ?_ ?_
    · rintro e x D2 acc2 H' C hD2 s he hx hDl2 hC
      obtain ⟨z, u, v, rfl, hz, hu, hv⟩ := dp_pair hx
      obtain ⟨_, ud, ev, qd, dpd⟩ := dp_tup hv
      cases ev
      have hdl := Rd.dpAll_len dpd
      rw [List.length_map] at hdl
      refine pair_of hz ?_
      walk_at "rn"
      rw [hdl]
      exact hC _ _ (Same.refl _) (.int _)
    rintro D2 acc2 H2 hD2 s2 hDl2 hacc2
    have e2 : F.data.map (fun e => PyData.int ((2 : Int) + (e.2.length : Int))) = (F.data.map fun e => (2 : Int) + (e.2.length : Int)).map PyData.int := by rw [List.map_map]; rfl
    rw [e2] at hacc2
    rw [dpAll_ints hacc2] at hDl2
    refine Rd.nil ⟨D2, _, rfl, SqL.of hDl2, ?_⟩
    have s12 := s1.trans s2
    have h02 := s12 _ _ h0
    have g12 := s12 _ _ g1
    have g22 := s12 _ _ g2
    have q92 := Rd.same_tup s12 q9
    have q112 := Rd.same_tup s12 q11
    have q122 := Rd.same_tup s12 q12
    clear h0 h01 g1 g2
    walk_at "rn"
    have k2 := k H2 s12
    unfold wt at k2
    rw [← el, ← l1, ← l2, ← l9, ← l11, ← l12] at k2
    exact k2
theorem ok_weight {f : Addr} {fd : FuncData} (mf : mg "weight" = some (.ref f)) (F : FnP K "weight" s_weight f fd) (C_weight_of_output : Cal P w K mg base "_weight_of_output" 1 ["output"] (sp_weight_of_output P w K)) (z_len : mg "len" = none) (z_sum : mg "sum" = none) (W_Transaction : CF_Transaction K mg) (W_Bundle : CF_Bundle K mg) : Cal P w K mg base "weight" 2 ["tx"] (sp_weight P w K) :=
  ⟨f, fd, mf, F.kp, F.bindsN fun _ _ _ _ _ _ us hl => match us, hl with | [_], _ => rfl, fn_weight F C_weight_of_output z_len z_sum W_Transaction W_Bundle⟩

theorem bnd_Bundle___init {fd : FuncData} (F : FunD K "__init__" "Bundle.__init__" (defArgs s_Bundle___init) (defBody s_Bundle___init) (defScope s_Bundle___init) [V.ref (He.dflAt ("Bundle", some "__init__") 0 K)] [] (He.fAd K ("Bundle", some "__init__")) fd) : Binds K fd ["self", "rows"] [] := by
  obtain ⟨ds, r, b⟩ := F.binds1 (ps := ["self", "rows"]) 2 1 (by simp) rfl (fun T kV doc pm an cdv ct us its hu hi => match us, hu, its, hi with | [_, _], _, [_], _ => ⟨_, rfl, rfl⟩)
  cases r
  exact b
theorem bnd0_Bundle___init {fd : FuncData} (F : FunD K "__init__" "Bundle.__init__" (defArgs s_Bundle___init) (defBody s_Bundle___init) (defScope s_Bundle___init) [V.ref (He.dflAt ("Bundle", some "__init__") 0 K)] [] (He.fAd K ("Bundle", some "__init__")) fd) : ∃ ds, Vals [V.ref (He.dflAt ("Bundle", some "__init__") 0 K)] ds ∧ Binds K fd ["self", "rows"] ds := by
  obtain ⟨ds, r, b⟩ := F.binds1 (ps := ["self", "rows"]) 1 0 (by simp) rfl (fun T kV doc pm an cdv ct us its hu hi => match us, hu, its, hi with | [_], _, [_], _ => ⟨_, rfl, rfl⟩)
  exact ⟨ds, r, b⟩
theorem fn_Bundle___init {fd : FuncData} (F : FunD K "__init__" "Bundle.__init__" (defArgs s_Bundle___init) (defBody s_Bundle___init) (defScope s_Bundle___init) [V.ref (He.dflAt ("Bundle", some "__init__") 0 K)] [] (He.fAd K ("Bundle", some "__init__")) fd) (C_Bundle___iter : CalM P w K mg base (He.fAd K ("Bundle", some "__iter__")) 1 ["self"] [] (sp_Bundle___iter P w K)) (z_sorted : mg "sorted" = none) (z_tuple : mg "tuple" = none) (W_Bundle : CF_Bundle K mg) : FnOk P w K mg base CX0 2 (He.fAd K ("Bundle", some "__init__")) fd ["self", "rows"] (sp_Bundle___init P w K) := by
  obtain ⟨fd_Bundle___iter, b_Bundle___iter, G_Bundle___iter, ds_Bundle___iter, dr_Bundle___iter, db_Bundle___iter⟩ := C_Bundle___iter.ex
  have cf_Bundle := W_Bundle
  have cfc_Bundle := cf_Bundle.cls
  have cfn_Bundle__quantities := cf_Bundle.n__quantities
  have cfn_Bundle_rows := cf_Bundle.n_rows
  refine F.ok sc_Bundle___init (fun vs H Q E h => ?_) (fun cdv A outer s H vs Q E hr h => ?_)
  · obtain ⟨b, dx, a, xs, R, rfl, _⟩ := h; rfl
  · obtain ⟨b, dx, a, xs, R, rfl, hb, hx, hR, hl, k⟩ := h
    refine ⟨_, PSs.nox (pss_cons (ps_set (i := 2) sc_Bundle___init.nd rfl (by first | exact Or.inl rfl | exact Or.inr rfl) Ef.pe_dnewXN)
      (pss_cons (ps_for PassesOwn.never rfl (Bd.pi_any G_Bundle___iter cf_Bundle.mt___iter__.at_ cf_Bundle.mt___iter__.fn b_Bundle___iter pass0 (hr.mono (by decide)) (pv 1)) (pg_tup (n := 2) rfl (pgs_cons (pg_name (i := 3) sc_Bundle___init.nd rfl (by first | exact Or.inl rfl | exact Or.inr rfl)) (pgs_cons (pg_name (i := 4) sc_Bundle___init.nd rfl (by first | exact Or.inl rfl | exact Or.inr rfl)) pgs_nil))) (pss_one (Es.ps_dputX (hu_of hr) (pv 2) (pv 3) (pe_op op_add (Es.pe_dget2X (hu_of hr) (pv 2) (pv 3) pe_int ⟨rfl, rfl, rfl, rfl⟩) (pv 4)) rfl)))
      (pss_cons (ps_fld (pv 0) (Es.pe_dcX (own := [("asset", 3)]) (hu_of hr) rfl sc_Bundle___init.nd (pi_list (pe_callB (Es.cr_sortedX rfl) (by rfl) z_sorted boot_sorted (pa_cons (pv 2) pa_nil))) (blkOk_by (N := N_Bundle___init) (sc := defScope s_Bundle___init) (by decide +kernel)) (fun _ _ _ _ _ => (pg_name (i := 3) sc_Bundle___init.nd rfl (by first | exact Or.inl rfl | exact Or.inr rfl))) (fun _ _ _ _ _ => pts_one (pt_cmpR op_ne (Es.pe_dgetXk (P := P) (w := w) (K := K) (e := rfl) (e1 := rfl) (e2 := rfl) (hu_of hr) (pv 2) (pv 3) (fun _ _ => rfl)) pe_int (nomark _))) (fun _ _ _ _ _ => (pv 3)) (fun _ _ _ _ _ => (Es.pe_dgetXk (P := P) (w := w) (K := K) (e := rfl) (e1 := rfl) (e2 := rfl) (hu_of hr) (pv 2) (pv 3) (fun _ _ => rfl)))) rfl)
      (pss_one (ps_fld (pv 0) (pe_callTy (Es.cr_tupX rfl) (by rfl) z_tuple boot_tuple (pa_cons (Es.pe_ditemsX (pe_fld (pv 0) rfl)) pa_nil)) rfl))))), ?_⟩
    try simp only [Rd.cxK, Re.cxP, Re.cxW]
    refine Rd.seq (Rd.asg (Ef.dnewXN fun d hd hdn dd => ?_))
    have nbd : d ≠ b := fun z => by rw [z, hb] at hd; cases hd
    have hxl := rowsLen hR
    refine Rd.seq (forAny (H0 := H) (fun i σ' H' => ∃ m c1 c2, σ' = [some (.ref b), some (.ref a), some (.ref d), c1, c2] ∧ Same H H' ∧ DS P w K H' d (eD m) ∧ Sums m (R.take i) ∧ m.length ≤ i) rfl hx (Rd.same_new hd) ⟨d, _, upd_same, hdn⟩ ⟨[], _, _, rfl, Rd.same_new hd, dd, Sums.nil, Nat.le_refl _⟩ (fun i σ' H' _ ⟨_, _, _, _, h, _⟩ => h) ?_ ?_)
    · rintro i x σ' H' hi ⟨m, c1, c2, rfl, hs, hm, hsum, hml⟩
      obtain ⟨z, kq, ⟨p, q⟩, rfl, hri, hz, hkq'⟩ := Es.rowAt (dpAll_same hs hR) hi
      have hi2 : i < R.length := (List.getElem?_eq_some_iff.mp hri).1
      refine Dj.pair_of hz ?_
      refine Re.dputX (Rd.op (Re.dget2X ?_))
      refine Rd.var rfl (Re.isX hm (Rd.var rfl (Rd.cst ?_)))
      refine Re.dgetOX hm hkq' ?_
      rw [hsum.get]
      refine Rd.var rfl (Rd.opI0 ?_)
      refine Rd.var rfl (Rd.var rfl ⟨d, eD m, eK p, kq, rfl, rfl, hm, Rd.smallT (by unfold eD; rw [List.length_map]; omega), hkq', fun ys d2 => ?_⟩)
      rw [putK_eD] at d2
      refine ⟨_, _, _, rfl, Rd.same_mut hs hd, d2, ?_, ?_⟩
      · have := hsum.put (p, q)
        rw [List.take_add_one, hri]
        exact this
      · have := length_putK m p (.int (tot (R.take i) (p, q).1 + (p, q).2)); omega
    · rintro σ' H1 ⟨m, c1, c2, rfl, hs, hm, hsum, hml⟩
      rw [hxl, List.take_length] at hsum
      refine Rd.seq (Rb.sfld (Re.dcTX ?_))
      refine Rd.cb (Rd.cons (Rd.var rfl (Rd.nil ?_)))
      refine ⟨d, m, rfl, hm, fun ps l hps hsrt hperm hl => ?_⟩
      have hnd : (ps.map (·.2)).Nodup := hperm.nodup_iff.mpr hsum.nd
      have sl := Rd.same_new (o := .lst (ps.map fun z => V.ref z.1)) hl
      have hm2 : DS P w K (upd H1 l (.lst (ps.map fun z => V.ref z.1))) d (eD m) := hm.keep sl
      have hpl : ps.length ≤ 1000 := by
        have e := hperm.length_eq
        rw [List.length_map, List.length_map] at e
        omega
      refine Re.dcLX (fun D i H' => Same (upd H1 l (.lst (ps.map fun z => V.ref z.1))) H' ∧ DS P w K H' D (eD ((nfOf R ((ps.take i).map (·.2))).map fun e => (e.1, V.int e.2)))) (SqL.of upd_same) (fun D hD dD => ⟨Rd.same_new hD, dD⟩) (fun D i H' _ h => h.1.seq (SqL.of upd_same)) ?_ ?_
      · rintro D i x H' hD hi ⟨hsm, hDm⟩
        obtain ⟨z, hz, rfl⟩ : ∃ z, ps[i]? = some z ∧ x = V.ref z.1 := by
          rw [List.getElem?_map] at hi
          cases e : ps[i]? with
          | none => rw [e] at hi; cases hi
          | some z => rw [e] at hi; exact ⟨z, rfl, (Option.some.inj hi).symm⟩
        have hzm : z ∈ ps := List.mem_of_getElem? hz
        have hk1 : SqT K H' z.1 [.str z.2.1, .int z.2.2] := Rd.same_tup (sl.trans hsm) (hps z hzm)
        have hm3 : DS P w K H' d (eD m) := hm2.keep hsm
        have hmem : z.2 ∈ R.map (·.1) := (hsum.keys z.2).mp (hperm.mem_iff.mp (List.mem_map_of_mem (f := (·.2)) hzm))
        have hval : valV m z.2 = some (.int (tot R z.2)) := by rw [hsum.val, if_pos hmem]
        have htk : (ps.take (i + 1)).map (·.2) = (ps.take i).map (·.2) ++ [z.2] := by rw [List.take_add_one, hz, List.map_append]; rfl
        have hno : z.2 ∉ (ps.take i).map (·.2) := by
          have h2 : ((ps.take (i + 1)).map (·.2)).Nodup := (List.take_sublist _ _).map _ |>.nodup hnd
          rw [htk, List.nodup_append] at h2
          intro q
          exact h2.2.2 z.2 q z.2 (List.mem_singleton.mpr rfl) rfl
        refine ⟨rfl, Rd.tst (Rd.op (Re.dgetX (Rd.var rfl (Rd.var rfl (Re.dgetSX hm3 hk1 hval (Rd.cst (Rd.neI (Rd.bl (Rd.iteN (fun hne => ?_) (fun he => ?_))))))))))⟩
        · refine Rd.var rfl (Re.dgetX (Rd.var rfl (Rd.var rfl (Re.dgetSX hm3 hk1 hval ?_))))
          refine ⟨_, eK z.2, z.1, rfl, hk1, hDm, Rd.smallT ?_, fun ys d2 => ⟨Rd.same_mut hsm hD, ?_⟩⟩
          · unfold eD
            rw [List.length_map, List.length_map]
            have := nfOf_len R ((ps.take i).map (·.2))
            simp only [List.length_map, List.length_take] at this
            omega
          · rw [putK_eD, put_nf hne hno, ← htk] at d2
            exact d2
        · refine ⟨hsm, ?_⟩
          rw [htk, nfOf_no he]; exact hDm
      · rintro D H2 hD ⟨hsm, hDm⟩
        rw [List.length_map, List.take_length] at hDm
        have hb2 : H2 b = some (.ins (He.ga K "Bundle") dx []) := hsm _ _ (sl _ _ (hs _ _ hb))
        have nDb : D ≠ b := fun z => by
          have q := sl _ _ (hs _ _ hb)
          rw [← z, hD] at q; cases q
        refine Rd.var rfl ⟨b, _, dx, [], rfl, hb2, cfc_Bundle, cfn_Bundle__quantities, by decide, ?_⟩
        have hD3 : DS P w K (upd H2 b (.ins (He.ga K "Bundle") dx [("_quantities", .ref D)])) D (eD ((nfOf R (ps.map (·.2))).map fun e => (e.1, V.int e.2))) :=
          hDm.keepT (upd_ne nDb) fun q ys e => sqT_upd hb2 (fun ys q => by cases q) (fun z u q => by cases q) e
        rw [show putF "_quantities" (V.ref D) [] = [(("_quantities" : Str), V.ref D)] from rfl]
        refine Rb.sfld (Rd.cb (Rd.cons (Re.itemsX (Rb.fld (Rd.var rfl ⟨b, _, dx, _, .ref D, rfl, upd_same, cfc_Bundle, cfn_Bundle__quantities, rfl, D, _, rfl, hD3, fun p hp => Rd.nil ?_⟩)))))
        refine ⟨p, D, _, rfl, upd_same, hD3.keep (Rd.same_new hp), fun H' q zs e hq hzs htup hrow => ?_⟩
        have hbp : b ≠ p := fun z => by rw [← z, upd_same] at hp; cases hp
        have hb3 : H' b = some (.ins (He.ga K "Bundle") dx [("_quantities", .ref D)]) := e _ _ ((upd_ne hbp).trans upd_same)
        refine Rd.var rfl ⟨b, _, dx, _, rfl, hb3, cfc_Bundle, cfn_Bundle_rows, by simp, ?_⟩
        rw [show putF "rows" (V.ref q) [(("_quantities" : Str), V.ref D)] = [(("_quantities" : Str), V.ref D), (("rows" : Str), V.ref q)] from rfl]
        have nqb : q ≠ b := fun z => by rw [z, hb3] at htup; cases htup
        have keepb : Beside b H (upd H' b (.ins (He.ga K "Bundle") dx [("_quantities", .ref D), ("rows", .ref q)])) := fun a' o ha e1 => by
          have e2 := hsm _ _ (sl _ _ (hs _ _ e1))
          have e3 : upd H2 b (.ins (He.ga K "Bundle") dx [("_quantities", .ref D)]) a' = some o := (upd_ne ha).trans e2
          have e4 := e _ _ (Rd.same_new hp _ _ e3)
          exact (upd_ne ha).trans e4
        have hrl : DpAll K H' (zs.map fun z => V.ref z.1) ((nfOf R (ps.map (·.2))).map encR) := rowsOf hzs hrow
        have up : ∀ q ys, SqT K H' q ys → SqT K (upd H' b (.ins (He.ga K "Bundle") dx [("_quantities", .ref D), ("rows", .ref q)])) q ys := fun q ys e => sqT_upd hb3 (fun ys q => by cases q) (fun z u q => by cases q) e
        have bes : Beside b H' (upd H' b (.ins (He.ga K "Bundle") dx [("_quantities", .ref D), ("rows", .ref q)])) := fun a' o ha e1 => (upd_ne ha).trans e1
        refine k _ (nfOf R (ps.map (·.2))) keepb (nf_nrm hsrt hnd) (nf_tot hsrt hnd fun p' h' => hperm.mem_iff.mpr ((hsum.keys p').mpr h')) ⟨dx, q, D, _, upd_same, (upd_ne nqb).trans htup, bes.dpAll hb3 hrl, ((hD3.keep (Rd.same_new hp)).keep e).keepT (upd_ne nDb) fun q' ys eq => sqT_upd hb3 (fun ys q => by cases q) (fun z u q => by cases q) eq, nf_nrm hsrt hnd⟩
theorem ok_Bundle___init {fd : FuncData} (F : FunD K "__init__" "Bundle.__init__" (defArgs s_Bundle___init) (defBody s_Bundle___init) (defScope s_Bundle___init) [V.ref (He.dflAt ("Bundle", some "__init__") 0 K)] [] (He.fAd K ("Bundle", some "__init__")) fd) (C_Bundle___iter : CalM P w K mg base (He.fAd K ("Bundle", some "__iter__")) 1 ["self"] [] (sp_Bundle___iter P w K)) (z_sorted : mg "sorted" = none) (z_tuple : mg "tuple" = none) (W_Bundle : CF_Bundle K mg) : CalM P w K mg base (He.fAd K ("Bundle", some "__init__")) 2 ["self", "rows"] [V.ref (He.dflAt ("Bundle", some "__init__") 0 K)] (sp_Bundle___init P w K) :=
  ⟨fd, (bnd_Bundle___init F), fn_Bundle___init F C_Bundle___iter z_sorted z_tuple W_Bundle, (bnd0_Bundle___init F)⟩

theorem fn_Transaction_picture {fd : FuncData} (F : FunD K "picture" "Transaction.picture" (defArgs s_Transaction_picture) (defBody s_Transaction_picture) (defScope s_Transaction_picture) [] [] (He.fAd K ("Transaction", some "picture")) fd) (C_Output_picture : CalM P w K mg base (He.fAd K ("Output", some "picture")) 1 ["self"] [] (sp_Output_picture P w K)) (z_tuple : mg "tuple" = none) (W_Output : CF_Output K mg) (W_Transaction : CF_Transaction K mg) (W_Bundle : CF_Bundle K mg) : FnOk P w K mg base CX0 2 (He.fAd K ("Transaction", some "picture")) fd ["self"] (sp_Transaction_picture P w K) := by
  obtain ⟨fd_Output_picture, b_Output_picture, G_Output_picture, ds_Output_picture, dr_Output_picture, db_Output_picture⟩ := C_Output_picture.ex
  have cf_Output := W_Output
  have cfc_Output := cf_Output.cls
  have cf_Transaction := W_Transaction
  have cfc_Transaction := cf_Transaction.cls
  have cfn_Transaction_approved := cf_Transaction.n_approved
  have cfn_Transaction_begins := cf_Transaction.n_begins
  have cfn_Transaction_data := cf_Transaction.n_data
  have cfn_Transaction_deeds := cf_Transaction.n_deeds
  have cfn_Transaction_draws := cf_Transaction.n_draws
  have cfn_Transaction_ends := cf_Transaction.n_ends
  have cfn_Transaction_fee := cf_Transaction.n_fee
  have cfn_Transaction_looks := cf_Transaction.n_looks
  have cfn_Transaction_makes := cf_Transaction.n_makes
  have cfn_Transaction_mint := cf_Transaction.n_mint
  have cfn_Transaction_number := cf_Transaction.n_number
  have cfn_Transaction_pledge := cf_Transaction.n_pledge
  have cfn_Transaction_signers := cf_Transaction.n_signers
  have cfn_Transaction_spends := cf_Transaction.n_spends
  have cf_Bundle := W_Bundle
  have cfc_Bundle := cf_Bundle.cls
  have cfn_Bundle_rows := cf_Bundle.n_rows
  refine F.ok sc_Transaction_picture (fun vs H Q E h => ?_) (fun cdv A outer s H vs Q E hr h => ?_)
  · obtain ⟨t, F, rfl, _⟩ := h; rfl
  · obtain ⟨t, F, rfl, ht, hO, k⟩ := h
    refine ⟨_, PSs.nox (pss_cons (ps_set (i := 1) sc_Transaction_picture.nd rfl (by first | exact Or.inl rfl | exact Or.inr rfl) (pe_callTy call_tuple_of (by rfl) z_tuple boot_tuple (pa_cons (pe_lc (own := [("output", 2)]) (g := gName 2) (tt := tYes) rfl sc_Transaction_picture.nd (pi_tup (pe_fld (pv 0) rfl)) (blkOk_by (N := N_Transaction_picture) (sc := defScope s_Transaction_picture) (by decide +kernel)) (fun _ _ _ _ _ => pg_name (i := 2) sc_Transaction_picture.nd rfl (by first | exact Or.inl rfl | exact Or.inr rfl)) (fun _ _ _ _ _ => pts_nil) (fun _ _ _ _ _ => (pe_meth0 (pv 2) cf_Output.cls cf_Output.mt_picture G_Output_picture (hr.mono (by decide)) b_Output_picture .nil pass0))) pa_nil)))
      (pss_one (ps_ret (pe_tup (pa_cons (pe_fld (pv 0) rfl) (pa_cons (pe_fld (pv 0) rfl) (pa_cons (pe_fld (pv 0) rfl) (pa_cons (pe_fld (pv 0) rfl) (pa_cons (pv 1) (pa_cons (pe_fld (pe_fld (pv 0) rfl) rfl) (pa_cons (pe_fld (pv 0) rfl) (pa_cons (pe_fld (pv 0) rfl) (pa_cons (pe_fld (pv 0) rfl) (pa_cons (pe_fld (pv 0) rfl) (pa_cons (pe_fld (pv 0) rfl) (pa_cons (pe_fld (pv 0) rfl) (pa_cons (pe_fld (pv 0) rfl) (pa_cons (pe_fld (pv 0) rfl) pa_nil)))))))))))))))))), ?_⟩
    try simp only [Rd.cxK, Re.cxP, Re.cxW]
    obtain ⟨dx, p1, p2, p3, p4, c, p9, p10, p11, p12, os, h0, h1, h2, h3, h4, h5, h6, h9, h10, h11, h12⟩ := ht.ex
    obtain ⟨bdx, r, d, xs, g1, g2, g3, g4, g5⟩ := h6
    have hol : os.length = F.makes.length := Paired.length h5
    have hm4 := hO.l4
    walk_at "rn"
    refine Rb.lcT (fun D i acc H' => DpAll K H' acc ((F.makes.take i).map encOp)) h4 (fun D H' _ _ _ => .nil) ?_ ?_
    · intro i x acc D H' hD s hi hl2 hDl hacc
      obtain ⟨b, o, rfl, ho, hout⟩ := Outs.at_ (h5.keep s) hi
      have hi2 : i < os.length := (List.getElem?_eq_some_iff.mp hi).1
      have hoo := hO.makes o (List.mem_of_getElem? ho)
      walk_at "rn"
      have hout2 := hout
      obtain ⟨odx, ou, obb, odd, q1, q2, q3, q4⟩ := hout
      refine Re.methI q1 rfl ?_
      walk_at "rn"
      refine ⟨_, o, rfl, hout2, fun p H2 s2 hp => ?_⟩
      refine Rd.lcE hD (s2 _ _ hDl) (s.trans s2) hl2 (by omega) ?_
      have st : SameT H2 (upd H2 D (.lst (acc ++ [.ref p]))) := .put (s2 _ _ hDl)
      rw [take_map ho]
      refine dpAll_app (dpAll_keep (SameT.trans (.of s2) st) (nlAll_mem.mpr fun d hd => ?_) hacc) (dpAll_one (dp_keep st (encOp_nl hoo) hp))
      obtain ⟨o2, ho2, rfl⟩ := List.mem_map.mp hd
      exact encOp_nl (hO.makes o2 (List.mem_of_mem_take ho2))
    intro D acc H' hD s hDl hal hacc
    rw [hol, List.take_length] at hacc
    walk_at "rn"
    rename_i pm hpm p hp
    have s3 := (s.trans (Rd.same_new (o := .tup acc) hpm)).trans (Rd.same_new (o := .tup [.int F.number, .ref p1, .ref p2, .ref p3, .ref pm, .ref r, .int F.fee, .int F.begins, .int F.ends, .ref p9, .ref p10, .ref p11, .ref p12, .bl F.approved]) hp)
    have s4 := (Rd.same_new (o := .tup acc) hpm).trans (Rd.same_new (o := .tup [.int F.number, .ref p1, .ref p2, .ref p3, .ref pm, .ref r, .int F.fee, .int F.begins, .int F.ends, .ref p9, .ref p10, .ref p11, .ref p12, .bl F.approved]) hp)
    refine k p _ s3 (.tup (SqT.of upd_same) ?_)
    exact .cons (.int _) (.cons (dpS1 h1 s3) (.cons (dpS1 h2 s3) (.cons (dpS1 h3 s3) (.cons (.tup (SqT.of (Rd.same_new hp _ _ upd_same)) (dpAll_same s4 hacc)) (.cons (.tup (SqT.of (s3 _ _ g2)) (dpAll_same s3 g3)) (.cons (.int _) (.cons (.int _) (.cons (.int _) (.cons (dpS1 h9 s3) (.cons (dpS1 h10 s3) (.cons (dpS1 h11 s3) (.cons (dpS1 h12 s3) (.cons (.bl _) .nil)))))))))))))
theorem ok_Transaction_picture {fd : FuncData} (F : FunD K "picture" "Transaction.picture" (defArgs s_Transaction_picture) (defBody s_Transaction_picture) (defScope s_Transaction_picture) [] [] (He.fAd K ("Transaction", some "picture")) fd) (C_Output_picture : CalM P w K mg base (He.fAd K ("Output", some "picture")) 1 ["self"] [] (sp_Output_picture P w K)) (z_tuple : mg "tuple" = none) (W_Output : CF_Output K mg) (W_Transaction : CF_Transaction K mg) (W_Bundle : CF_Bundle K mg) : CalM P w K mg base (He.fAd K ("Transaction", some "picture")) 2 ["self"] [] (sp_Transaction_picture P w K) :=
  ⟨fd, F.bindsN fun _ _ _ _ _ _ us hl => match us, hl with | [_], _ => rfl, fn_Transaction_picture F C_Output_picture z_tuple W_Output W_Transaction W_Bundle, [], .nil, F.bindsN fun _ _ _ _ _ _ us hl => match us, hl with | [_], _ => rfl⟩

theorem fn_law_stream {f : Addr} {fd : FuncData} (F : FnP K "_law_stream" s_law_stream f fd) (C_law_numbers : Cal P w K mg base "_law_numbers" 1 ["cell", "many"] (sp_law_numbers P w K)) (C_law_cell : Cal P w K mg base "_law_cell" 1 ["script", "k"] (sp_law_cell P w K)) (z_len : mg "len" = none) (z_int : mg "int" = none) (z_abs : mg "abs" = none) : FnOk P w K mg base CX0 2 f fd ["script", "k", "many"] (sp_law_stream P w K) := by
  obtain ⟨f_law_numbers, fd_law_numbers, m_law_numbers, k_law_numbers, b_law_numbers, G_law_numbers⟩ := C_law_numbers.ex
  obtain ⟨f_law_cell, fd_law_cell, m_law_cell, k_law_cell, b_law_cell, G_law_cell⟩ := C_law_cell.ex
  refine F.ok sc_law_stream (fun vs H Q E h => ?_) (fun cdv A outer s H vs Q E hr h => ?_)
  · obtain ⟨a, ns, k, m, rfl, _⟩ := h; rfl
  · obtain ⟨a, ns, k, m, rfl, hS, h0, hm, k⟩ := h
    refine ⟨_, PSs.nox (pss_cons (ps_if (pt_cmpR op_lt (pv 1) (pe_callB call_len_seq (by rfl) z_len boot_len (pa_cons (pv 0) pa_nil)) (nomark _)) (pss_one (ps_ret (pe_call G_law_numbers (hr.mono (by decide)) (by rfl) m_law_numbers k_law_numbers b_law_numbers .nil pass0 (pa_cons (pe_ix ix_list (pv 0) (pv 1) (fun _ _ => rfl)) (pa_cons (pv 2) pa_nil))))) pss_nil)
      (pss_one (ps_ret (pe_call G_law_numbers (hr.mono (by decide)) (by rfl) m_law_numbers k_law_numbers b_law_numbers .nil pass0 (pa_cons (pe_op op_add (pe_op op_mul (pe_op op_mod (pe_callTy call_int1 (by rfl) z_int boot_int (pa_cons (pe_callB call_abs (by rfl) z_abs boot_abs (pa_cons (pe_call G_law_cell (hr.mono (by decide)) (by rfl) m_law_cell k_law_cell b_law_cell .nil pass0 (pa_cons (pv 0) (pa_cons pe_int pa_nil))) pa_nil)) pa_nil)) (pe_op op_pow pe_int pe_int)) pe_int) (pv 1)) (pa_cons (pv 2) pa_nil)))))), ?_⟩
    try simp only [Rd.cxK, Re.cxP, Re.cxW]
    walk_at "rn"
    · refine ⟨_, _, rfl, ?u3_p0, fun p nums H1 s1 hp hpn hl h3 => ?_⟩
      case u3_p0 => walk_at "pre"
      exact k p nums H1 s1 hp hpn hl h3
    · refine ⟨_, ?u4_ns, _, rfl, ?u4_p0, ?u4_p1, fun z => ?_⟩
      case u4_p0 => walk_at "pre"
      case u4_p1 => walk_at "pre"
      walk_at "rn"
      refine ⟨_, _, rfl, ?u5_p0, fun p nums H1 s1 hp hpn hl h3 => ?_⟩
      case u5_p0 => walk_at "pre"
      exact k p nums H1 s1 hp hpn hl h3
theorem ok_law_stream {f : Addr} {fd : FuncData} (mf : mg "_law_stream" = some (.ref f)) (F : FnP K "_law_stream" s_law_stream f fd) (C_law_numbers : Cal P w K mg base "_law_numbers" 1 ["cell", "many"] (sp_law_numbers P w K)) (C_law_cell : Cal P w K mg base "_law_cell" 1 ["script", "k"] (sp_law_cell P w K)) (z_len : mg "len" = none) (z_int : mg "int" = none) (z_abs : mg "abs" = none) : Cal P w K mg base "_law_stream" 2 ["script", "k", "many"] (sp_law_stream P w K) :=
  ⟨f, fd, mf, F.kp, F.bindsN fun _ _ _ _ _ _ us hl => match us, hl with | [_, _, _], _ => rfl, fn_law_stream F C_law_numbers C_law_cell z_len z_int z_abs⟩

theorem fn_law_text {f : Addr} {fd : FuncData} (F : FnP K "_law_text" s_law_text f fd) (C_law_char : Cal P w K mg base "_law_char" 1 ["number"] (sp_law_char P w K)) (z_int : mg "int" = none) (z_len : mg "len" = none) (z_max : mg "max" = none) (z_min : mg "min" = none) : FnOk P w K mg base CX0 2 f fd ["numbers", "at", "size"] (sp_law_text P w K) := by
  obtain ⟨f_law_char, fd_law_char, m_law_char, k_law_char, b_law_char, G_law_char⟩ := C_law_char.ex
  refine F.ok sc_law_text (fun vs H Q E h => ?_) (fun cdv A outer s H vs Q E hr h => ?_)
  · obtain ⟨b, ns, i, j, rfl, _⟩ := h; rfl
  · obtain ⟨b, ns, i, j, rfl, hb, hb3, hnl, hj, k⟩ := h
    refine ⟨_, PSs.nox (pss_cons (ps_set (i := 3) sc_law_text.nd rfl (by first | exact Or.inl rfl | exact Or.inr rfl) (pe_call G_law_char (hr.mono (by decide)) (by rfl) m_law_char k_law_char b_law_char .nil pass0 (pa_cons (pe_ix ix_list (pv 0) (pe_op op_mod (pe_callTy call_int1 (by rfl) z_int boot_int (pa_cons (pv 1) pa_nil)) (pe_callB call_len_seq (by rfl) z_len boot_len (pa_cons (pv 0) pa_nil))) (fun _ _ => rfl)) pa_nil)))
      (pss_cons (ps_set (i := 4) sc_law_text.nd rfl (by first | exact Or.inl rfl | exact Or.inr rfl) (pe_call G_law_char (hr.mono (by decide)) (by rfl) m_law_char k_law_char b_law_char .nil pass0 (pa_cons (pe_ix ix_list (pv 0) (pe_op op_mod (pe_callTy call_int1 (by rfl) z_int boot_int (pa_cons (pe_op op_add (pv 1) pe_int) pa_nil)) (pe_callB call_len_seq (by rfl) z_len boot_len (pa_cons (pv 0) pa_nil))) (fun _ _ => rfl)) pa_nil)))
      (pss_cons (ps_set (i := 5) sc_law_text.nd rfl (by first | exact Or.inl rfl | exact Or.inr rfl) (pe_op op_mod (pe_ix ix_list (pv 0) (pe_op op_mod (pe_callTy call_int1 (by rfl) z_int boot_int (pa_cons (pe_op op_add (pv 1) pe_int) pa_nil)) (pe_callB call_len_seq (by rfl) z_len boot_len (pa_cons (pv 0) pa_nil))) (fun _ _ => rfl)) (pe_callB (call_max2 rfl) (by rfl) z_max boot_max (pa_cons pe_int (pa_cons (pv 2) pa_nil)))))
      (pss_one (ps_ret (pe_op op_add_str (pe_op op_add_str (pe_op Rd.op_mulS (pv 3) (pv 5)) (pe_op Rd.op_mulS (pv 4) (pe_callB (call_min2 rfl) (by rfl) z_min boot_min (pa_cons pe_int (pa_cons (pv 2) pa_nil))))) (pe_op Rd.op_mulS (pv 3) (pe_callB (call_max2 rfl) (by rfl) z_max boot_max (pa_cons pe_int (pa_cons (pe_op op_sub (pe_op op_sub (pv 2) (pv 5)) pe_int) pa_nil)))))))))), ?_⟩
    try simp only [Rd.cxK, Re.cxP, Re.cxW]
    walk_at "rn"
    refine ⟨_, rfl, fun c1 hc1 => ?_⟩
    walk_at "rn"
    refine ⟨_, rfl, fun c2 hc2 => ?_⟩
    walk_at "rn"
    rename_i v1 v1a v1b v2 v2a v2b v3 v3a v3b z z1 z2 z3
    have p0 := Int.emod_nonneg v3 (b := z) (by omega)
    have p1 := Int.emod_lt_of_pos v3 (b := z) (by omega)
    obtain ⟨p, hp⟩ : ∃ p, p = v3 % z := ⟨_, rfl⟩
    rw [← hp] at p0 p1 ⊢
    walk_at "rn"
    rename_i y y1 y2 y3 u u1 u2 u3
    refine k _ (fun c hc => ?_) (by simp only [List.length_append, List.length_replicate]; omega)
    simp only [List.mem_append, List.mem_replicate] at hc
    omega
theorem ok_law_text {f : Addr} {fd : FuncData} (mf : mg "_law_text" = some (.ref f)) (F : FnP K "_law_text" s_law_text f fd) (C_law_char : Cal P w K mg base "_law_char" 1 ["number"] (sp_law_char P w K)) (z_int : mg "int" = none) (z_len : mg "len" = none) (z_max : mg "max" = none) (z_min : mg "min" = none) : Cal P w K mg base "_law_text" 2 ["numbers", "at", "size"] (sp_law_text P w K) :=
  ⟨f, fd, mf, F.kp, F.bindsN fun _ _ _ _ _ _ us hl => match us, hl with | [_, _, _], _ => rfl, fn_law_text F C_law_char z_int z_len z_max z_min⟩

theorem fn_law_reference {f : Addr} {fd : FuncData} (F : FnP K "_law_reference" s_law_reference f fd) (C_law_integer : Cal P w K mg base "_law_integer" 1 ["numbers", "at"] (sp_law_integer P w K))  : FnOk P w K mg base CX0 2 f fd ["numbers", "at"] (sp_law_reference P w K) := by
  obtain ⟨f_law_integer, fd_law_integer, m_law_integer, k_law_integer, b_law_integer, G_law_integer⟩ := C_law_integer.ex
  refine F.ok sc_law_reference (fun vs H Q E h => ?_) (fun cdv A outer s H vs Q E hr h => ?_)
  · obtain ⟨b, ns, i, rfl, _⟩ := h; rfl
  · obtain ⟨b, ns, i, rfl, hb, hb3, hnl, k⟩ := h
    refine ⟨_, PSs.nox (pss_one (ps_ret (pe_tup (pa_cons (pe_call G_law_integer (hr.mono (by decide)) (by rfl) m_law_integer k_law_integer b_law_integer .nil pass0 (pa_cons (pv 0) (pa_cons (pv 1) pa_nil))) (pa_cons (pe_call G_law_integer (hr.mono (by decide)) (by rfl) m_law_integer k_law_integer b_law_integer .nil pass0 (pa_cons (pv 0) (pa_cons (pe_op op_add (pv 1) pe_int) pa_nil))) pa_nil))))), ?_⟩
    try simp only [Rd.cxK, Re.cxP, Re.cxW]
    walk_at "rn"
    refine ⟨_, ?u8_ns, _, rfl, ?u8_p0, ?u8_p1, ?u8_p2, fun x H1 s1 => ?_⟩
    case u8_p0 => walk_at "pre"
    case u8_p1 => walk_at "pre"
    case u8_p2 => walk_at "pre"
    have hb1 := s1 _ _ hb
    walk_at "rn"
    refine ⟨_, ?u9_ns, _, rfl, ?u9_p0, ?u9_p1, ?u9_p2, fun y H2 s2 => ?_⟩
    case u9_p0 => walk_at "pre"
    case u9_p1 => walk_at "pre"
    case u9_p2 => walk_at "pre"
    walk_at "rn"
    rename_i p hp
    exact k p x y _ ((s1.trans s2).trans (Rd.same_new hp)) ((s1.trans s2).free hp) upd_same
theorem ok_law_reference {f : Addr} {fd : FuncData} (mf : mg "_law_reference" = some (.ref f)) (F : FnP K "_law_reference" s_law_reference f fd) (C_law_integer : Cal P w K mg base "_law_integer" 1 ["numbers", "at"] (sp_law_integer P w K))  : Cal P w K mg base "_law_reference" 2 ["numbers", "at"] (sp_law_reference P w K) :=
  ⟨f, fd, mf, F.kp, F.bindsN fun _ _ _ _ _ _ us hl => match us, hl with | [_, _], _ => rfl, fn_law_reference F C_law_integer⟩

theorem fn_law_any_pair {f : Addr} {fd : FuncData} (F : FnP K "_law_any_pair" s_law_any_pair f fd) (C_law_integer : Cal P w K mg base "_law_integer" 1 ["numbers", "at"] (sp_law_integer P w K)) (z_int : mg "int" = none) (z_len : mg "len" = none) : FnOk P w K mg base CX0 2 f fd ["numbers", "at"] (sp_law_any_pair P w K) := by
  obtain ⟨f_law_integer, fd_law_integer, m_law_integer, k_law_integer, b_law_integer, G_law_integer⟩ := C_law_integer.ex
  refine F.ok sc_law_any_pair (fun vs H Q E h => ?_) (fun cdv A outer s H vs Q E hr h => ?_)
  · obtain ⟨b, ns, i, rfl, _⟩ := h; rfl
  · obtain ⟨b, ns, i, rfl, hb, hb3, hnl, k⟩ := h
    refine ⟨_, PSs.nox (pss_one (ps_ret (pe_tup (pa_cons (pe_ix ix_list (pe_lst (pa_cons pe_str (pa_cons pe_str pa_nil))) (pe_op op_mod (pe_ix ix_list (pv 0) (pe_op op_mod (pe_callTy call_int1 (by rfl) z_int boot_int (pa_cons (pv 1) pa_nil)) (pe_callB call_len_seq (by rfl) z_len boot_len (pa_cons (pv 0) pa_nil))) (fun _ _ => rfl)) pe_int) (fun _ _ => rfl)) (pa_cons (pe_call G_law_integer (hr.mono (by decide)) (by rfl) m_law_integer k_law_integer b_law_integer .nil pass0 (pa_cons (pv 0) (pa_cons (pe_op op_add (pv 1) pe_int) pa_nil))) pa_nil))))), ?_⟩
    try simp only [Rd.cxK, Re.cxP, Re.cxW, lit_10, lit_9]
    walk_at "rn"
    rename_i l0 hl0 v0 va vb
    refine ixAll (fun v => ∃ l : List Nat, (∀ c ∈ l, c < 1000) ∧ v = .str (Rd.S l)) Rd.slL (by omega) (by simp; omega) (by intro v hv; simp only [List.mem_cons, List.not_mem_nil, or_false] at hv; rcases hv with rfl | rfl <;> exact ⟨_, by decide, rfl⟩) ?_
    rintro v ⟨l, hl, rfl⟩
    walk_at "rn"
    refine ⟨_, ?u10_ns, _, rfl, ?u10_p0, ?u10_p1, ?u10_p2, fun z H1 s1 => ?_⟩
    case u10_p0 => walk_at "pre"
    case u10_p1 => walk_at "pre"
    case u10_p2 => walk_at "pre"
    walk_at "rn"
    rename_i p hp
    exact k p (.tuple [.str _, .int z]) _ (((Rd.same_new hl0).trans s1).trans (Rd.same_new hp)) (.tup (SqT.of upd_same) (.cons (.str _) (.cons (.int _) .nil))) (.two (.str (strOk_S fun c hc => by have := hl c hc; omega) _) (.int _ 3)) ⟨_, _, rfl⟩
theorem ok_law_any_pair {f : Addr} {fd : FuncData} (mf : mg "_law_any_pair" = some (.ref f)) (F : FnP K "_law_any_pair" s_law_any_pair f fd) (C_law_integer : Cal P w K mg base "_law_integer" 1 ["numbers", "at"] (sp_law_integer P w K)) (z_int : mg "int" = none) (z_len : mg "len" = none) : Cal P w K mg base "_law_any_pair" 2 ["numbers", "at"] (sp_law_any_pair P w K) :=
  ⟨f, fd, mf, F.kp, F.bindsN fun _ _ _ _ _ _ us hl => match us, hl with | [_, _], _ => rfl, fn_law_any_pair F C_law_integer z_int z_len⟩

theorem fn_law_picture {f : Addr} {fd : FuncData} (F : FnP K "_law_picture" s_law_picture f fd) (C_law_normal : Cal P w K mg base "_law_normal" 1 ["rows"] (sp_law_normal P w K)) (z_tuple : mg "tuple" = none) : FnOk P w K mg base CX0 2 f fd ["fields"] (sp_law_picture P w K) := by
  obtain ⟨f_law_normal, fd_law_normal, m_law_normal, k_law_normal, b_law_normal, G_law_normal⟩ := C_law_normal.ex
  refine F.ok sc_law_picture (fun vs H Q E h => ?_) (fun cdv A outer s H vs Q E hr h => ?_)
  · obtain ⟨f, F, rfl, _⟩ := h; rfl
  · obtain ⟨f, F, rfl, hF, hO, k⟩ := h
    refine ⟨_, PSs.nox (pss_cons (ps_set (i := 1) sc_law_picture.nd rfl (by first | exact Or.inl rfl | exact Or.inr rfl) (pe_callTy call_tuple_of (by rfl) z_tuple boot_tuple (pa_cons (pe_lc (own := [("address", 5), ("rows", 6), ("datum", 7)]) (g := (gTup K 3 (gCons (gName 5) (gCons (gName 6) (gCons (gName 7) gNil))))) (tt := tYes) rfl sc_law_picture.nd (pi_list (L2.pe_dget (hu_of hr) (pv 0) pe_str (fun _ _ => rfl))) (blkOk_by (N := N_law_picture) (sc := defScope s_law_picture) (by decide +kernel)) (fun _ _ _ _ _ => (pg_tup (n := 3) rfl (pgs_cons (pg_name (i := 5) sc_law_picture.nd rfl (by first | exact Or.inl rfl | exact Or.inr rfl)) (pgs_cons (pg_name (i := 6) sc_law_picture.nd rfl (by first | exact Or.inl rfl | exact Or.inr rfl)) (pgs_cons (pg_name (i := 7) sc_law_picture.nd rfl (by first | exact Or.inl rfl | exact Or.inr rfl)) pgs_nil))))) (fun _ _ _ _ _ => pts_nil) (fun _ _ _ _ _ => (pe_tup (pa_cons (pv 5) (pa_cons (pe_call G_law_normal (hr.mono (by decide)) (by rfl) m_law_normal k_law_normal b_law_normal .nil pass0 (pa_cons (pv 6) pa_nil)) (pa_cons (pe_callTy (Rb.call_tupK (K := K) rfl) (by rfl) z_tuple boot_tuple (pa_cons (pv 7) pa_nil)) pa_nil)))))) pa_nil)))
      (pss_cons (ps_set (i := 2) sc_law_picture.nd rfl (by first | exact Or.inl rfl | exact Or.inr rfl) (pe_callTy call_tuple_of (by rfl) z_tuple boot_tuple (pa_cons (pe_lc (own := [("purpose", 8), ("datum", 7)]) (g := (gTup K 2 (gCons (gName 8) (gCons (gName 7) gNil)))) (tt := tYes) rfl sc_law_picture.nd (pi_list (L2.pe_dget (hu_of hr) (pv 0) pe_str (fun _ _ => rfl))) (blkOk_by (N := N_law_picture) (sc := defScope s_law_picture) (by decide +kernel)) (fun _ _ _ _ _ => (pg_tup (n := 2) rfl (pgs_cons (pg_name (i := 8) sc_law_picture.nd rfl (by first | exact Or.inl rfl | exact Or.inr rfl)) (pgs_cons (pg_name (i := 7) sc_law_picture.nd rfl (by first | exact Or.inl rfl | exact Or.inr rfl)) pgs_nil)))) (fun _ _ _ _ _ => pts_nil) (fun _ _ _ _ _ => (pe_tup (pa_cons (pv 8) (pa_cons (pe_callTy (Rb.call_tupK (K := K) rfl) (by rfl) z_tuple boot_tuple (pa_cons (pv 7) pa_nil)) pa_nil))))) pa_nil)))
      (pss_cons (ps_set (i := 3) sc_law_picture.nd rfl (by first | exact Or.inl rfl | exact Or.inr rfl) (pe_tup (pa_cons (L2.pe_dget (hu_of hr) (pv 0) pe_str (fun _ _ => rfl)) (pa_cons (pe_callTy call_tuple_of (by rfl) z_tuple boot_tuple (pa_cons (L2.pe_dget (hu_of hr) (pv 0) pe_str (fun _ _ => rfl)) pa_nil)) (pa_cons (pe_callTy call_tuple_of (by rfl) z_tuple boot_tuple (pa_cons (L2.pe_dget (hu_of hr) (pv 0) pe_str (fun _ _ => rfl)) pa_nil)) (pa_cons (pe_callTy call_tuple_of (by rfl) z_tuple boot_tuple (pa_cons (L2.pe_dget (hu_of hr) (pv 0) pe_str (fun _ _ => rfl)) pa_nil)) (pa_cons (pv 1) pa_nil)))))))
      (pss_cons (ps_set (i := 4) sc_law_picture.nd rfl (by first | exact Or.inl rfl | exact Or.inr rfl) (pe_tup (pa_cons (pe_call G_law_normal (hr.mono (by decide)) (by rfl) m_law_normal k_law_normal b_law_normal .nil pass0 (pa_cons (L2.pe_dget (hu_of hr) (pv 0) pe_str (fun _ _ => rfl)) pa_nil)) (pa_cons (L2.pe_dget (hu_of hr) (pv 0) pe_str (fun _ _ => rfl)) (pa_cons (L2.pe_dget (hu_of hr) (pv 0) pe_str (fun _ _ => rfl)) (pa_cons (L2.pe_dget (hu_of hr) (pv 0) pe_str (fun _ _ => rfl)) pa_nil))))))
      (pss_one (ps_ret (pe_op op_catA (pe_op op_catA (pv 3) (pv 4)) (pe_tup (pa_cons (pe_callTy call_tuple_of (by rfl) z_tuple boot_tuple (pa_cons (L2.pe_dget (hu_of hr) (pv 0) pe_str (fun _ _ => rfl)) pa_nil)) (pa_cons (pv 2) (pa_cons (pe_callTy call_tuple_of (by rfl) z_tuple boot_tuple (pa_cons (L2.pe_dget (hu_of hr) (pv 0) pe_str (fun _ _ => rfl)) pa_nil)) (pa_cons (pe_callTy call_tuple_of (by rfl) z_tuple boot_tuple (pa_cons (L2.pe_dget (hu_of hr) (pv 0) pe_str (fun _ _ => rfl)) pa_nil)) (pa_cons (L2.pe_dget (hu_of hr) (pv 0) pe_str (fun _ _ => rfl)) pa_nil))))))))))))), ?_⟩
    try simp only [Rd.cxK, Re.cxP, Re.cxW, lit_11, lit_12, lit_13, lit_14, lit_15, lit_16, lit_17, lit_18, lit_19, lit_20, lit_21, lit_22, lit_23, lit_7]
    walk_at "rn"
    refine fdGet 4 hF rfl rfl fun v4 hv4 => ?_
    obtain ⟨z4, us4, rfl, hz4, hd4⟩ := dp_lst hv4
    have hul := Rd.dpAll_len hd4
    rw [List.length_map] at hul
    have hm4 := hO.l4
    refine lcD encO encOp hz4 hd4 (by omega) (fun e he => encOp_nl (hO.makes e he)) ?_ ?_
    · rintro e x D acc H' C hD s he hx hDl hC
      obtain ⟨z, u, v, y, rfl, hz, hu, hv, hy⟩ := dp_triple hx
      obtain ⟨zr, ur, rfl, hzr, hdr⟩ := dp_lst hv
      obtain ⟨zd, ud, rfl, hzd, hdd⟩ := dp_lst hy
      have hoe := hO.makes e he
      refine triple_of hz ?_
      walk_at "rn"
      have hrl := hoe.rl
      refine ⟨_, ur, e.rows, rfl, hzr, hdr, hoe.rows, (by omega), fun p ys N H2 s2 hp hpy hN nm tt => ?_⟩
      have hzd2 := s2.seq hzd
      walk_at "rn"
      rename_i q hq t ht
      have s3 := (Rd.same_new (o := .tup ud) hq).trans (Rd.same_new (o := .tup [u, .ref p, .ref q]) ht)
      have hNf := nf_is nm tt
      subst hNf
      refine hC _ _ (s2.trans s3) (.tup (SqT.of upd_same) (.cons (dpS1 hu (s2.trans s3)) (.cons (.tup (SqT.of (s3 _ _ hpy)) (dpAll_same s3 hN)) (.cons (.tup (SqT.of (Rd.same_new ht _ _ upd_same)) (dpAll_same (s2.trans s3) hdd)) .nil))))
    rintro D acc H1 hD s1 hDl hacc
    walk_at "rn"
    rename_i pm hpm
    have s2 := s1.trans (Rd.same_new (o := .tup acc) hpm)
    have hacc2 := dpAll_same (Rd.same_new (o := .tup acc) hpm) hacc
    have hv4b : Dp K (upd H1 pm (.tup acc)) (.ref pm) (.tuple (F.makes.map encOp)) := .tup (SqT.of upd_same) hacc2
    generalize upd H1 pm (.tup acc) = G1 at *
    refine fdGet 10 (hF.keep s2) rfl rfl fun v10 hv10 => ?_
    obtain ⟨z10, us10, rfl, hz10, hd10⟩ := dp_lst hv10
    have hul10 := Rd.dpAll_len hd10
    rw [List.length_map] at hul10
    have hm10 := hO.l7
    refine lcD encFact encFp hz10 hd10 (by omega) (fun e he => encFp_nl (hO.data e he).1.nl) ?_ ?_
    · rintro e x D acc H' C hD s he hx hDl hC
      obtain ⟨z, u, v, rfl, hz, hu, hv⟩ := dp_pair hx
      obtain ⟨zd, ud, rfl, hzd, hdd⟩ := dp_lst hv
      refine pair_of hz ?_
      walk_at "rn"
      rename_i q hq t ht
      have s3 := (Rd.same_new (o := .tup ud) hq).trans (Rd.same_new (o := .tup [u, .ref q]) ht)
      exact hC _ _ s3 (.tup (SqT.of upd_same) (.cons (dpS1 hu s3) (.cons (.tup (SqT.of (Rd.same_new ht _ _ upd_same)) (dpAll_same s3 hdd)) .nil)))
    rintro D2 acc2 H2 hD2 s3 hDl2 hacc2
    walk_at "rn"
    rename_i pk hpk
    have t0 := s3.trans (Rd.same_new (o := .tup acc2) hpk)
    have sC := s2.trans t0
    have hmk := dpS1 hv4b t0
    have hfk : Dp K (upd H2 pk (.tup acc2)) (.ref pk) (.tuple (F.data.map encFp)) := .tup (SqT.of upd_same) (dpAll_same (Rd.same_new hpk) hacc2)
    clear hv4b hv10 hv4 s3 t0 hacc2
    generalize upd H2 pk (.tup acc2) = Ga at *
    refine fdGet 0 (hF.keep sC) rfl rfl fun v0 h0 => ?_
    obtain rfl := dp_int h0
    walk_at "rn"
    refine fdGet 1 (hF.keep sC) rfl rfl fun v1 hv1 => ?_
    obtain ⟨z1, us1, rfl, hz1, hd1⟩ := dp_lst hv1
    walk_at "rn"
    rename_i p1 hp1
    have t1 := Rd.same_new (o := .tup us1) hp1
    have h1 : Dp K (upd Ga p1 (.tup us1)) (.ref p1) (.tuple (F.spends.map encRef)) := .tup (SqT.of upd_same) (dpAll_same t1 hd1)
    have hmk := dpS1 hmk t1
    have hfk := dpS1 hfk t1
    have h0 := dpS1 h0 t1
    have sC := sC.trans t1
    clear t1 hz1 hd1 hv1
    generalize upd Ga p1 (.tup us1) = G1 at *
    refine fdGet 2 (hF.keep sC) rfl rfl fun v2 hv2 => ?_
    obtain ⟨z2, us2, rfl, hz2, hd2⟩ := dp_lst hv2
    walk_at "rn"
    rename_i p2 hp2
    have t2 := Rd.same_new (o := .tup us2) hp2
    have h2 : Dp K (upd G1 p2 (.tup us2)) (.ref p2) (.tuple (F.looks.map encRef)) := .tup (SqT.of upd_same) (dpAll_same t2 hd2)
    have hmk := dpS1 hmk t2
    have hfk := dpS1 hfk t2
    have h0 := dpS1 h0 t2
    have h1 := dpS1 h1 t2
    have sC := sC.trans t2
    clear t2 hz2 hd2 hv2
    generalize upd G1 p2 (.tup us2) = G2 at *
    refine fdGet 3 (hF.keep sC) rfl rfl fun v3 hv3 => ?_
    obtain ⟨z3, us3, rfl, hz3, hd3⟩ := dp_lst hv3
    walk_at "rn"
    rename_i p3 hp3 pA hpA
    have t3 := Rd.same_new (o := .tup us3) hp3
    have h3 : Dp K (upd G2 p3 (.tup us3)) (.ref p3) (.tuple (F.pledge.map encRef)) := .tup (SqT.of upd_same) (dpAll_same t3 hd3)
    have hmk := dpS1 hmk t3
    have hfk := dpS1 hfk t3
    have h0 := dpS1 h0 t3
    have h1 := dpS1 h1 t3
    have h2 := dpS1 h2 t3
    have sC := sC.trans t3
    clear t3 hz3 hd3 hv3
    generalize upd G2 p3 (.tup us3) = G3 at *
    have tA := Rd.same_new (o := .tup [.int F.number, .ref p1, .ref p2, .ref p3, .ref pm]) hpA
    have qA : SqT K (upd G3 pA (.tup [.int F.number, .ref p1, .ref p2, .ref p3, .ref pm])) pA [.int F.number, .ref p1, .ref p2, .ref p3, .ref pm] := SqT.of upd_same
    have hmk := dpS1 hmk tA
    have hfk := dpS1 hfk tA
    have h0 := dpS1 h0 tA
    have h1 := dpS1 h1 tA
    have h2 := dpS1 h2 tA
    have h3 := dpS1 h3 tA
    have sC := sC.trans tA
    clear tA
    generalize upd G3 pA (.tup [.int F.number, .ref p1, .ref p2, .ref p3, .ref pm]) = GA at *
    refine fdGet 5 (hF.keep sC) rfl rfl fun v5 hv5 => ?_
    obtain ⟨z5, us5, rfl, hz5, hd5⟩ := dp_lst hv5
    have hm5 := hO.l5
    walk_at "rn"
    refine ⟨_, us5, F.mint, rfl, hz5, hd5, hO.mint, (by omega), fun p5 ys5 N Gn tn hp5 hp5y hNd nm tt => ?_⟩
    have hNf := nf_is nm tt
    subst hNf
    have h5 : Dp K Gn (.ref p5) (.tuple ((nf F.mint).map encR)) := .tup (SqT.of hp5y) hNd
    have hmk := dpS1 hmk tn
    have hfk := dpS1 hfk tn
    have h0 := dpS1 h0 tn
    have h1 := dpS1 h1 tn
    have h2 := dpS1 h2 tn
    have h3 := dpS1 h3 tn
    have qA := Rd.same_tup tn qA
    have sC := sC.trans tn
    clear hz5 hd5 hv5 hNd
    walk_at "rn"
    refine fdGet 6 (hF.keep sC) rfl rfl fun v6 h6 => ?_
    obtain rfl := dp_int h6
    walk_at "rn"
    refine fdGet 7 (hF.keep sC) rfl rfl fun v7 h7 => ?_
    obtain rfl := dp_int h7
    walk_at "rn"
    refine fdGet 8 (hF.keep sC) rfl rfl fun v8 h8 => ?_
    obtain rfl := dp_int h8
    walk_at "rn"
    rename_i pB hpB
    have tB := Rd.same_new (o := .tup [.ref p5, .int F.fee, .int F.begins, .int F.ends]) hpB
    have qB : SqT K (upd Gn pB (.tup [.ref p5, .int F.fee, .int F.begins, .int F.ends])) pB [.ref p5, .int F.fee, .int F.begins, .int F.ends] := SqT.of upd_same
    have hmk := dpS1 hmk tB
    have hfk := dpS1 hfk tB
    have h0 := dpS1 h0 tB
    have h1 := dpS1 h1 tB
    have h2 := dpS1 h2 tB
    have h3 := dpS1 h3 tB
    have h5 := dpS1 h5 tB
    have h6 := dpS1 h6 tB
    have h7 := dpS1 h7 tB
    have h8 := dpS1 h8 tB
    have qA := Rd.same_tup tB qA
    have sC := sC.trans tB
    clear tB
    generalize upd Gn pB (.tup [.ref p5, .int F.fee, .int F.begins, .int F.ends]) = GB at *
    refine Rb.catA qA qB (by simp) fun pc Gc tc qc => ?_
    have hmk := dpS1 hmk tc
    have hfk := dpS1 hfk tc
    have h0 := dpS1 h0 tc
    have h1 := dpS1 h1 tc
    have h2 := dpS1 h2 tc
    have h3 := dpS1 h3 tc
    have h5 := dpS1 h5 tc
    have h6 := dpS1 h6 tc
    have h7 := dpS1 h7 tc
    have h8 := dpS1 h8 tc
    have qA := Rd.same_tup tc qA
    have qB := Rd.same_tup tc qB
    have sC := sC.trans tc
    walk_at "rn"
    refine fdGet 9 (hF.keep sC) rfl rfl fun v9 hv9 => ?_
    obtain ⟨z9, us9, rfl, hz9, hd9⟩ := dp_lst hv9
    walk_at "rn"
    rename_i p9 hp9
    have t9 := Rd.same_new (o := .tup us9) hp9
    have h9 : Dp K (upd Gc p9 (.tup us9)) (.ref p9) (.tuple (F.signers.map encI)) := .tup (SqT.of upd_same) (dpAll_same t9 hd9)
    have hmk := dpS1 hmk t9
    have hfk := dpS1 hfk t9
    have h0 := dpS1 h0 t9
    have h1 := dpS1 h1 t9
    have h2 := dpS1 h2 t9
    have h3 := dpS1 h3 t9
    have h5 := dpS1 h5 t9
    have h6 := dpS1 h6 t9
    have h7 := dpS1 h7 t9
    have h8 := dpS1 h8 t9
    have qA := Rd.same_tup t9 qA
    have qB := Rd.same_tup t9 qB
    have qc := Rd.same_tup t9 qc
    have sC := sC.trans t9
    clear t9 hz9 hd9 hv9
    generalize upd Gc p9 (.tup us9) = G9 at *
    refine fdGet 11 (hF.keep sC) rfl rfl fun v11 hv11 => ?_
    obtain ⟨z11, us11, rfl, hz11, hd11⟩ := dp_lst hv11
    walk_at "rn"
    rename_i p11 hp11
    have t11 := Rd.same_new (o := .tup us11) hp11
    have h11 : Dp K (upd G9 p11 (.tup us11)) (.ref p11) (.tuple (F.deeds)) := .tup (SqT.of upd_same) (dpAll_same t11 hd11)
    have hmk := dpS1 hmk t11
    have hfk := dpS1 hfk t11
    have h0 := dpS1 h0 t11
    have h1 := dpS1 h1 t11
    have h2 := dpS1 h2 t11
    have h3 := dpS1 h3 t11
    have h5 := dpS1 h5 t11
    have h6 := dpS1 h6 t11
    have h7 := dpS1 h7 t11
    have h8 := dpS1 h8 t11
    have h9 := dpS1 h9 t11
    have qA := Rd.same_tup t11 qA
    have qB := Rd.same_tup t11 qB
    have qc := Rd.same_tup t11 qc
    have sC := sC.trans t11
    clear t11 hz11 hd11 hv11
    generalize upd G9 p11 (.tup us11) = G11 at *
    refine fdGet 12 (hF.keep sC) rfl rfl fun v12 hv12 => ?_
    obtain ⟨z12, us12, rfl, hz12, hd12⟩ := dp_lst hv12
    walk_at "rn"
    rename_i p12 hp12
    have t12 := Rd.same_new (o := .tup us12) hp12
    have h12 : Dp K (upd G11 p12 (.tup us12)) (.ref p12) (.tuple (F.draws.map encRef)) := .tup (SqT.of upd_same) (dpAll_same t12 hd12)
    have hmk := dpS1 hmk t12
    have hfk := dpS1 hfk t12
    have h0 := dpS1 h0 t12
    have h1 := dpS1 h1 t12
    have h2 := dpS1 h2 t12
    have h3 := dpS1 h3 t12
    have h5 := dpS1 h5 t12
    have h6 := dpS1 h6 t12
    have h7 := dpS1 h7 t12
    have h8 := dpS1 h8 t12
    have h9 := dpS1 h9 t12
    have h11 := dpS1 h11 t12
    have qA := Rd.same_tup t12 qA
    have qB := Rd.same_tup t12 qB
    have qc := Rd.same_tup t12 qc
    have sC := sC.trans t12
    clear t12 hz12 hd12 hv12
    generalize upd G11 p12 (.tup us12) = G12 at *
    refine fdGet 13 (hF.keep sC) rfl rfl fun v13 h13 => ?_
    obtain rfl := dp_bool h13
    walk_at "rn"
    rename_i pE hpE
    have tE := Rd.same_new (o := .tup [.ref p9, .ref pk, .ref p11, .ref p12, .bl F.approved]) hpE
    have qE : SqT K (upd G12 pE (.tup [.ref p9, .ref pk, .ref p11, .ref p12, .bl F.approved])) pE [.ref p9, .ref pk, .ref p11, .ref p12, .bl F.approved] := SqT.of upd_same
    have hmk := dpS1 hmk tE
    have hfk := dpS1 hfk tE
    have h0 := dpS1 h0 tE
    have h1 := dpS1 h1 tE
    have h2 := dpS1 h2 tE
    have h3 := dpS1 h3 tE
    have h5 := dpS1 h5 tE
    have h6 := dpS1 h6 tE
    have h7 := dpS1 h7 tE
    have h8 := dpS1 h8 tE
    have h9 := dpS1 h9 tE
    have h11 := dpS1 h11 tE
    have h12 := dpS1 h12 tE
    have h13 := dpS1 h13 tE
    have qA := Rd.same_tup tE qA
    have qB := Rd.same_tup tE qB
    have qc := Rd.same_tup tE qc
    have sC := sC.trans tE
    clear tE
    generalize upd G12 pE (.tup [.ref p9, .ref pk, .ref p11, .ref p12, .bl F.approved]) = GE at *
    refine Rb.catA qc qE (by simp) fun pz Gz tz qz => ?_
    have hmk := dpS1 hmk tz
    have hfk := dpS1 hfk tz
    have h0 := dpS1 h0 tz
    have h1 := dpS1 h1 tz
    have h2 := dpS1 h2 tz
    have h3 := dpS1 h3 tz
    have h5 := dpS1 h5 tz
    have h6 := dpS1 h6 tz
    have h7 := dpS1 h7 tz
    have h8 := dpS1 h8 tz
    have h9 := dpS1 h9 tz
    have h11 := dpS1 h11 tz
    have h12 := dpS1 h12 tz
    have h13 := dpS1 h13 tz
    have qA := Rd.same_tup tz qA
    have qB := Rd.same_tup tz qB
    have qc := Rd.same_tup tz qc
    have qE := Rd.same_tup tz qE
    have sC := sC.trans tz
    refine k pz Gz sC (.tup qz ?_)
    exact .cons h0 (.cons h1 (.cons h2 (.cons h3 (.cons hmk (.cons h5 (.cons h6 (.cons h7 (.cons h8 (.cons h9 (.cons hfk (.cons h11 (.cons h12 (.cons h13 .nil)))))))))))))
theorem ok_law_picture {f : Addr} {fd : FuncData} (mf : mg "_law_picture" = some (.ref f)) (F : FnP K "_law_picture" s_law_picture f fd) (C_law_normal : Cal P w K mg base "_law_normal" 1 ["rows"] (sp_law_normal P w K)) (z_tuple : mg "tuple" = none) : Cal P w K mg base "_law_picture" 2 ["fields"] (sp_law_picture P w K) :=
  ⟨f, fd, mf, F.kp, F.bindsN fun _ _ _ _ _ _ us hl => match us, hl with | [_], _ => rfl, fn_law_picture F C_law_normal z_tuple⟩

theorem fn_law_params {f : Addr} {fd : FuncData} (F : FnP K "_law_params" s_law_params f fd) (C_law_between : Cal P w K mg base "_law_between" 1 ["numbers", "at", "low", "high"] (sp_law_between P w K)) (z_range : mg "range" = none) (z_max : mg "max" = none) : FnOk P w K mg base CX0 2 f fd ["numbers"] (sp_law_params P w K) := by
  obtain ⟨f_law_between, fd_law_between, m_law_between, k_law_between, b_law_between, G_law_between⟩ := C_law_between.ex
  refine F.ok sc_law_params (fun vs H Q E h => ?_) (fun cdv A outer s H vs Q E hr h => ?_)
  · obtain ⟨b, ns, rfl, _⟩ := h; rfl
  · obtain ⟨b, ns, rfl, hb, hb3, hnl, k⟩ := h
    refine ⟨_, PSs.nox (pss_cons (ps_set (i := 1) sc_law_params.nd rfl (by first | exact Or.inl rfl | exact Or.inr rfl) (pe_lst (pa_cons pe_int (pa_cons pe_int (pa_cons pe_int (pa_cons pe_int pa_nil))))))
      (pss_cons (ps_setLc (i := 2) (own := [("k", 3)]) (g := gName 3) (tt := tYes) rfl sc_law_params.nd rfl rfl (sw_true rfl rfl rfl (by decide +kernel)) (pi_range1 (by rfl) z_range (pa_cons pe_int pa_nil)) (blkOk_by (N := N_law_params) (sc := defScope s_law_params) (by decide +kernel)) (fun _ _ _ _ _ => pg_name (i := 3) sc_law_params.nd rfl (by first | exact Or.inl rfl | exact Or.inr rfl)) (fun _ _ _ _ _ => pts_nil) (fun _ _ _ _ _ => (pe_call G_law_between (hr.mono (by decide)) (by rfl) m_law_between k_law_between b_law_between .nil pass0 (pa_cons (pv 0) (pa_cons (pe_op op_mul pe_int (pv 3)) (pa_cons pe_int (pa_cons (pe_ix (Rb.ix_listK (K := K) rfl) (pv 1) (pv 3) (fun _ _ => rfl)) pa_nil)))))))
      (pss_one (ps_ret (pe_lst (pa_cons (pe_ix ix_list (pv 2) pe_int (fun _ _ => rfl)) (pa_cons (pe_ix ix_list (pv 2) pe_int (fun _ _ => rfl)) (pa_cons (pe_ix ix_list (pv 2) pe_int (fun _ _ => rfl)) (pa_cons (pe_callB (call_max2 rfl) (by rfl) z_max boot_max (pa_cons pe_int (pa_cons (pe_ix ix_list (pv 2) pe_int (fun _ _ => rfl)) pa_nil))) pa_nil))))))))), ?_⟩
    try simp only [Rd.cxK, Re.cxP, Re.cxW]
    walk_at "rn"
    rename_i pb hpb
    have u1 := Rd.same_new (o := .lst [.int 1000, .int 1000, .int 1000, .int 1000]) hpb
    have mb : upd H pb (.lst [.int 1000, .int 1000, .int 1000, .int 1000]) pb = _ := upd_same
    generalize upd H pb (.lst [.int 1000, .int 1000, .int 1000, .int 1000]) = H1 at *
    refine Rd.lcR1 (fun D i acc H' => ∃ xs : List Int, acc = xs.map V.int ∧ xs.length = i ∧ ∀ x ∈ xs, 0 ≤ x ∧ x ≤ 1000) (by omega) (fun D H' _ _ _ => ⟨[], rfl, rfl, fun _ h => absurd h List.not_mem_nil⟩) ?_ ?_
    · rintro i acc D H' hD s hi hl hDl ⟨xs, rfl, hxl, hx3⟩
      have hb' := s _ _ (u1 _ _ hb)
      have mb' := s _ _ mb
      walk_at "rn"
      refine ixAll (fun v => v = .int 1000) (SqL.of mb') (by omega) (by simp; omega) (by simp) ?_
      rintro v rfl
      walk_at "rn"
      refine ⟨_, ?u13_ns, _, _, _, rfl, ?u13_p0, ?u13_p1, ?u13_p2, ?u13_p3, fun z H2 s2 hz => ?_⟩
      case u13_p0 => walk_at "pre"
      case u13_p1 => walk_at "pre"
      case u13_p2 => walk_at "pre"
      case u13_p3 => walk_at "pre"
      refine Rd.lcE hD (s2 _ _ hDl) (s.trans s2) hl (by omega) ⟨xs ++ [z], by rw [List.map_append]; rfl, by rw [List.length_append]; simp; omega, fun x hx => ?_⟩
      rcases List.mem_append.mp hx with h | h
      · exact hx3 x h
      · rw [List.mem_singleton.mp h]; exact hz
    · rintro D acc H' hD s hDl hal ⟨xs, rfl, hxl, hx3⟩
      rw [List.length_map] at hal
      match xs, hal, hx3, hDl with
      | [a0, a1, a2, a3], _, hx3, hDl =>
        have b0 := hx3 a0 (by simp)
        have b1 := hx3 a1 (by simp)
        have b2 := hx3 a2 (by simp)
        have b3 := hx3 a3 (by simp)
        simp only [List.map_cons, List.map_nil] at hDl
        walk_at "rn"
        rename_i z z1 z2 z3 p hp
        exact k p a0 a1 a2 z _ ((u1.trans s).trans (Rd.same_new hp)) ((u1.trans s).free hp) upd_same (by omega)
theorem ok_law_params {f : Addr} {fd : FuncData} (mf : mg "_law_params" = some (.ref f)) (F : FnP K "_law_params" s_law_params f fd) (C_law_between : Cal P w K mg base "_law_between" 1 ["numbers", "at", "low", "high"] (sp_law_between P w K)) (z_range : mg "range" = none) (z_max : mg "max" = none) : Cal P w K mg base "_law_params" 2 ["numbers"] (sp_law_params P w K) :=
  ⟨f, fd, mf, F.kp, F.bindsN fun _ _ _ _ _ _ us hl => match us, hl with | [_], _ => rfl, fn_law_params F C_law_between z_range z_max⟩

theorem fn_law_weight {f : Addr} {fd : FuncData} (F : FnP K "_law_weight" s_law_weight f fd) (C_law_normal : Cal P w K mg base "_law_normal" 1 ["rows"] (sp_law_normal P w K)) (z_len : mg "len" = none) : FnOk P w K mg base CX0 2 f fd ["fields"] (sp_law_weight P w K) := by
  obtain ⟨f_law_normal, fd_law_normal, m_law_normal, k_law_normal, b_law_normal, G_law_normal⟩ := C_law_normal.ex
  refine F.ok sc_law_weight (fun vs H Q E h => ?_) (fun cdv A outer s H vs Q E hr h => ?_)
  · obtain ⟨f, F, rfl, _⟩ := h; rfl
  · obtain ⟨f, F, rfl, hF, hO, k⟩ := h
    refine ⟨_, PSs.nox (pss_cons (ps_set (i := 1) sc_law_weight.nd rfl (by first | exact Or.inl rfl | exact Or.inr rfl) (pe_op op_add (pe_op op_add pe_int (pe_op op_mul pe_int (pe_callB call_len_seq (by rfl) z_len boot_len (pa_cons (L2.pe_dget (hu_of hr) (pv 0) pe_str (fun _ _ => rfl)) pa_nil)))) (pe_op op_mul pe_int (pe_callB call_len_seq (by rfl) z_len boot_len (pa_cons (L2.pe_dget (hu_of hr) (pv 0) pe_str (fun _ _ => rfl)) pa_nil)))))
      (pss_cons (ps_for PassesOwn.never rfl (pi_list (L2.pe_dget (hu_of hr) (pv 0) pe_str (fun _ _ => rfl))) (pg_tup (n := 3) rfl (pgs_cons (pg_name (i := 2) sc_law_weight.nd rfl (by first | exact Or.inl rfl | exact Or.inr rfl)) (pgs_cons (pg_name (i := 3) sc_law_weight.nd rfl (by first | exact Or.inl rfl | exact Or.inr rfl)) (pgs_cons (pg_name (i := 4) sc_law_weight.nd rfl (by first | exact Or.inl rfl | exact Or.inr rfl)) pgs_nil)))) (pss_cons (ps_set (i := 1) sc_law_weight.nd rfl (by first | exact Or.inl rfl | exact Or.inr rfl) (pe_op op_add (pe_op op_add (pe_op op_add (pv 1) pe_int) (pe_op op_mul pe_int (pe_callB call_len_seq (by rfl) z_len boot_len (pa_cons (pe_call G_law_normal (hr.mono (by decide)) (by rfl) m_law_normal k_law_normal b_law_normal .nil pass0 (pa_cons (pv 3) pa_nil)) pa_nil)))) (pe_callB call_len_seq (by rfl) z_len boot_len (pa_cons (pv 4) pa_nil))))
      (pss_one (ps_if (pt_cmpR op_eq (pe_ix ix_tup (pv 2) pe_int (fun _ _ => rfl)) pe_str (nomark _)) (pss_one (ps_set (i := 1) sc_law_weight.nd rfl (by first | exact Or.inl rfl | exact Or.inr rfl) (pe_op op_add (pv 1) (pe_op op_fdiv (pe_callB call_len_str (by rfl) z_len boot_len (pa_cons (pe_ix ix_tup (pv 2) pe_int (fun _ _ => rfl)) pa_nil)) pe_int)))) pss_nil))))
      (pss_cons (ps_set (i := 1) sc_law_weight.nd rfl (by first | exact Or.inl rfl | exact Or.inr rfl) (pe_op op_add (pe_op op_add (pv 1) (pe_op op_mul pe_int (pe_callB call_len_seq (by rfl) z_len boot_len (pa_cons (pe_call G_law_normal (hr.mono (by decide)) (by rfl) m_law_normal k_law_normal b_law_normal .nil pass0 (pa_cons (L2.pe_dget (hu_of hr) (pv 0) pe_str (fun _ _ => rfl)) pa_nil)) pa_nil)))) (pe_callB call_len_seq (by rfl) z_len boot_len (pa_cons (L2.pe_dget (hu_of hr) (pv 0) pe_str (fun _ _ => rfl)) pa_nil))))
      (pss_cons (ps_for PassesOwn.never rfl (pi_list (L2.pe_dget (hu_of hr) (pv 0) pe_str (fun _ _ => rfl))) (pg_tup (n := 2) rfl (pgs_cons (pg_name (i := 5) sc_law_weight.nd rfl (by first | exact Or.inl rfl | exact Or.inr rfl)) (pgs_cons (pg_name (i := 4) sc_law_weight.nd rfl (by first | exact Or.inl rfl | exact Or.inr rfl)) pgs_nil))) (pss_one (ps_set (i := 1) sc_law_weight.nd rfl (by first | exact Or.inl rfl | exact Or.inr rfl) (pe_op op_add (pe_op op_add (pv 1) pe_int) (pe_callB call_len_seq (by rfl) z_len boot_len (pa_cons (pv 4) pa_nil))))))
      (pss_one (ps_ret (pe_op op_add (pe_op op_add (pv 1) (pe_op op_mul pe_int (pe_callB call_len_seq (by rfl) z_len boot_len (pa_cons (L2.pe_dget (hu_of hr) (pv 0) pe_str (fun _ _ => rfl)) pa_nil)))) (pe_op op_mul pe_int (pe_callB call_len_seq (by rfl) z_len boot_len (pa_cons (L2.pe_dget (hu_of hr) (pv 0) pe_str (fun _ _ => rfl)) pa_nil)))))))))), ?_⟩
    try simp only [Rd.cxK, Re.cxP, Re.cxW, lit_0, lit_12, lit_13, lit_15, lit_19, lit_20, lit_21, lit_22, lit_7]
    walk_at "rn"
    refine fdGet 1 (hF) rfl rfl fun v1 hv1 => ?_
    obtain ⟨z1, us1, rfl, hz1, hd1⟩ := dp_lst hv1
    have hl1 := Rd.dpAll_len hd1
    walk_at "rn"
    refine fdGet 2 (hF) rfl rfl fun v2 hv2 => ?_
    obtain ⟨z2, us2, rfl, hz2, hd2⟩ := dp_lst hv2
    have hl2 := Rd.dpAll_len hd2
    walk_at "rn"
    refine fdGet 4 hF rfl rfl fun v4 hv4 => ?_
    obtain ⟨z4, us4, rfl, hz4, hd4⟩ := dp_lst hv4
    have hul := Rd.dpAll_len hd4
    rw [List.length_map] at hul hl1 hl2
    have hm4 := hO.l4
    have hm7 := hO.l7
    have hm5 := hO.l5
    walk_at "rn"
    refine Rd.forL (fun i σ' H' => ∃ (T : Int), ∃ c2 c3 c4 c5,  σ' = [some (.ref f), some (.int T), c2, c3, c4, c5] ∧ Same H H' ∧ T = 5 + 2 * (us1.length : Int) + 2 * (us2.length : Int) + ((F.makes.take i).map wo).sum) hz4 ⟨_, _, _, _, _,  rfl, Same.refl H, by simp⟩ (fun i σ' H' _ ⟨_, c2, c3, c4, c5,  _, h, _⟩ => h.seq hz4) ?_ ?_
    · rintro i x σ' H' hi ⟨T, c2, c3, c4, c5,  rfl, hs, hT⟩
      obtain ⟨d, hd2, hdp⟩ := dpAll_at hd4 hi
      obtain ⟨o, ho, rfl⟩ := map_at hd2
      have hoo := hO.makes o (List.mem_of_getElem? ho)
      have hrl := hoo.rl
      have hdl := hoo.dl
      obtain ⟨z, u, v, y, rfl, hz, hu, hv, hy⟩ := dp_triple (dpS1 hdp hs)
      obtain ⟨zr, ur, rfl, hzr, hdr⟩ := dp_lst hv
      obtain ⟨zd, ud, rfl, hzd, hdd⟩ := dp_lst hy
      have hudl := Rd.dpAll_len hdd
      rw [List.length_map] at hudl
      refine triple_of hz ?_
      walk_at "rn"
      refine ⟨_, ur, o.rows, rfl, hzr, hdr, hoo.rows, (by omega), fun p ys N H3 s3 hp hpy hN nm tt => ?_⟩
      have hNf := nf_is nm tt
      subst hNf
      have hyl := rowsLen hN
      have hzd3 := s3.seq hzd
      walk_at "rn"
      rcases hoo.ak with ⟨ik, e⟩ | ⟨l, e, hl1c, hl2c⟩
      · have hu2 := hu
        rw [e] at hu
        obtain ⟨za, xa, ya, rfl, hza, hxa, hya⟩ := dp_pair hu
        obtain rfl := dp_str hxa
        have hza3 := Rd.same_tup s3 hza
        walk_at "rn"
        all_goals first | (exfalso; simp at *; done) | skip
        refine ⟨_, _, _, _, _,  rfl, hs.trans s3, ?_⟩
        rw [take_sum ho, wo_k e]
        omega
      · have hu2 := hu
        rw [e] at hu
        obtain ⟨za, xa, ya, rfl, hza, hxa, hya⟩ := dp_pair hu
        obtain rfl := dp_str hxa
        obtain rfl := dp_str hya
        have hza3 := Rd.same_tup s3 hza
        walk_at "rn"
        all_goals first | (exfalso; simp at *; done) | skip
        refine ⟨_, _, _, _, _,  rfl, hs.trans s3, ?_⟩
        rw [take_sum ho, wo_s e]
        omega
    rintro σ' H1 ⟨T, c2, c3, c4, c5,  rfl, hs1, hT⟩
    rw [hul, List.take_length] at hT
    walk_at "rn"
    refine fdGet 5 (hF.keep hs1) rfl rfl fun v5 hv5 => ?_
    obtain ⟨z5, us5, rfl, hz5, hd5⟩ := dp_lst hv5
    walk_at "rn"
    refine ⟨_, us5, F.mint, rfl, hz5, hd5, hO.mint, (by omega), fun p5 ys5 N H2 s2 hp5 hpy5 hN5 nm5 tt5 => ?_⟩
    have hNf := nf_is nm5 tt5
    subst hNf
    have hyl5 := rowsLen hN5
    have hs2 := hs1.trans s2
    walk_at "rn"
    refine fdGet 9 (hF.keep hs2) rfl rfl fun v9 hv9 => ?_
    obtain ⟨z9, us9, rfl, hz9, hd9⟩ := dp_lst hv9
    have hl9 := Rd.dpAll_len hd9
    walk_at "rn"
    rw [List.length_map] at hl9
    refine fdGet 10 (hF.keep hs2) rfl rfl fun v10 hv10 => ?_
    obtain ⟨z10, us10, rfl, hz10, hd10⟩ := dp_lst hv10
    have hul10 := Rd.dpAll_len hd10
    rw [List.length_map] at hul10
    walk_at "rn"
    refine Rd.forL (fun i σ' H' => ∃ (T2 : Int), ∃ c2 c3 c4 c5,  σ' = [some (.ref f), some (.int T2), c2, c3, c4, c5] ∧ H2 = H' ∧ T2 = T + 2 * (ys5.length : Int) + (us9.length : Int) + ((F.data.take i).map fun e => (2 : Int) + (e.2.length : Int)).sum) hz10 ⟨_, _, _, _, _,  rfl, rfl, by simp⟩ (fun i σ' H' _ ⟨_, c2, c3, c4, c5,  _, h, _⟩ => h ▸ hz10) ?_ ?_
    · rintro i x σ' H' hi ⟨T2, c2, c3, c4, c5,  rfl, rfl, hT2⟩
      obtain ⟨d, hd2, hdp⟩ := dpAll_at hd10 hi
      obtain ⟨o, ho, rfl⟩ := map_at hd2
      obtain ⟨z, u, v, rfl, hz, hu, hv⟩ := dp_pair hdp
      obtain ⟨zd, ud, rfl, hzd, hdd⟩ := dp_lst hv
      have hudl := Rd.dpAll_len hdd
      rw [List.length_map] at hudl
      refine pair_of hz ?_
      walk_at "rn"
      refine ⟨_, _, _, _, _,  rfl, rfl, ?_⟩
      rw [take_sum ho, hT2, hudl]
      omega
    rintro σ' H3 ⟨T2, c2, c3, c4, c5,  rfl, rfl, hT2⟩
    rw [hul10, List.take_length] at hT2
    walk_at "rn"
    refine fdGet 11 (hF.keep hs2) rfl rfl fun v11 hv11 => ?_
    obtain ⟨z11, us11, rfl, hz11, hd11⟩ := dp_lst hv11
    have hl11 := Rd.dpAll_len hd11
    walk_at "rn"
    refine fdGet 12 (hF.keep hs2) rfl rfl fun v12 hv12 => ?_
    obtain ⟨z12, us12, rfl, hz12, hd12⟩ := dp_lst hv12
    have hl12 := Rd.dpAll_len hd12
    walk_at "rn"
    rw [List.length_map] at hl12
    have k2 := k H2 hs2
    unfold wt at k2
    rw [← hyl5, ← hl1, ← hl2, ← hl9, ← hl11, ← hl12] at k2
    have e2 : T2 + 2 * (us11.length : Int) + 2 * (us12.length : Int) = 5 + 2 * ((us1.length : Int) + (us2.length : Int)) + (F.makes.map wo).sum + (us9.length : Int) + (F.data.map fun e => (2 : Int) + (e.2.length : Int)).sum + 2 * ((ys5.length : Int) + (us11.length : Int) + (us12.length : Int)) := by rw [hT2, hT]; omega
    rw [e2]
    exact k2
theorem ok_law_weight {f : Addr} {fd : FuncData} (mf : mg "_law_weight" = some (.ref f)) (F : FnP K "_law_weight" s_law_weight f fd) (C_law_normal : Cal P w K mg base "_law_normal" 1 ["rows"] (sp_law_normal P w K)) (z_len : mg "len" = none) : Cal P w K mg base "_law_weight" 2 ["fields"] (sp_law_weight P w K) :=
  ⟨f, fd, mf, F.kp, F.bindsN fun _ _ _ _ _ _ us hl => match us, hl with | [_], _ => rfl, fn_law_weight F C_law_normal z_len⟩

theorem fn_law_grown {f : Addr} {fd : FuncData} (F : FnP K "_law_grown" s_law_grown f fd) (C_law_normal : Cal P w K mg base "_law_normal" 1 ["rows"] (sp_law_normal P w K))  : FnOk P w K mg base CX0 2 f fd ["rows", "factor"] (sp_law_grown P w K) := by
  obtain ⟨f_law_normal, fd_law_normal, m_law_normal, k_law_normal, b_law_normal, G_law_normal⟩ := C_law_normal.ex
  refine F.ok sc_law_grown (fun vs H Q E h => ?_) (fun cdv A outer s H vs Q E hr h => ?_)
  · obtain ⟨a, xs, R, c, rfl, _⟩ := h; rfl
  · obtain ⟨a, xs, R, c, rfl, hx, hR, ho, hl, hc, k⟩ := h
    refine ⟨_, PSs.nox (pss_one (ps_ret (pe_lc (own := [("asset", 2), ("quantity", 3)]) (g := (gTup K 2 (gCons (gName 2) (gCons (gName 3) gNil)))) (tt := tYes) rfl sc_law_grown.nd (pi_tup (pe_call G_law_normal (hr.mono (by decide)) (by rfl) m_law_normal k_law_normal b_law_normal .nil pass0 (pa_cons (pv 0) pa_nil))) (blkOk_by (N := N_law_grown) (sc := defScope s_law_grown) (by decide +kernel)) (fun _ _ _ _ _ => (pg_tup (n := 2) rfl (pgs_cons (pg_name (i := 2) sc_law_grown.nd rfl (by first | exact Or.inl rfl | exact Or.inr rfl)) (pgs_cons (pg_name (i := 3) sc_law_grown.nd rfl (by first | exact Or.inl rfl | exact Or.inr rfl)) pgs_nil)))) (fun _ _ _ _ _ => pts_nil) (fun _ _ _ _ _ => (pe_tup (pa_cons (pv 2) (pa_cons (pe_op op_mul (pv 3) (pv 1)) pa_nil))))))), ?_⟩
    try simp only [Rd.cxK, Re.cxP, Re.cxW]
    walk_at "rn"
    refine ⟨_, xs, R, rfl, hx, hR, ho, (by omega), fun p ys N H3 s3 hp hpy hN nm tt => ?_⟩
    have hNf := nf_is nm tt
    subst hNf
    have hyl := rowsLen hN
    have hnl := nf_len R
    walk_at "rn"
    refine lcDT encR (fun e => encR (e.1, e.2 * c)) (SqT.of hpy) hN (by omega) (fun e _ => encR_nl _) ?_ ?_
    · rintro e x D acc H' C hD s he hx hDl hC
      obtain ⟨z, kq, rfl, hz, hkq⟩ := dpRow hx
      refine pair_of hz ?_
      walk_at "rn"
      rename_i t ht
      exact hC _ _ (Rd.same_new ht) (rowDp (SqT.of upd_same) (Rd.same_tup (Rd.same_new ht) hkq))
    rintro D acc H4 hD s4 hDl hacc
    have e2 : (nf R).map (fun e => encR (e.1, e.2 * c)) = (grown (nf R) c).map encR := by unfold grown; rw [List.map_map]; rfl
    rw [e2] at hacc
    exact k D acc H4 (s3.trans s4) (s3.free hD) hDl hacc
theorem ok_law_grown {f : Addr} {fd : FuncData} (mf : mg "_law_grown" = some (.ref f)) (F : FnP K "_law_grown" s_law_grown f fd) (C_law_normal : Cal P w K mg base "_law_normal" 1 ["rows"] (sp_law_normal P w K))  : Cal P w K mg base "_law_grown" 2 ["rows", "factor"] (sp_law_grown P w K) :=
  ⟨f, fd, mf, F.kp, F.bindsN fun _ _ _ _ _ _ us hl => match us, hl with | [_, _], _ => rfl, fn_law_grown F C_law_normal⟩

theorem fn_least_fee {f : Addr} {fd : FuncData} (F : FnP K "least_fee" s_least_fee f fd) (C_weight : Cal P w K mg base "weight" 2 ["tx"] (sp_weight P w K))  (W_Params : CF_Params K mg) : FnOk P w K mg base CX0 3 f fd ["tx", "steps", "params"] (sp_least_fee P w K) := by
  obtain ⟨f_weight, fd_weight, m_weight, k_weight, b_weight, G_weight⟩ := C_weight.ex
  have cf_Params := W_Params
  have cfc_Params := cf_Params.cls
  have cfn_Params_fee_base := cf_Params.n_fee_base
  have cfn_Params_fee_step := cf_Params.n_fee_step
  have cfn_Params_fee_weight := cf_Params.n_fee_weight
  refine F.ok sc_least_fee (fun vs H Q E h => ?_) (fun cdv A outer s H vs Q E hr h => ?_)
  · obtain ⟨t, p, F, st, fb, fw, fs, cb, rfl, _⟩ := h; rfl
  · obtain ⟨t, p, F, st, fb, fw, fs, cb, rfl, ht, hO, hp, hb, k⟩ := h
    refine ⟨_, PSs.nox (pss_one (ps_ret (pe_op op_add (pe_op op_add (pe_fld (pv 2) rfl) (pe_op op_mul (pe_fld (pv 2) rfl) (pe_call G_weight (hr.mono (by decide)) (by rfl) m_weight k_weight b_weight .nil pass0 (pa_cons (pv 0) pa_nil)))) (pe_op op_fdiv (pe_op op_mul (pe_fld (pv 2) rfl) (pv 1)) pe_int)))), ?_⟩
    try simp only [Rd.cxK, Re.cxP, Re.cxW]
    obtain ⟨pdx, i0, i4, i6, i7, i8, i9, hpp⟩ := hp
    walk_at "rn"
    refine ⟨_, F, rfl, ?u17_p0, ?u17_p1, fun H1 s1 => ?_⟩
    case u17_p0 => walk_at "pre"
    case u17_p1 => walk_at "pre"
    have hpp1 := s1 _ _ hpp
    walk_at "rn"
    exact k _ s1
theorem ok_least_fee {f : Addr} {fd : FuncData} (mf : mg "least_fee" = some (.ref f)) (F : FnP K "least_fee" s_least_fee f fd) (C_weight : Cal P w K mg base "weight" 2 ["tx"] (sp_weight P w K))  (W_Params : CF_Params K mg) : Cal P w K mg base "least_fee" 3 ["tx", "steps", "params"] (sp_least_fee P w K) :=
  ⟨f, fd, mf, F.kp, F.bindsN fun _ _ _ _ _ _ us hl => match us, hl with | [_, _, _], _ => rfl, fn_least_fee F C_weight W_Params⟩

theorem fn_law_any_text {f : Addr} {fd : FuncData} (F : FnP K "_law_any_text" s_law_any_text f fd) (C_law_text : Cal P w K mg base "_law_text" 2 ["numbers", "at", "size"] (sp_law_text P w K)) (z_int : mg "int" = none) (z_len : mg "len" = none) : FnOk P w K mg base CX0 3 f fd ["numbers", "at"] (sp_law_any_text P w K) := by
  obtain ⟨f_law_text, fd_law_text, m_law_text, k_law_text, b_law_text, G_law_text⟩ := C_law_text.ex
  refine F.ok sc_law_any_text (fun vs H Q E h => ?_) (fun cdv A outer s H vs Q E hr h => ?_)
  · obtain ⟨b, ns, i, rfl, _⟩ := h; rfl
  · obtain ⟨b, ns, i, rfl, hb, hb3, hnl, k⟩ := h
    refine ⟨_, PSs.nox (pss_cons (ps_set (i := 2) sc_law_any_text.nd rfl (by first | exact Or.inl rfl | exact Or.inr rfl) (pe_op op_mod (pe_ix ix_list (pv 0) (pe_op op_mod (pe_callTy call_int1 (by rfl) z_int boot_int (pa_cons (pv 1) pa_nil)) (pe_callB call_len_seq (by rfl) z_len boot_len (pa_cons (pv 0) pa_nil))) (fun _ _ => rfl)) pe_int))
      (pss_cons (ps_if (pt_cmpR op_eq (pv 2) pe_int (nomark _)) (pss_one (ps_set (i := 2) sc_law_any_text.nd rfl (by first | exact Or.inl rfl | exact Or.inr rfl) (pe_ix ix_list (pv 0) (pe_op op_mod (pe_callTy call_int1 (by rfl) z_int boot_int (pa_cons (pe_op op_add (pv 1) pe_int) pa_nil)) (pe_callB call_len_seq (by rfl) z_len boot_len (pa_cons (pv 0) pa_nil))) (fun _ _ => rfl)))) pss_nil)
      (pss_one (ps_ret (pe_call G_law_text (hr.mono (by decide)) (by rfl) m_law_text k_law_text b_law_text .nil pass0 (pa_cons (pv 0) (pa_cons (pe_op op_add (pv 1) pe_int) (pa_cons (pv 2) pa_nil)))))))), ?_⟩
    try simp only [Rd.cxK, Re.cxP, Re.cxW]
    walk_at "rn"
    all_goals (refine ⟨b, ns, _, _, rfl, hb, hb3, hnl, by omega, fun l h1 h2 => ?_⟩; exact k l h1 h2)
theorem ok_law_any_text {f : Addr} {fd : FuncData} (mf : mg "_law_any_text" = some (.ref f)) (F : FnP K "_law_any_text" s_law_any_text f fd) (C_law_text : Cal P w K mg base "_law_text" 2 ["numbers", "at", "size"] (sp_law_text P w K)) (z_int : mg "int" = none) (z_len : mg "len" = none) : Cal P w K mg base "_law_any_text" 3 ["numbers", "at"] (sp_law_any_text P w K) :=
  ⟨f, fd, mf, F.kp, F.bindsN fun _ _ _ _ _ _ us hl => match us, hl with | [_, _], _ => rfl, fn_law_any_text F C_law_text z_int z_len⟩

theorem fn_law_made_params {f : Addr} {fd : FuncData} (F : FnP K "_law_made_params" s_law_made_params f fd) (C_Params___init : CalP P w K mg base)  (W_Params : CF_Params K mg) : FnOk P w K mg base CX0 3 f fd ["values"] (sp_law_made_params P w K) := by
  obtain ⟨fd_Params___init, D_Params___init, G_Params___init⟩ := C_Params___init.ex; obtain ⟨mv_pm, kb_pm⟩ := Bk38p.kb_m D_Params___init
  have cf_Params := W_Params
  refine F.ok sc_law_made_params (fun vs H Q E h => ?_) (fun cdv A outer s H vs Q E hr h => ?_)
  · obtain ⟨a, v0, v1, v2, v3, rfl, _⟩ := h; rfl
  · obtain ⟨a, v0, v1, v2, v3, rfl, ha, k⟩ := h
    refine ⟨_, PSs.nox (pss_one (ps_ret (pe_makeK0 cf_Params.mkr G_Params___init (hr.mono (by decide)) (by rfl) cf_Params.m kb_pm pass0 (pk_cons (pe_ix ix_list (pv 0) pe_int (fun _ _ => rfl)) (pk_cons (pe_ix ix_list (pv 0) pe_int (fun _ _ => rfl)) (pk_cons (pe_ix ix_list (pv 0) pe_int (fun _ _ => rfl)) (pk_cons (pe_ix ix_list (pv 0) pe_int (fun _ _ => rfl)) pk_nil))))))), ?_⟩
    try simp only [Rd.cxK, Re.cxP, Re.cxW]
    walk_at "rn"
    refine Kw.mkK0 ?_
    walk_at "rn"
    exact ⟨rfl, rfl, mkPa (fun _ => rfl) fun H' t s htn hp => k t H' s hp⟩
theorem ok_law_made_params {f : Addr} {fd : FuncData} (mf : mg "_law_made_params" = some (.ref f)) (F : FnP K "_law_made_params" s_law_made_params f fd) (C_Params___init : CalP P w K mg base)  (W_Params : CF_Params K mg) : Cal P w K mg base "_law_made_params" 3 ["values"] (sp_law_made_params P w K) :=
  ⟨f, fd, mf, F.kp, F.bindsN fun _ _ _ _ _ _ us hl => match us, hl with | [_], _ => rfl, fn_law_made_params F C_Params___init W_Params⟩

theorem fn_law_changed {f : Addr} {fd : FuncData} (F : FnP K "_law_changed" s_law_changed f fd) (C_law_grown : Cal P w K mg base "_law_grown" 2 ["rows", "factor"] (sp_law_grown P w K)) (z_enumerate : mg "enumerate" = none) (z_range : mg "range" = none) : FnOk P w K mg base CX0 3 f fd ["fields", "numbers"] (sp_law_changed P w K) := by
  obtain ⟨f_law_grown, fd_law_grown, m_law_grown, k_law_grown, b_law_grown, G_law_grown⟩ := C_law_grown.ex
  refine F.ok sc_law_changed (fun vs H Q E h => ?_) (fun cdv A outer s H vs Q E hr h => ?_)
  · obtain ⟨f, b, F, ns, rfl, _⟩ := h; rfl
  · obtain ⟨f, b, F, ns, rfl, hF, hO, hb, hb3, hnl, k⟩ := h
    refine ⟨_, PSs.nox (pss_cons (ps_set (i := 2) sc_law_changed.nd rfl (by first | exact Or.inl rfl | exact Or.inr rfl) (pe_op op_add pe_int (pe_op op_mod (pe_ix ix_list (pv 1) pe_int (fun _ _ => rfl)) pe_int)))
      (pss_cons (ps_if (pt_cmpR op_eq (pe_op op_mod (pe_ix ix_list (pv 1) pe_int (fun _ _ => rfl)) pe_int) pe_int (nomark _)) (pss_one (ps_set (i := 2) sc_law_changed.nd rfl (by first | exact Or.inl rfl | exact Or.inr rfl) (pe_op op_sub pe_int (pv 2)))) pss_nil)
      (pss_cons (ps_set (i := 3) sc_law_changed.nd rfl (by first | exact Or.inl rfl | exact Or.inr rfl) (pe_op op_add (pe_ix ix_list (pv 1) pe_int (fun _ _ => rfl)) pe_int))
      (pss_cons (ps_set (i := 4) sc_law_changed.nd rfl (by first | exact Or.inl rfl | exact Or.inr rfl) (pe_lst pa_nil))
      (pss_cons (ps_for PassesOwn.never rfl (pi_list (L2.pe_dget (hu_of hr) (pv 0) pe_str (fun _ _ => rfl))) (pg_tup (n := 3) rfl (pgs_cons (pg_name (i := 6) sc_law_changed.nd rfl (by first | exact Or.inl rfl | exact Or.inr rfl)) (pgs_cons (pg_name (i := 7) sc_law_changed.nd rfl (by first | exact Or.inl rfl | exact Or.inr rfl)) (pgs_cons (pg_name (i := 8) sc_law_changed.nd rfl (by first | exact Or.inl rfl | exact Or.inr rfl)) pgs_nil)))) (pss_cons (ps_if (pt_cmpR op_eq (pe_ix ix_tup (pv 6) pe_int (fun _ _ => rfl)) pe_str (nomark _)) (pss_one (ps_set (i := 6) sc_law_changed.nd rfl (by first | exact Or.inl rfl | exact Or.inr rfl) (pe_tup (pa_cons pe_str (pa_cons (pe_op op_add (pe_ix ix_tup (pv 6) pe_int (fun _ _ => rfl)) (pv 3)) pa_nil))))) pss_nil)
      (pss_one (ps_expr (pe_bm PySem.F.plainAttrs_list PySem.F.slot_list_append PySem.F.type_list_append mt_append (pv 4) (pa_cons (pe_tup (pa_cons (pv 6) (pa_cons (pe_call G_law_grown (hr.mono (by decide)) (by rfl) m_law_grown k_law_grown b_law_grown .nil pass0 (pa_cons (pv 7) (pa_cons (pv 2) pa_nil))) (pa_cons (pe_lc (own := [("one", 11)]) (g := gName 11) (tt := tYes) rfl sc_law_changed.nd (pi_list (pv 8)) (blkOk_by (N := N_law_changed) (sc := defScope s_law_changed) (by decide +kernel)) (fun _ _ _ _ _ => pg_name (i := 11) sc_law_changed.nd rfl (by first | exact Or.inl rfl | exact Or.inr rfl)) (fun _ _ _ _ _ => pts_nil) (fun _ _ _ _ _ => (pe_op op_add (pv 11) (pv 3)))) pa_nil)))) pa_nil))))))
      (pss_cons (ps_setLc (i := 5) (own := [("k", 9), ("purpose", 12), ("datum", 8)]) (g := (gTup K 2 (gCons (gName 9) (gCons (gTup K 2 (gCons (gName 12) (gCons (gName 8) gNil))) gNil)))) (tt := tYes) rfl sc_law_changed.nd rfl rfl (sw_true rfl rfl rfl (by decide +kernel)) (pi_enum (by rfl) z_enumerate (pa_cons (L2.pe_dget (hu_of hr) (pv 0) pe_str (fun _ _ => rfl)) pa_nil)) (blkOk_by (N := N_law_changed) (sc := defScope s_law_changed) (by decide +kernel)) (fun _ _ _ _ _ => (pg_tup (n := 2) rfl (pgs_cons (pg_name (i := 9) sc_law_changed.nd rfl (by first | exact Or.inl rfl | exact Or.inr rfl)) (pgs_cons (pg_tup (n := 2) rfl (pgs_cons (pg_name (i := 12) sc_law_changed.nd rfl (by first | exact Or.inl rfl | exact Or.inr rfl)) (pgs_cons (pg_name (i := 8) sc_law_changed.nd rfl (by first | exact Or.inl rfl | exact Or.inr rfl)) pgs_nil))) pgs_nil)))) (fun _ _ _ _ _ => pts_nil) (fun _ _ _ _ _ => (pe_tup (pa_cons (pe_tup (pa_cons pe_str (pa_cons (pe_op Rd.op_mulS pe_str (pe_op op_add (pv 9) pe_int)) pa_nil))) (pa_cons (pv 8) pa_nil)))))
      (pss_one (ps_ret (L2.pe_disp (pps_cons pe_str (pe_op op_add (L2.pe_dget (hu_of hr) (pv 0) pe_str (fun _ _ => rfl)) (pv 3)) (pps_cons pe_str (pe_lc (own := [("ref", 10)]) (g := gName 10) (tt := tYes) rfl sc_law_changed.nd (pi_list (L2.pe_dget (hu_of hr) (pv 0) pe_str (fun _ _ => rfl))) (blkOk_by (N := N_law_changed) (sc := defScope s_law_changed) (by decide +kernel)) (fun _ _ _ _ _ => pg_name (i := 10) sc_law_changed.nd rfl (by first | exact Or.inl rfl | exact Or.inr rfl)) (fun _ _ _ _ _ => pts_nil) (fun _ _ _ _ _ => (pe_tup (pa_cons (pe_ix (Rb.ix_tupK (K := K) rfl) (pv 10) pe_int (fun _ _ => rfl)) (pa_cons (pe_op op_add (pe_ix (Rb.ix_tupK (K := K) rfl) (pv 10) pe_int (fun _ _ => rfl)) (pv 3)) pa_nil))))) (pps_cons pe_str (pe_lc (own := [("ref", 10)]) (g := gName 10) (tt := tYes) rfl sc_law_changed.nd (pi_list (L2.pe_dget (hu_of hr) (pv 0) pe_str (fun _ _ => rfl))) (blkOk_by (N := N_law_changed) (sc := defScope s_law_changed) (by decide +kernel)) (fun _ _ _ _ _ => pg_name (i := 10) sc_law_changed.nd rfl (by first | exact Or.inl rfl | exact Or.inr rfl)) (fun _ _ _ _ _ => pts_nil) (fun _ _ _ _ _ => (pe_tup (pa_cons (pe_op op_sub (pe_ix (Rb.ix_tupK (K := K) rfl) (pv 10) pe_int (fun _ _ => rfl)) (pv 3)) (pa_cons (pe_ix (Rb.ix_tupK (K := K) rfl) (pv 10) pe_int (fun _ _ => rfl)) pa_nil))))) (pps_cons pe_str (pe_lc (own := [("k", 9)]) (g := gName 9) (tt := tYes) rfl sc_law_changed.nd (pi_range1 (by rfl) z_range (pa_cons (pe_op op_mod (pe_ix ix_list (pv 1) pe_int (fun _ _ => rfl)) pe_int) pa_nil)) (blkOk_by (N := N_law_changed) (sc := defScope s_law_changed) (by decide +kernel)) (fun _ _ _ _ _ => pg_name (i := 9) sc_law_changed.nd rfl (by first | exact Or.inl rfl | exact Or.inr rfl)) (fun _ _ _ _ _ => pts_nil) (fun _ _ _ _ _ => (pe_tup (pa_cons (pv 9) (pa_cons (pv 3) pa_nil))))) (pps_cons pe_str (pv 4) (pps_cons pe_str (pe_call G_law_grown (hr.mono (by decide)) (by rfl) m_law_grown k_law_grown b_law_grown .nil pass0 (pa_cons (L2.pe_dget (hu_of hr) (pv 0) pe_str (fun _ _ => rfl)) (pa_cons (pv 2) pa_nil))) (pps_cons pe_str (pe_op op_add (L2.pe_dget (hu_of hr) (pv 0) pe_str (fun _ _ => rfl)) (pv 3)) (pps_cons pe_str (pe_op op_sub (L2.pe_dget (hu_of hr) (pv 0) pe_str (fun _ _ => rfl)) (pv 3)) (pps_cons pe_str (pe_op op_add (L2.pe_dget (hu_of hr) (pv 0) pe_str (fun _ _ => rfl)) (pv 3)) (pps_cons pe_str (pe_lc (own := [("one", 11)]) (g := gName 11) (tt := tYes) rfl sc_law_changed.nd (pi_list (L2.pe_dget (hu_of hr) (pv 0) pe_str (fun _ _ => rfl))) (blkOk_by (N := N_law_changed) (sc := defScope s_law_changed) (by decide +kernel)) (fun _ _ _ _ _ => pg_name (i := 11) sc_law_changed.nd rfl (by first | exact Or.inl rfl | exact Or.inr rfl)) (fun _ _ _ _ _ => pts_nil) (fun _ _ _ _ _ => (pe_op op_add (pv 11) (pv 3)))) (pps_cons pe_str (pv 5) (pps_cons pe_str (pe_lc (own := [("one", 11)]) (g := gName 11) (tt := tYes) rfl sc_law_changed.nd (pi_list (L2.pe_dget (hu_of hr) (pv 0) pe_str (fun _ _ => rfl))) (blkOk_by (N := N_law_changed) (sc := defScope s_law_changed) (by decide +kernel)) (fun _ _ _ _ _ => pg_name (i := 11) sc_law_changed.nd rfl (by first | exact Or.inl rfl | exact Or.inr rfl)) (fun _ _ _ _ _ => pts_nil) (fun _ _ _ _ _ => (pe_tup (pa_cons pe_str (pa_cons (pe_op op_sub (pe_ix (Rb.ix_tupK (K := K) rfl) (pv 11) pe_int (fun _ _ => rfl)) (pv 3)) pa_nil))))) (pps_cons pe_str (pe_lc (own := [("one", 11)]) (g := gName 11) (tt := tYes) rfl sc_law_changed.nd (pi_list (L2.pe_dget (hu_of hr) (pv 0) pe_str (fun _ _ => rfl))) (blkOk_by (N := N_law_changed) (sc := defScope s_law_changed) (by decide +kernel)) (fun _ _ _ _ _ => pg_name (i := 11) sc_law_changed.nd rfl (by first | exact Or.inl rfl | exact Or.inr rfl)) (fun _ _ _ _ _ => pts_nil) (fun _ _ _ _ _ => (pe_tup (pa_cons (pe_op op_add (pe_ix (Rb.ix_tupK (K := K) rfl) (pv 11) pe_int (fun _ _ => rfl)) (pv 3)) (pa_cons (pe_op op_sub (pe_ix (Rb.ix_tupK (K := K) rfl) (pv 11) pe_int (fun _ _ => rfl)) (pv 3)) pa_nil))))) (pps_cons pe_str (pe_not (L2.pe_dget (hu_of hr) (pv 0) pe_str (fun _ _ => rfl))) pps_nil)))))))))))))) (by rfl) (by rfl) (fun z => by cases z) (by decide)))))))))), ?_⟩
    try simp only [Rd.cxK, Re.cxP, Re.cxW, lit_10, lit_11, lit_12, lit_13, lit_14, lit_15, lit_16, lit_17, lit_18, lit_19, lit_20, lit_21, lit_22, lit_23, lit_24, lit_6, lit_7]
    walk_at "rnj"
    rename_i w30 w30a w30b
    refine Rd.join (fun σ' H' => ∃ c : Int, ∃ c3 c4 c5 c6 c7 c8 c9 c10 c11 c12,  σ' = [some (.ref f), some (.ref b), some (.int c), c3, c4, c5, c6, c7, c8, c9, c10, c11, c12] ∧ H = H' ∧ c ≠ 0 ∧ -100 ≤ c ∧ c ≤ 100) ?_ ?_
    · intro N hN
      walk_at "rn"
      · exact hN _ _ ⟨_, _, _, _, _, _, _, _, _, _, _,  rfl, rfl, by omega, by omega, by omega⟩
      · exact hN _ _ ⟨_, _, _, _, _, _, _, _, _, _, _,  rfl, rfl, by omega, by omega, by omega⟩
    rintro σ' H' ⟨c, c3, c4, c5, c6, c7, c8, c9, c10, c11, c12,  rfl, rfl, hc0, hc1, hc2⟩
    walk_at "rn"
    rename_i v32 v32a v32b pm hpm
    have t0 := Rd.same_new (o := .lst []) hpm
    obtain ⟨sh, hsh⟩ : ∃ sh : Int, sh = v32 + 1 := ⟨_, rfl⟩
    rw [← hsh]
    refine fdGetS 4 hF t0 rfl rfl fun v4 hv4 => ?_
    obtain ⟨z4, us4, rfl, hz4, hd4⟩ := dp_lst hv4
    have hul := Rd.dpAll_len hd4
    rw [List.length_map] at hul
    have hm4 := hO.l4
    have hm7 := hO.l7
    refine Rd.forL (fun i σ' H' => ∃ (vs : List V) (L : List Fo), ∃ c5 c6 c7 c8 c9 c10 c11 c12,  σ' = [some (.ref f), some (.ref b), some (.int c), some (.int sh), some (.ref pm), c5, c6, c7, c8, c9, c10, c11, c12] ∧ Same H H' ∧ H' pm = some (.lst vs) ∧ DpAll K (dl H' pm) vs (L.map encO) ∧ (∀ o ∈ L, OkO o) ∧ L.length = i ∧ L.map wo = (F.makes.take i).map wo) (t0.seq hz4) ⟨[], [], _, _, _, _, _, _, _, _,  rfl, t0, upd_same, .nil, fun _ h => absurd h List.not_mem_nil, rfl, rfl⟩ (fun i σ' H' _ ⟨_, _, c5, c6, c7, c8, c9, c10, c11, c12,  _, h, _⟩ => h.seq hz4) ?_ ?_
    · rintro i x σ' H' hi ⟨vs, L, c5, c6, c7, c8, c9, c10, c11, c12,  rfl, hs, hpm', hL, hLo, hLl, hLw⟩
      obtain ⟨d, hd2, hdp⟩ := dpAll_at hd4 hi
      obtain ⟨o, ho, rfl⟩ := map_at hd2
      have hoo := hO.makes o (List.mem_of_getElem? ho)
      have hrl := hoo.rl
      have hdl := hoo.dl
      have hi2 : i < us4.length := (List.getElem?_eq_some_iff.mp hi).1
      have hvl := Rd.dpAll_len hL
      rw [List.length_map] at hvl
      obtain ⟨z, u, v, y, rfl, hz, hu, hv, hy⟩ := dp_triple (dpS1 hdp hs)
      obtain ⟨zr, ur, rfl, hzr, hdr⟩ := dp_lst hv
      obtain ⟨zd, ud, rfl, hzd, hdd⟩ := dp_lst hy
      refine triple_of hz ?_
      walk_at "rnj"
      refine Rd.join (fun σ' H2 => ∃ (q : V) (d' : PyData), ∃ c5 c9 c10 c11 c12,  σ' = [some (.ref f), some (.ref b), some (.int c), some (.int sh), some (.ref pm), c5, some (q), some (.ref zr), some (.ref zd), c9, c10, c11, c12] ∧ Same H' H2 ∧ Dp K H2 q d' ∧ OkD 4 d' ∧ AdK d' ∧ adT d' = adT o.adr) ?_ ?_
      · intro N hN
        rcases hoo.ak with ⟨ik, e⟩ | ⟨l, e, hl1c, hl2c⟩
        · have hu2 := hu
          rw [e] at hu
          obtain ⟨za, xa, ya, rfl, hza, hxa, hya⟩ := dp_pair hu
          obtain rfl := dp_str hxa
          obtain rfl := dp_int hya
          walk_at "rn"
          all_goals first | (exfalso; simp at *; done) | skip
          rename_i t ht
          exact hN _ _ ⟨.ref t, .tuple [.str (Rd.S [107, 101, 121]), .int (ik + sh)], _, _, _, _, _,  rfl, Rd.same_new ht, .tup (SqT.of upd_same) (.cons (.str _) (.cons (.int _) .nil)), .two (.str (strOk_S (by decide)) _) (.int _ 3), .inl ⟨_, rfl⟩, by rw [e]; rfl⟩
        · have hu2 := hu
          rw [e] at hu
          obtain ⟨za, xa, ya, rfl, hza, hxa, hya⟩ := dp_pair hu
          obtain rfl := dp_str hxa
          walk_at "rn"
          all_goals first | (exfalso; simp at *; done) | skip
          exact hN _ _ ⟨_, o.adr, _, _, _, _, _,  rfl, Same.refl _, hu2, hoo.adr, hoo.ak, rfl⟩
      rintro σ' H2 ⟨q, d', c5, c9, c10, c11, c12,  rfl, s2, hq, hqo, hqa, hqt⟩
      have hpm2 := s2 _ _ hpm'
      walk_at "rn"
      refine ⟨_, ur, o.rows, _, rfl, (s2.seq hzr), (dpAll_same s2 hdr), hoo.rows, hoo.rl, (by omega), fun pg yg H3 s3 hpg hpgy hG => ?_⟩
      have hpm3 := s3 _ _ hpm2
      have hzd3 := s3.seq (s2.seq hzd)
      walk_at "rn"
      refine lcDI encI (fun e => e + sh) hzd3 (dpAll_same (s2.trans s3) hdd) (by have := Rd.dpAll_len hdd; rw [List.length_map] at this; omega) ?_ ?_
      · rintro e x D acc H' C hD s he hx hDl hC
        obtain rfl := dp_int hx
        walk_at "rn"
        exact hC _ (Same.refl _)
      rintro Dd H4 hDd s4 hDdl
      have hpm4 := s4 _ _ hpm3
      walk_at "rn"
      rename_i t ht
      have s5 := Rd.same_new (o := .tup [q, .ref pg, .ref Dd]) ht
      have hpm5 := s5 _ _ hpm4
      have sA := (s2.trans s3).trans (s4.trans s5)
      have n1 : t ≠ pm := fun e => by subst e; rw [ht] at hpm4; cases hpm4
      have n2 : pg ≠ pm := fun e => by subst e; rw [hpg] at hpm2; cases hpm2
      have n3 : Dd ≠ pm := fun e => by subst e; rw [hDd] at hpm3; cases hpm3
      refine ⟨vs ++ [.ref t], L ++ [⟨d', grown (nf o.rows) c, o.dat.map fun e => e + sh⟩], _, _, _, _, _, _, _, _,  rfl, Rd.same_mut (hs.trans sA) hpm, upd_same, ?_, ?_, by rw [List.length_append]; simp; omega, ?_⟩
      · rw [dl_upd, List.map_append]
        exact dpAll_app (dpAll_same (same_dl sA) hL) (dpAll_one (.tup (SqT.of ((dl_ne n1).trans upd_same)) (.cons (dp_keep (sameT_dl hpm5) hqo.nl (dpS1 hq (s3.trans (s4.trans s5)))) (.cons (.lst (SqL.of ((dl_ne n2).trans (s5 _ _ (s4 _ _ hpgy)))) (dpAll_keep (sameT_dl hpm5) (nlMap encR_nl) (dpAll_same (s4.trans s5) hG))) (.cons (.lst (SqL.of ((dl_ne n3).trans (s5 _ _ hDdl))) dp_ints) .nil)))))
      · intro o2 ho2
        rcases List.mem_append.mp ho2 with h | h
        · exact hLo o2 h
        · rw [List.mem_singleton.mp h]
          exact ⟨hqa, hqo, grown_ok (nf_ok hoo.rows), by have := nf_len o.rows; show (grown (nf o.rows) c).length ≤ 24; unfold grown; rw [List.length_map]; omega, by show (o.dat.map _).length ≤ 24; rw [List.length_map]; omega⟩
      · rw [take_map ho, List.map_append, hLw]
        congr 1
        show [wo _] = [wo o]
        rw [wo_same (p := o) (nf_grown o.rows hc0) (by show (o.dat.map _).length = _; rw [List.length_map]) hqt]
    rintro σ' H5 ⟨vs, L, c5, c6, c7, c8, c9, c10, c11, c12,  rfl, sH, hpm5, hL, hLo, hLl, hLw⟩
    rw [hul, List.take_length] at hLw
    have hmade : Dp K H5 (.ref pm) (.list (L.map encO)) := .lst (SqL.of hpm5) (dpAll_same dl_same hL)
    clear hL hpm5 hz4 hd4 hv4 t0
    walk_at "rn"
    refine iEn ?_
    walk_at "rn"
    refine fdGetS 10 hF sH rfl rfl fun v10 hv10 => ?_
    obtain ⟨z10, us10, rfl, hz10, hd10⟩ := dp_lst hv10
    have hul10 := Rd.dpAll_len hd10
    rw [List.length_map] at hul10
    refine Rd.nil (lcEn (fun D i acc H' => ∃ L2 : List (PyData × List Int), DpAll K (dl H' D) acc (L2.map encFact) ∧ (∀ e ∈ L2, OkD 4 e.1 ∧ e.2.length ≤ 24) ∧ L2.map (fun e => e.2.length) = (F.data.take i).map (fun e => e.2.length)) (sH.seq hz10) (fun D H' _ _ _ => ⟨[], .nil, fun _ h => absurd h List.not_mem_nil, rfl⟩) ?_ ?_)
    · rintro i x acc D H' T hD s hi hl hDl ⟨L2, hL2, hO2, hW2⟩ hT
      obtain ⟨d, hd2, hdp⟩ := dpAll_at hd10 hi
      obtain ⟨e, he, rfl⟩ := map_at hd2
      obtain ⟨z, u, v, rfl, hz, hu, hv⟩ := dp_pair hdp
      have hi2 : i < us10.length := (List.getElem?_eq_some_iff.mp hi).1
      have s6 := (sH.trans s).trans (Rd.same_new (o := .tup [.int (i : Nat), .ref z]) hT)
      refine pair_in (SqT.of upd_same) (Rd.same_tup s6 hz) ?_
      walk_at "rn"
      rename_i t1 ht1 t2 ht2
      have sT := Rd.same_new (o := .tup [.int (i : Nat), .ref z]) hT
      have u1 := Rd.same_new (o := .tup [.str (Rd.S [109, 105, 110, 116]), .str (Rd.S (List.replicate ((i : Int) + 1).toNat 122))]) ht1
      have u2 := Rd.same_new (o := .tup [.ref t1, v]) ht2
      have sall := (sT.trans u1).trans u2
      have hD2 := sall _ _ hDl
      have nH : H D = none := sH.free hD
      have n1 : t1 ≠ D := fun h => by subst h; have := sT _ _ hDl; rw [ht1] at this; cases this
      have n2 : t2 ≠ D := fun h => by subst h; have := (sT.trans u1) _ _ hDl; rw [ht2] at this; cases this
      refine Rd.lcE hD hD2 (s.trans sall) hl (by omega) ⟨L2 ++ [(.tuple [.str (Rd.S [109, 105, 110, 116]), .str (Rd.S (List.replicate ((i : Int) + 1).toNat 122))], e.2)], ?_, ?_, ?_⟩
      · rw [dl_upd, List.map_append]
        exact dpAll_app (dpAll_same (same_dl sall) hL2) (dpAll_one (.tup (SqT.of ((dl_ne n2).trans upd_same)) (.cons (.tup (SqT.of ((dl_ne n1).trans (u2 _ _ upd_same))) (.cons (.str _) (.cons (.str _) .nil))) (.cons (dpS1 hv (same_to_dl ((sH.trans s).trans sall) nH)) .nil))))
      · intro e2 he2
        rcases List.mem_append.mp he2 with h | h
        · exact hO2 e2 h
        · rw [List.mem_singleton.mp h]
          exact ⟨.two (.str (strOk_S (by decide)) _) (.str (strOk_S fun c hc => by rw [List.eq_of_mem_replicate hc]; decide) 3), (hO.data e (List.mem_of_getElem? he)).2⟩
      · rw [take_map he, List.map_append, hW2]; rfl
    rintro D10 acc10 H6 hD10 s6 hD10l hal ⟨L2, hL2, hO2, hW2⟩
    rw [hul10, List.take_length] at hW2
    have hdata : Dp K H6 (.ref D10) (.list (L2.map encFact)) := .lst (SqL.of hD10l) (dpAll_same dl_same hL2)
    replace hmade := dpS1 hmade s6
    replace sH := sH.trans s6
    clear hL2 hD10l hD10 s6 hz10 hd10 hv10
    walk_at "rn"
    rename_i pD hpD
    have hd0 : upd H6 pD (.dK []) pD = some (.dK []) := upd_same
    have tD := Rd.same_new (o := .dK []) hpD
    replace hdata := dpS1 hdata tD
    replace hmade := dpS1 hmade tD
    have nD : H pD = none := sH.free hpD
    have sD := sH
    replace sH := sH.trans tD
    have A0 : DpAll K (upd H6 pD (.dK [])) [] [] := .nil
    generalize upd H6 pD (.dK []) = G0 at *
    refine fdGetS 0 hF sH rfl rfl fun v0 hv0 => ?_
    obtain rfl := dp_int hv0
    have A1 := dpAll_app A0 (dpAll_one (Dp.int (K := K) (H := G0) (F.number + sh)))
    clear A0
    walk_at "rn"
    refine fdGetS 1 hF sH rfl rfl fun v1 hv1 => ?_
    obtain ⟨z1, us1, rfl, hz1, hd1⟩ := dp_lst hv1
    have hln1 := Rd.dpAll_len hd1
    rw [List.length_map] at hln1
    have hmx1 := hO.l1
    refine lcDL encRef (fun e => encRef (e.2, e.1 + sh)) (sH.seq hz1) (dpAll_same sH hd1) (by omega) ?_ ?_
    · rintro e x D acc H' C hD s he hx hDl hC
      obtain ⟨z, x1, y1, rfl, hz, hx1, hy1⟩ := dp_pair hx
      obtain rfl := dp_int hx1
      obtain rfl := dp_int hy1
      walk_at "rn"
      rename_i t ht
      have n1 : t ≠ D := fun h => by subst h; rw [hDl] at ht; cases ht
      exact hC _ _ (Rd.same_new ht) (.tup (SqT.of ((dl_ne n1).trans upd_same)) (.cons (.int _) (.cons (.int _) .nil)))
    rintro D1 acc1 G1 hD1 g1 hDl1 hA1
    have w1 : Dp K G1 (.ref D1) (.list ((F.spends.map fun e => (e.2, e.1 + sh)).map encRef)) := by first | exact .lst (SqL.of hDl1) (dpAll_same dl_same hA1) | (rw [List.map_map]; exact .lst (SqL.of hDl1) (dpAll_same dl_same hA1))
    clear hv1 hz1 hd1 hDl1 hA1 hD1
    have A2 := dpAll_app (dpAll_same g1 A1) (dpAll_one w1)
    clear A1
    replace sH := sH.trans g1
    replace hd0 := g1 _ _ hd0
    replace hdata := dpS1 hdata g1
    replace hmade := dpS1 hmade g1
    have hbk1 := sH _ _ hb
    clear g1
    walk_at "rn"
    clear hbk1
    refine fdGetS 2 hF sH rfl rfl fun v2 hv2 => ?_
    obtain ⟨z2, us2, rfl, hz2, hd2⟩ := dp_lst hv2
    have hln2 := Rd.dpAll_len hd2
    rw [List.length_map] at hln2
    have hmx2 := hO.l2
    refine lcDL encRef (fun e => encRef (e.2 - sh, e.1)) (sH.seq hz2) (dpAll_same sH hd2) (by omega) ?_ ?_
    · rintro e x D acc H' C hD s he hx hDl hC
      obtain ⟨z, x1, y1, rfl, hz, hx1, hy1⟩ := dp_pair hx
      obtain rfl := dp_int hx1
      obtain rfl := dp_int hy1
      walk_at "rn"
      rename_i t ht
      have n1 : t ≠ D := fun h => by subst h; rw [hDl] at ht; cases ht
      exact hC _ _ (Rd.same_new ht) (.tup (SqT.of ((dl_ne n1).trans upd_same)) (.cons (.int _) (.cons (.int _) .nil)))
    rintro D2 acc2 G2 hD2 g2 hDl2 hA2
    have w2 : Dp K G2 (.ref D2) (.list ((F.looks.map fun e => (e.2 - sh, e.1)).map encRef)) := by first | exact .lst (SqL.of hDl2) (dpAll_same dl_same hA2) | (rw [List.map_map]; exact .lst (SqL.of hDl2) (dpAll_same dl_same hA2))
    clear hv2 hz2 hd2 hDl2 hA2 hD2
    have A3 := dpAll_app (dpAll_same g2 A2) (dpAll_one w2)
    clear A2
    replace sH := sH.trans g2
    replace hd0 := g2 _ _ hd0
    replace hdata := dpS1 hdata g2
    replace hmade := dpS1 hmade g2
    have hbk2 := sH _ _ hb
    clear g2
    walk_at "rn"
    clear hbk2
    rename_i v33 v33a v33b
    refine lcG (K := K) encRef (fun _ => True) (by omega) ?_ ?_
    · rintro i2 D acc H11 C hi2 s11 hDl hC
      walk_at "rn"
      rename_i t ht
      have hx : Dp K (upd H11 t (.tup [.int (i2 : Nat), .int sh])) (.ref t) (encRef ((i2 : Nat), sh)) := .tup (SqT.of upd_same) (.cons (.int _) (.cons (.int _) .nil))
      exact hC _ ((i2 : Nat), sh) _ (Rd.same_new ht) hx (FrD.of_nl (Rd.same_new ht) rfl hx) trivial
    rintro D3 acc3 L3 G3 hD3 g3 hDl3 hA3 _ hlp
    have w3 : Dp K G3 (.ref D3) (.list (L3.map encRef)) := .lst (SqL.of hDl3) (dpAll_same dl_same hA3)
    clear hDl3 hA3 hD3
    have A4 := dpAll_app (dpAll_same g3 A3) (dpAll_one w3)
    clear A3
    replace sH := sH.trans g3
    replace hd0 := g3 _ _ hd0
    replace hdata := dpS1 hdata g3
    replace hmade := dpS1 hmade g3
    have hbk3 := sH _ _ hb
    clear g3
    walk_at "rn"
    clear hbk3
    have A5 := dpAll_app A4 (dpAll_one hmade)
    clear A4
    refine fdGetS 5 hF sH rfl rfl fun v5 hv5 => ?_
    obtain ⟨z5, us5, rfl, hz5, hd5⟩ := dp_lst hv5
    walk_at "rn"
    refine ⟨_, us5, F.mint, _, rfl, (sH.seq hz5), (dpAll_same sH hd5), hO.mint, hO.l5, (by omega), fun D4 ys4 G4 g4 hD4 hDl4 hA4 => ?_⟩
    have w4 : Dp K G4 (.ref D4) (.list ((grown (nf F.mint) c).map encR)) := .lst (SqL.of hDl4) hA4
    clear hv5 hz5 hd5 hDl4 hA4 hD4
    have A6 := dpAll_app (dpAll_same g4 A5) (dpAll_one w4)
    clear A5
    replace sH := sH.trans g4
    replace hd0 := g4 _ _ hd0
    replace hdata := dpS1 hdata g4
    replace hmade := dpS1 hmade g4
    have hbk4 := sH _ _ hb
    clear g4
    walk_at "rn"
    clear hbk4
    refine fdGetS 6 hF sH rfl rfl fun v6 hv6 => ?_
    obtain rfl := dp_int hv6
    have A7 := dpAll_app A6 (dpAll_one (Dp.int (K := K) (H := G4) (F.fee + sh)))
    clear A6
    walk_at "rn"
    refine fdGetS 7 hF sH rfl rfl fun v7 hv7 => ?_
    obtain rfl := dp_int hv7
    have A8 := dpAll_app A7 (dpAll_one (Dp.int (K := K) (H := G4) (F.begins - sh)))
    clear A7
    walk_at "rn"
    refine fdGetS 8 hF sH rfl rfl fun v8 hv8 => ?_
    obtain rfl := dp_int hv8
    have A9 := dpAll_app A8 (dpAll_one (Dp.int (K := K) (H := G4) (F.ends + sh)))
    clear A8
    walk_at "rn"
    refine fdGetS 9 hF sH rfl rfl fun v9 hv9 => ?_
    obtain ⟨z9, us9, rfl, hz9, hd9⟩ := dp_lst hv9
    have hln9 := Rd.dpAll_len hd9
    rw [List.length_map] at hln9
    have hmx9 := hO.l6
    refine lcDL encI (fun e => encI (e + sh)) (sH.seq hz9) (dpAll_same sH hd9) (by omega) ?_ ?_
    · rintro e x D acc H' C hD s he hx hDl hC
      obtain rfl := dp_int hx
      walk_at "rn"
      exact hC _ _ (Same.refl _) (.int _)
    rintro D5 acc5 G5 hD5 g5 hDl5 hA5
    have w5 : Dp K G5 (.ref D5) (.list ((F.signers.map fun e => e + sh).map encI)) := by first | exact .lst (SqL.of hDl5) (dpAll_same dl_same hA5) | (rw [List.map_map]; exact .lst (SqL.of hDl5) (dpAll_same dl_same hA5))
    clear hv9 hz9 hd9 hDl5 hA5 hD5
    have A10 := dpAll_app (dpAll_same g5 A9) (dpAll_one w5)
    clear A9
    replace sH := sH.trans g5
    replace hd0 := g5 _ _ hd0
    replace hdata := dpS1 hdata g5
    replace hmade := dpS1 hmade g5
    have hbk5 := sH _ _ hb
    clear g5
    walk_at "rn"
    clear hbk5
    have A11 := dpAll_app A10 (dpAll_one hdata)
    clear A10
    refine fdGetS 11 hF sH rfl rfl fun v11 hv11 => ?_
    obtain ⟨z11, us11, rfl, hz11, hd11⟩ := dp_lst hv11
    have hln11 := Rd.dpAll_len hd11
    have hmx11 := hO.l8
    refine lcDL (fun d => d) (fun d => .tuple [.str (Rd.S [108, 101, 97, 118, 101]), .int (ddI d - sh)]) (sH.seq hz11) (dpAll_same sH (show DpAll K H us11 (F.deeds.map fun d => d) by rw [List.map_id']; exact hd11)) (by omega) ?_ ?_
    · rintro e x D acc H' C hD s he hx hDl hC
      obtain ⟨ws, wi, ew⟩ := hO.dk e he
      rw [ew] at hx
      obtain ⟨z, x1, y1, rfl, hz, hx1, hy1⟩ := dp_pair hx
      obtain rfl := dp_int hy1
      walk_at "rn"
      rename_i t ht
      have n1 : t ≠ D := fun h => by subst h; rw [hDl] at ht; cases ht
      refine hC _ _ (Rd.same_new ht) ?_
      rw [ew]
      exact .tup (SqT.of ((dl_ne n1).trans upd_same)) (.cons (.str _) (.cons (.int _) .nil))
    rintro D6 acc6 G6 hD6 g6 hDl6 hA6
    have w6 : Dp K G6 (.ref D6) (.list (F.deeds.map fun d => .tuple [.str (Rd.S [108, 101, 97, 118, 101]), .int (ddI d - sh)])) := by first | exact .lst (SqL.of hDl6) (dpAll_same dl_same hA6) | (rw [List.map_map]; exact .lst (SqL.of hDl6) (dpAll_same dl_same hA6))
    clear hv11 hz11 hd11 hDl6 hA6 hD6
    have A12 := dpAll_app (dpAll_same g6 A11) (dpAll_one w6)
    clear A11
    replace sH := sH.trans g6
    replace hd0 := g6 _ _ hd0
    replace hdata := dpS1 hdata g6
    replace hmade := dpS1 hmade g6
    have hbk6 := sH _ _ hb
    clear g6
    walk_at "rn"
    clear hbk6
    refine fdGetS 12 hF sH rfl rfl fun v12 hv12 => ?_
    obtain ⟨z12, us12, rfl, hz12, hd12⟩ := dp_lst hv12
    have hln12 := Rd.dpAll_len hd12
    rw [List.length_map] at hln12
    have hmx12 := hO.l9
    refine lcDL encRef (fun e => encRef (e.1 + sh, e.2 - sh)) (sH.seq hz12) (dpAll_same sH hd12) (by omega) ?_ ?_
    · rintro e x D acc H' C hD s he hx hDl hC
      obtain ⟨z, x1, y1, rfl, hz, hx1, hy1⟩ := dp_pair hx
      obtain rfl := dp_int hx1
      obtain rfl := dp_int hy1
      walk_at "rn"
      rename_i t ht
      have n1 : t ≠ D := fun h => by subst h; rw [hDl] at ht; cases ht
      exact hC _ _ (Rd.same_new ht) (.tup (SqT.of ((dl_ne n1).trans upd_same)) (.cons (.int _) (.cons (.int _) .nil)))
    rintro D7 acc7 G7 hD7 g7 hDl7 hA7
    have w7 : Dp K G7 (.ref D7) (.list ((F.draws.map fun e => (e.1 + sh, e.2 - sh)).map encRef)) := by first | exact .lst (SqL.of hDl7) (dpAll_same dl_same hA7) | (rw [List.map_map]; exact .lst (SqL.of hDl7) (dpAll_same dl_same hA7))
    clear hv12 hz12 hd12 hDl7 hA7 hD7
    have A13 := dpAll_app (dpAll_same g7 A12) (dpAll_one w7)
    clear A12
    replace sH := sH.trans g7
    replace hd0 := g7 _ _ hd0
    replace hdata := dpS1 hdata g7
    replace hmade := dpS1 hmade g7
    have hbk7 := sH _ _ hb
    clear g7
    walk_at "rn"
    clear hbk7
    refine fdGetS 13 hF sH rfl rfl fun v13 hv13 => ?_
    obtain rfl := dp_bool hv13
    have A14 := dpAll_app A13 (dpAll_one (Dp.bl (K := K) (H := G7) (!F.approved)))
    clear A13
    walk_at "rn"
    refine ⟨hd0, (fnames.map Sum.inr).zip [V.int (F.number + sh), V.ref D1, V.ref D2, V.ref D3, V.ref pm, V.ref D4, V.int (F.fee + sh), V.int (F.begins - sh), V.int (F.ends + sh), V.ref D5, V.ref D10, V.ref D6, V.ref D7, V.bl (!F.approved)], rfl, (show 14 ≤ 15 by decide), ?_⟩
    have hnd : (List.map (fun x : _root_.L2.Key × V => x.1) ([] ++ (fnames.map (Sum.inr : Str → _root_.L2.Key)).zip [V.int (F.number + sh), V.ref D1, V.ref D2, V.ref D3, V.ref pm, V.ref D4, V.int (F.fee + sh), V.int (F.begins - sh), V.int (F.ends + sh), V.ref D5, V.ref D10, V.ref D6, V.ref D7, V.bl (!F.approved)])).Nodup := (show (fnames.map (Sum.inr : Str → _root_.L2.Key)).Nodup from List.pairwise_map.mpr (fnames_nd.imp fun h e => h (Sum.inr.inj e)))
    rw [merge_id hnd]
    have e2 : (L2.map fun e => (2 : Int) + (e.2.length : Int)) = F.data.map fun e => (2 : Int) + (e.2.length : Int) := by
      have := congrArg (List.map fun n : Nat => (2 : Int) + (n : Int)) hW2
      rw [List.map_map, List.map_map] at this
      exact this
    have hLl2 : L.length ≤ 24 := by omega
    have hL2l : L2.length ≤ 24 := by
      have := congrArg List.length hW2
      rw [List.length_map, List.length_map] at this
      omega
    have hgl : (grown (nf F.mint) c).length ≤ 24 := by have := nf_len F.mint; have := hO.l5; unfold grown; rw [List.length_map]; omega
    refine k pD ⟨F.number + sh, F.spends.map fun e => (e.2, e.1 + sh), F.looks.map fun e => (e.2 - sh, e.1), L3, L, grown (nf F.mint) c, F.fee + sh, F.begins - sh, F.ends + sh, F.signers.map fun e => e + sh, L2, F.deeds.map fun d => .tuple [.str (Rd.S [108, 101, 97, 118, 101]), .int (ddI d - sh)], F.draws.map fun e => (e.1 + sh, e.2 - sh), !F.approved⟩ _ (Rd.same_mut sH nD) nD ⟨fnames_nd, _, upd_same, ?_⟩ ?_ ?_
    · exact dpAll_off hd0 (fun _ e => by cases e) (fun _ e => by cases e) (fun _ _ e => by cases e) A14
    · refine ⟨by show (F.spends.map _).length ≤ 24; rw [List.length_map]; exact hO.l1, by show (F.looks.map _).length ≤ 24; rw [List.length_map]; exact hO.l2, by show L3.length ≤ 24; omega, hLl2, hgl, by show (F.signers.map _).length ≤ 24; rw [List.length_map]; exact hO.l6, hL2l, by show (F.deeds.map _).length ≤ 24; rw [List.length_map]; exact hO.l8, by show (F.draws.map _).length ≤ 24; rw [List.length_map]; exact hO.l9, hLo, grown_ok (nf_ok hO.mint), hO2, fun d hd => ?_, fun d hd => ?_⟩
      · obtain ⟨e, he, rfl⟩ := List.mem_map.mp hd
        exact .two (.str (strOk_S (by decide)) _) (.int _ 3)
      · obtain ⟨e, he, rfl⟩ := List.mem_map.mp hd
        exact ⟨_, _, rfl⟩
    · unfold wt
      simp only [List.length_map]
      rw [hLw, nf_grown _ hc0, e2]
theorem ok_law_changed {f : Addr} {fd : FuncData} (mf : mg "_law_changed" = some (.ref f)) (F : FnP K "_law_changed" s_law_changed f fd) (C_law_grown : Cal P w K mg base "_law_grown" 2 ["rows", "factor"] (sp_law_grown P w K)) (z_enumerate : mg "enumerate" = none) (z_range : mg "range" = none) : Cal P w K mg base "_law_changed" 3 ["fields", "numbers"] (sp_law_changed P w K) :=
  ⟨f, fd, mf, F.kp, F.bindsN fun _ _ _ _ _ _ us hl => match us, hl with | [_, _], _ => rfl, fn_law_changed F C_law_grown z_enumerate z_range⟩

theorem bnd_Output___init {fd : FuncData} (F : FunD K "__init__" "Output.__init__" (defArgs s_Output___init) (defBody s_Output___init) (defScope s_Output___init) [V.ref (He.dflAt ("Output", some "__init__") 0 K)] [] (He.fAd K ("Output", some "__init__")) fd) : Binds K fd ["self", "address", "bundle", "datum"] [] := by
  obtain ⟨ds, r, b⟩ := F.binds1 (ps := ["self", "address", "bundle", "datum"]) 4 1 (by simp) rfl (fun T kV doc pm an cdv ct us its hu hi => match us, hu, its, hi with | [_, _, _, _], _, [_], _ => ⟨_, rfl, rfl⟩)
  cases r
  exact b
theorem bnd0_Output___init {fd : FuncData} (F : FunD K "__init__" "Output.__init__" (defArgs s_Output___init) (defBody s_Output___init) (defScope s_Output___init) [V.ref (He.dflAt ("Output", some "__init__") 0 K)] [] (He.fAd K ("Output", some "__init__")) fd) : ∃ ds, Vals [V.ref (He.dflAt ("Output", some "__init__") 0 K)] ds ∧ Binds K fd ["self", "address", "bundle", "datum"] ds := by
  obtain ⟨ds, r, b⟩ := F.binds1 (ps := ["self", "address", "bundle", "datum"]) 3 0 (by simp) rfl (fun T kV doc pm an cdv ct us its hu hi => match us, hu, its, hi with | [_, _, _], _, [_], _ => ⟨_, rfl, rfl⟩)
  exact ⟨ds, r, b⟩
theorem fn_Output___init {fd : FuncData} (F : FunD K "__init__" "Output.__init__" (defArgs s_Output___init) (defBody s_Output___init) (defScope s_Output___init) [V.ref (He.dflAt ("Output", some "__init__") 0 K)] [] (He.fAd K ("Output", some "__init__")) fd) (C_Bundle___init : CalM P w K mg base (He.fAd K ("Bundle", some "__init__")) 2 ["self", "rows"] [V.ref (He.dflAt ("Bundle", some "__init__") 0 K)] (sp_Bundle___init P w K)) (z_tuple : mg "tuple" = none) (W_Output : CF_Output K mg) (W_Bundle : CF_Bundle K mg) : FnOk P w K mg base CX0 4 (He.fAd K ("Output", some "__init__")) fd ["self", "address", "bundle", "datum"] (sp_Output___init P w K) := by
  obtain ⟨fd_Bundle___init, b_Bundle___init, G_Bundle___init, ds_Bundle___init, dr_Bundle___init, db_Bundle___init⟩ := C_Bundle___init.ex
  have cf_Output := W_Output
  have cfc_Output := cf_Output.cls
  have cfn_Output_address := cf_Output.n_address
  have cfn_Output_bundle := cf_Output.n_bundle
  have cfn_Output_datum := cf_Output.n_datum
  have cf_Bundle := W_Bundle
  refine F.ok sc_Output___init (fun vs H Q E h => ?_) (fun cdv A outer s H vs Q E hr h => ?_)
  · obtain ⟨b, dx, a, dz, u, xs, o, rfl, _⟩ := h; rfl
  · obtain ⟨b, dx, a, dz, u, xs, o, rfl, hb, hu, hx, hR, hl, hd, k⟩ := h
    refine ⟨_, PSs.nox (pss_cons (ps_fld (pv 0) (pv 1) rfl)
      (pss_cons (ps_fld (pv 0) (pe_make cf_Bundle.mkr G_Bundle___init (hr.mono (by decide)) (by rfl) cf_Bundle.m b_Bundle___init .nil pass0 (pa_cons (pv 2) pa_nil)) rfl)
      (pss_one (ps_fld (pv 0) (pe_callTy call_tuple_of (by rfl) z_tuple boot_tuple (pa_cons (pv 3) pa_nil)) rfl)))), ?_⟩
    try simp only [Rd.cxK, Re.cxP, Re.cxW]
    refine Rd.seq (Rb.sfld (Rd.var rfl (Rd.var rfl ⟨b, _, dx, [], rfl, hb, cfc_Output, cfn_Output_address, by show 0 < 1000; decide, ?_⟩)))
    rw [show putF (Str.ofString "address") u [] = [(("address" : Str), u)] from rfl]
    have b1 : Beside b H (upd H b (.ins (He.ga K "Output") dx [(("address" : Str), u)])) := fun a o h e => (upd_ne h).trans e
    have hb1 : upd H b (.ins (He.ga K "Output") dx [(("address" : Str), u)]) b = _ := upd_same
    have hu1 := b1.dp hb hu
    have hR1 := b1.dpAll hb hR
    have hx1 : (SqL K _ a xs ∨ SqT K _ a xs) ∨ OwnAt K _ a xs := hx.imp (fun z => z.imp (b1.sqL hb) (b1.sqT hb)) (fun z => (z.keep (dl_store (o := .ins (He.ga K "Output") dx [(("address" : Str), u)]))).keep dl_same)
    have hd1 := hd.imp (b1.sqL hb) (b1.sqT hb)
    generalize upd H b (.ins (He.ga K "Output") dx [(("address" : Str), u)]) = H1 at *
    refine Rd.seq (Rb.sfld ?_)
    walk_at "rn"
    refine mkB hx1 hR1 hl fun H2 c N s2 hc nm tt bd => ?_
    have hNf := nf_is nm tt
    subst hNf
    have hb2 := s2 _ _ hb1
    have hu2 := dpS1 hu1 s2
    have hd2 := hd1.imp s2.seq (Rd.same_tup s2)
    have hcb : c ≠ b := fun e => by subst e; rw [hc] at hb1; cases hb1
    have bes : Beside b H H2 := fun a o h e => s2 _ _ (b1 a o h e)
    clear s2 hR1 hx1 hd1 hu1 hb1
    refine Rd.var rfl ⟨b, _, dx, _, rfl, hb2, cfc_Output, cfn_Output_bundle, by show 1 < 1000; decide, ?_⟩
    rw [show putF (Str.ofString "bundle") (V.ref c) [(Str.ofString "address", u)] = [(("address" : Str), u), (("bundle" : Str), .ref c)] from rfl]
    have b3 : Beside b H2 (upd H2 b (.ins (He.ga K "Output") dx [(("address" : Str), u), (("bundle" : Str), .ref c)])) := fun a o h e => (upd_ne h).trans e
    have hb3 : upd H2 b (.ins (He.ga K "Output") dx [(("address" : Str), u), (("bundle" : Str), .ref c)]) b = _ := upd_same
    have bd3 := BdS.off bd b3 hb2 hcb
    have hu3 := b3.dp hb2 hu2
    have hd3 := hd2.imp (b3.sqL hb2) (b3.sqT hb2)
    have bes3 : Beside b H _ := fun a o h e => b3 a o h (bes a o h e)
    generalize upd H2 b (.ins (He.ga K "Output") dx [(("address" : Str), u), (("bundle" : Str), .ref c)]) = H3 at *
    refine Rb.sfld ?_
    have fin : ∀ (dd : Addr) (H4 : Hp), Same H3 H4 → Dp K H4 (.ref dd) (.tuple (o.dat.map encI)) → Q .non (upd H4 b (.ins (He.ga K "Output") dx [(("address" : Str), u), (("bundle" : Str), .ref c), (("datum" : Str), .ref dd)])) := by
      intro dd H4 s4 hdd
      have b5 : Beside b H4 (upd H4 b (.ins (He.ga K "Output") dx [(("address" : Str), u), (("bundle" : Str), .ref c), (("datum" : Str), .ref dd)])) := fun a o h e => (upd_ne h).trans e
      have hb4 := s4 _ _ hb3
      exact k _ (fun a o h e => b5 a o h (s4 _ _ (bes3 a o h e))) ⟨dx, u, c, dd, upd_same, b5.dp hb4 (dpS1 hu3 s4), BdS.off (bd3.keep s4) b5 hb4 hcb, b5.dp hb4 hdd⟩
    rcases hd3 with hd4 | hd4
    · walk_at "rn"
      rename_i dd hdd
      have s4 := Rd.same_new (o := .tup (o.dat.map V.int)) hdd
      refine ⟨b, _, dx, _, rfl, s4 _ _ hb3, cfc_Output, cfn_Output_datum, by show 2 < 1000; decide, ?_⟩
      exact fin dd _ s4 (.tup (SqT.of upd_same) dp_ints)
    · walk_at "rn"
      refine ⟨b, _, dx, _, rfl, hb3, cfc_Output, cfn_Output_datum, by show 2 < 1000; decide, ?_⟩
      exact fin dz _ (Same.refl _) (.tup hd4 dp_ints)
theorem ok_Output___init {fd : FuncData} (F : FunD K "__init__" "Output.__init__" (defArgs s_Output___init) (defBody s_Output___init) (defScope s_Output___init) [V.ref (He.dflAt ("Output", some "__init__") 0 K)] [] (He.fAd K ("Output", some "__init__")) fd) (C_Bundle___init : CalM P w K mg base (He.fAd K ("Bundle", some "__init__")) 2 ["self", "rows"] [V.ref (He.dflAt ("Bundle", some "__init__") 0 K)] (sp_Bundle___init P w K)) (z_tuple : mg "tuple" = none) (W_Output : CF_Output K mg) (W_Bundle : CF_Bundle K mg) : CalM P w K mg base (He.fAd K ("Output", some "__init__")) 4 ["self", "address", "bundle", "datum"] [V.ref (He.dflAt ("Output", some "__init__") 0 K)] (sp_Output___init P w K) :=
  ⟨fd, (bnd_Output___init F), fn_Output___init F C_Bundle___init z_tuple W_Output W_Bundle, (bnd0_Output___init F)⟩

theorem fn_Transaction___init {fd : FuncData} (F : FunD K "__init__" "Transaction.__init__" (defArgs s_Transaction___init) (defBody s_Transaction___init) (defScope s_Transaction___init) [] (Bk38.kwP K) (He.fAd K ("Transaction", some "__init__")) fd) (C_Bundle___init : CalM P w K mg base (He.fAd K ("Bundle", some "__init__")) 2 ["self", "rows"] [V.ref (He.dflAt ("Bundle", some "__init__") 0 K)] (sp_Bundle___init P w K)) (z_tuple : mg "tuple" = none) (W_Transaction : CF_Transaction K mg) (W_Bundle : CF_Bundle K mg) : FnOk P w K mg base CX0 4 (He.fAd K ("Transaction", some "__init__")) fd ["self", "number", "spends", "makes", "fee", "looks", "pledge", "mint", "begins", "ends", "signers", "data", "deeds", "draws", "approved"] (sp_Transaction___init P w K) := by
  obtain ⟨fd_Bundle___init, b_Bundle___init, G_Bundle___init, ds_Bundle___init, dr_Bundle___init, db_Bundle___init⟩ := C_Bundle___init.ex
  have cf_Transaction := W_Transaction
  have cfc_Transaction := cf_Transaction.cls
  have cfn_Transaction_approved := cf_Transaction.n_approved
  have cfn_Transaction_begins := cf_Transaction.n_begins
  have cfn_Transaction_data := cf_Transaction.n_data
  have cfn_Transaction_deeds := cf_Transaction.n_deeds
  have cfn_Transaction_draws := cf_Transaction.n_draws
  have cfn_Transaction_ends := cf_Transaction.n_ends
  have cfn_Transaction_fee := cf_Transaction.n_fee
  have cfn_Transaction_looks := cf_Transaction.n_looks
  have cfn_Transaction_makes := cf_Transaction.n_makes
  have cfn_Transaction_mint := cf_Transaction.n_mint
  have cfn_Transaction_number := cf_Transaction.n_number
  have cfn_Transaction_pledge := cf_Transaction.n_pledge
  have cfn_Transaction_signers := cf_Transaction.n_signers
  have cfn_Transaction_spends := cf_Transaction.n_spends
  have cf_Bundle := W_Bundle
  refine F.ok sc_Transaction___init (fun vs H Q E h => ?_) (fun cdv A outer s H vs Q E hr h => ?_)
  · obtain ⟨t, dx, a1, a2, a3, a4, am, a9, a10, a11, a12, F, rfl, _⟩ := h; rfl
  · obtain ⟨t, dx, a1, a2, a3, a4, am, a9, a10, a11, a12, F, rfl, ht, hI, hO, k⟩ := h
    refine ⟨_, PSs.nox (pss_cons (ps_fld (pv 0) (pv 1) rfl)
      (pss_cons (ps_fld (pv 0) (pe_callTy call_tuple_of (by rfl) z_tuple boot_tuple (pa_cons (pv 2) pa_nil)) rfl)
      (pss_cons (ps_fld (pv 0) (pe_callTy call_tuple_of (by rfl) z_tuple boot_tuple (pa_cons (pv 5) pa_nil)) rfl)
      (pss_cons (ps_fld (pv 0) (pe_callTy call_tuple_of (by rfl) z_tuple boot_tuple (pa_cons (pv 6) pa_nil)) rfl)
      (pss_cons (ps_fld (pv 0) (pe_callTy call_tuple_of (by rfl) z_tuple boot_tuple (pa_cons (pv 3) pa_nil)) rfl)
      (pss_cons (ps_fld (pv 0) (pe_make cf_Bundle.mkr G_Bundle___init (hr.mono (by decide)) (by rfl) cf_Bundle.m b_Bundle___init .nil pass0 (pa_cons (pv 7) pa_nil)) rfl)
      (pss_cons (ps_fld (pv 0) (pv 4) rfl)
      (pss_cons (ps_fld (pv 0) (pv 8) rfl)
      (pss_cons (ps_fld (pv 0) (pv 9) rfl)
      (pss_cons (ps_fld (pv 0) (pe_callTy call_tuple_of (by rfl) z_tuple boot_tuple (pa_cons (pv 10) pa_nil)) rfl)
      (pss_cons (ps_fld (pv 0) (pe_callTy call_tuple_of (by rfl) z_tuple boot_tuple (pa_cons (pe_lc (own := [("purpose", 15), ("datum", 16)]) (g := (gTup K 2 (gCons (gName 15) (gCons (gName 16) gNil)))) (tt := tYes) rfl sc_Transaction___init.nd (Bd.pi_lt (pv 11)) (blkOk_by (N := N_Transaction___init) (sc := defScope s_Transaction___init) (by decide +kernel)) (fun _ _ _ _ _ => (pg_tup (n := 2) rfl (pgs_cons (pg_name (i := 15) sc_Transaction___init.nd rfl (by first | exact Or.inl rfl | exact Or.inr rfl)) (pgs_cons (pg_name (i := 16) sc_Transaction___init.nd rfl (by first | exact Or.inl rfl | exact Or.inr rfl)) pgs_nil)))) (fun _ _ _ _ _ => pts_nil) (fun _ _ _ _ _ => (pe_tup (pa_cons (pv 15) (pa_cons (pe_callTy (Rb.call_tupK (K := K) rfl) (by rfl) z_tuple boot_tuple (pa_cons (pv 16) pa_nil)) pa_nil))))) pa_nil)) rfl)
      (pss_cons (ps_fld (pv 0) (pe_callTy call_tuple_of (by rfl) z_tuple boot_tuple (pa_cons (pv 12) pa_nil)) rfl)
      (pss_cons (ps_fld (pv 0) (pe_callTy call_tuple_of (by rfl) z_tuple boot_tuple (pa_cons (pv 13) pa_nil)) rfl)
      (pss_one (ps_fld (pv 0) (pv 14) rfl))))))))))))))), ?_⟩
    try simp only [Rd.cxK, Re.cxP, Re.cxW]
    obtain ⟨⟨u1, i1, d1⟩, ⟨u2, i2, d2⟩, ⟨u3, i3, d3⟩, ⟨u4, i4, d4⟩, ⟨um, im, dm⟩, ⟨u9, i9, d9⟩, ⟨u10, i10, d10⟩, ⟨u11, i11, d11⟩, ⟨u12, i12, d12⟩⟩ := hI
    have hl10 := Rd.dpAll_len d10
    rw [List.length_map] at hl10
    have hl10b := hO.l7
    have hl5 := hO.l5
    have s0 : Same (dl H t) (dl H t) := Same.refl _
    have b0 : Beside t H H := fun _ _ _ e => e
    have ht0 := ht
    have H0e : H = H := rfl
    refine Rd.seq (Rb.sfld (Rd.var rfl (Rd.var rfl (fput (fs' := [(("number" : Str), .int F.number)]) ht0 cfc_Transaction cfn_Transaction_number (by show 0 < 1000; decide) rfl s0 b0 fun G1 ht1 s1 b1 e1 => ?_))))
    refine Rd.seq (Rb.sfld ?_)
    walk_at "rn"
    refine tupF ht1 i1 s1 fun p1 J1 v1 g1 q1 => ?_
    refine Rd.var rfl (fput (fs' := [(("number" : Str), .int F.number), (("spends" : Str), .ref p1)]) (v1 _ _ ht1) cfc_Transaction cfn_Transaction_spends (by show 1 < 1000; decide) rfl g1 (Beside.thn b1 v1) fun G2 ht2 s2 b2 e2 => ?_)
    refine Rd.seq (Rb.sfld ?_)
    walk_at "rn"
    refine tupF ht2 i2 s2 fun p2 J2 v2 g2 q2 => ?_
    refine Rd.var rfl (fput (fs' := [(("number" : Str), .int F.number), (("spends" : Str), .ref p1), (("looks" : Str), .ref p2)]) (v2 _ _ ht2) cfc_Transaction cfn_Transaction_looks (by show 2 < 1000; decide) rfl g2 (Beside.thn b2 v2) fun G3 ht3 s3 b3 e3 => ?_)
    refine Rd.seq (Rb.sfld ?_)
    walk_at "rn"
    refine tupF ht3 i3 s3 fun p3 J3 v3 g3 q3 => ?_
    refine Rd.var rfl (fput (fs' := [(("number" : Str), .int F.number), (("spends" : Str), .ref p1), (("looks" : Str), .ref p2), (("pledge" : Str), .ref p3)]) (v3 _ _ ht3) cfc_Transaction cfn_Transaction_pledge (by show 3 < 1000; decide) rfl g3 (Beside.thn b3 v3) fun G4 ht4 s4 b4 e4 => ?_)
    refine Rd.seq (Rb.sfld ?_)
    walk_at "rn"
    refine tupF ht4 i4 s4 fun p4 J4 v4 g4 q4 => ?_
    refine Rd.var rfl (fput (fs' := [(("number" : Str), .int F.number), (("spends" : Str), .ref p1), (("looks" : Str), .ref p2), (("pledge" : Str), .ref p3), (("makes" : Str), .ref p4)]) (v4 _ _ ht4) cfc_Transaction cfn_Transaction_makes (by show 4 < 1000; decide) rfl g4 (Beside.thn b4 v4) fun G5 ht5 s5 b5 e5 => ?_)
    refine Rd.seq (Rb.sfld ?_)
    walk_at "rn"
    refine mkB (im.elim (fun z => .inl (z.elim (fun z => .inl (dl_same.seq (s5.seq z))) (fun z => .inr (Rd.same_tup dl_same (Rd.same_tup s5 z))))) (fun z => .inr ((z.keep s5).keep dl_same))) (dpAll_same dl_same (dpAll_same s5 dm)) (by omega) fun Jm c N pm hc nm tt bd => ?_
    have hNf := nf_is nm tt
    subst hNf
    have hct : c ≠ t := fun e => by subst e; rw [hc] at ht5; cases ht5
    have bd := BdS.off bd besideDl (pm _ _ ht5) hct
    refine Rd.var rfl (fput (fs' := [(("number" : Str), .int F.number), (("spends" : Str), .ref p1), (("looks" : Str), .ref p2), (("pledge" : Str), .ref p3), (("makes" : Str), .ref p4), (("mint" : Str), .ref c)]) (pm _ _ ht5) cfc_Transaction cfn_Transaction_mint (by show 5 < 1000; decide) rfl (s5.trans (same_dl pm)) (Beside.thn b5 pm) fun G6 ht6 s6 b6 e6 => ?_)
    refine Rd.seq (Rb.sfld (Rd.var rfl (Rd.var rfl (fput (fs' := [(("number" : Str), .int F.number), (("spends" : Str), .ref p1), (("looks" : Str), .ref p2), (("pledge" : Str), .ref p3), (("makes" : Str), .ref p4), (("mint" : Str), .ref c), (("fee" : Str), .int F.fee)]) ht6 cfc_Transaction cfn_Transaction_fee (by show 6 < 1000; decide) rfl s6 b6 fun G7 ht7 s7 b7 e7 => ?_))))
    refine Rd.seq (Rb.sfld (Rd.var rfl (Rd.var rfl (fput (fs' := [(("number" : Str), .int F.number), (("spends" : Str), .ref p1), (("looks" : Str), .ref p2), (("pledge" : Str), .ref p3), (("makes" : Str), .ref p4), (("mint" : Str), .ref c), (("fee" : Str), .int F.fee), (("begins" : Str), .int F.begins)]) ht7 cfc_Transaction cfn_Transaction_begins (by show 7 < 1000; decide) rfl s7 b7 fun G8 ht8 s8 b8 e8 => ?_))))
    refine Rd.seq (Rb.sfld (Rd.var rfl (Rd.var rfl (fput (fs' := [(("number" : Str), .int F.number), (("spends" : Str), .ref p1), (("looks" : Str), .ref p2), (("pledge" : Str), .ref p3), (("makes" : Str), .ref p4), (("mint" : Str), .ref c), (("fee" : Str), .int F.fee), (("begins" : Str), .int F.begins), (("ends" : Str), .int F.ends)]) ht8 cfc_Transaction cfn_Transaction_ends (by show 8 < 1000; decide) rfl s8 b8 fun G9 ht9 s9 b9 e9 => ?_))))
    refine Rd.seq (Rb.sfld ?_)
    walk_at "rn"
    refine tupF ht9 i9 s9 fun p9 J9 v9 g9 q9 => ?_
    refine Rd.var rfl (fput (fs' := [(("number" : Str), .int F.number), (("spends" : Str), .ref p1), (("looks" : Str), .ref p2), (("pledge" : Str), .ref p3), (("makes" : Str), .ref p4), (("mint" : Str), .ref c), (("fee" : Str), .int F.fee), (("begins" : Str), .int F.begins), (("ends" : Str), .int F.ends), (("signers" : Str), .ref p9)]) (v9 _ _ ht9) cfc_Transaction cfn_Transaction_signers (by show 9 < 1000; decide) rfl g9 (Beside.thn b9 v9) fun G10 ht10 s10 b10 e10 => ?_)
    refine Rd.seq (Rb.sfld ?_)
    walk_at "rn"
    refine lcDE encFact encFp rfl ((i10.imp s10.seq (Rd.same_tup s10)).imp dl_same.seq (Rd.same_tup dl_same)) (dpAll_same dl_same (dpAll_same s10 d10)) (by omega) (fun e he => encFp_nl (hO.data e he).1.nl) ?_ ?_
    · rintro e x D acc H' C hD s he hx hDl hC
      obtain ⟨z, u, v, rfl, hz, hu, hv⟩ := dp_pair hx
      obtain ⟨zd, ud, rfl, hzd, hdd⟩ := dp_lst hv
      refine pair_of hz ?_
      walk_at "rn"
      rename_i q hq t2 ht2b
      have s3 := (Rd.same_new (o := .tup ud) hq).trans (Rd.same_new (o := .tup [u, .ref q]) ht2b)
      exact hC _ _ s3 (.tup (SqT.of upd_same) (.cons (dpS1 hu s3) (.cons (.tup (SqT.of (Rd.same_new ht2b _ _ upd_same)) (dpAll_same s3 hdd)) .nil)))
    rintro D acc Jd hD pd0 hDl hacc
    refine Rd.nil (Rd.tupL (SqL.of hDl) fun p10 hp10 => ?_)
    have pd := pd0.trans (Rd.same_new (o := .tup acc) hp10)
    have q10 := besideDl.dp (pd _ _ ht10) (.tup (SqT.of upd_same) (dpAll_same (Rd.same_new (o := .tup acc) hp10) hacc))
    generalize upd Jd p10 (.tup acc) = Jd2 at *
    refine Rd.var rfl (fput (fs' := [(("number" : Str), .int F.number), (("spends" : Str), .ref p1), (("looks" : Str), .ref p2), (("pledge" : Str), .ref p3), (("makes" : Str), .ref p4), (("mint" : Str), .ref c), (("fee" : Str), .int F.fee), (("begins" : Str), .int F.begins), (("ends" : Str), .int F.ends), (("signers" : Str), .ref p9), (("data" : Str), .ref p10)]) (pd _ _ ht10) cfc_Transaction cfn_Transaction_data (by show 10 < 1000; decide) rfl (s10.trans (same_dl pd)) (Beside.thn b10 pd) fun G11 ht11 s11 b11 e11 => ?_)
    refine Rd.seq (Rb.sfld ?_)
    walk_at "rn"
    refine tupF ht11 i11 s11 fun p11 J11 v11 g11 q11 => ?_
    refine Rd.var rfl (fput (fs' := [(("number" : Str), .int F.number), (("spends" : Str), .ref p1), (("looks" : Str), .ref p2), (("pledge" : Str), .ref p3), (("makes" : Str), .ref p4), (("mint" : Str), .ref c), (("fee" : Str), .int F.fee), (("begins" : Str), .int F.begins), (("ends" : Str), .int F.ends), (("signers" : Str), .ref p9), (("data" : Str), .ref p10), (("deeds" : Str), .ref p11)]) (v11 _ _ ht11) cfc_Transaction cfn_Transaction_deeds (by show 11 < 1000; decide) rfl g11 (Beside.thn b11 v11) fun G12 ht12 s12 b12 e12 => ?_)
    refine Rd.seq (Rb.sfld ?_)
    walk_at "rn"
    refine tupF ht12 i12 s12 fun p12 J12 v12 g12 q12 => ?_
    refine Rd.var rfl (fput (fs' := [(("number" : Str), .int F.number), (("spends" : Str), .ref p1), (("looks" : Str), .ref p2), (("pledge" : Str), .ref p3), (("makes" : Str), .ref p4), (("mint" : Str), .ref c), (("fee" : Str), .int F.fee), (("begins" : Str), .int F.begins), (("ends" : Str), .int F.ends), (("signers" : Str), .ref p9), (("data" : Str), .ref p10), (("deeds" : Str), .ref p11), (("draws" : Str), .ref p12)]) (v12 _ _ ht12) cfc_Transaction cfn_Transaction_draws (by show 12 < 1000; decide) rfl g12 (Beside.thn b12 v12) fun G13 ht13 s13 b13 e13 => ?_)
    refine (Rb.sfld (Rd.var rfl (Rd.var rfl (fput (fs' := [(("number" : Str), .int F.number), (("spends" : Str), .ref p1), (("looks" : Str), .ref p2), (("pledge" : Str), .ref p3), (("makes" : Str), .ref p4), (("mint" : Str), .ref c), (("fee" : Str), .int F.fee), (("begins" : Str), .int F.begins), (("ends" : Str), .int F.ends), (("signers" : Str), .ref p9), (("data" : Str), .ref p10), (("deeds" : Str), .ref p11), (("draws" : Str), .ref p12), (("approved" : Str), .bl F.approved)]) (n := fun _ H2 => Q .non H2) (σ := []) ht13 cfc_Transaction cfn_Transaction_approved (by show 13 < 1000; decide) rfl s13 b13 fun G14 ht14 s14 b14 e14 => ?_))))
    have r14 : Same (dl G14 t) G14 := dl_same
    have w14 := e14.trans r14
    have r13 := w14
    have w13 := e13.trans r13
    have r12 := (same_dl v12).trans w13
    have w12 := e12.trans r12
    have r11 := (same_dl v11).trans w12
    have w11 := e11.trans r11
    have r10 := (same_dl pd).trans w11
    have w10 := e10.trans r10
    have r9 := (same_dl v9).trans w10
    have w9 := e9.trans r9
    have r8 := w9
    have w8 := e8.trans r8
    have r7 := w8
    have w7 := e7.trans r7
    have r6 := w7
    have w6 := e6.trans r6
    have r5 := (same_dl pm).trans w6
    have w5 := e5.trans r5
    have r4 := (same_dl v4).trans w5
    have w4 := e4.trans r4
    have r3 := (same_dl v3).trans w4
    have w3 := e3.trans r3
    have r2 := (same_dl v2).trans w3
    have w2 := e2.trans r2
    have r1 := (same_dl v1).trans w2
    have w1 := e1.trans r1
    have r0 := w1
    have sE := s14.trans (dl_same (H := G14) (p := t))
    exact k G14 b14 ⟨dx, p1, p2, p3, p4, c, p9, p10, p11, p12, u4, ht14, .tup (Rd.same_tup w2 q1) (dpAll_same sE d1), .tup (Rd.same_tup w3 q2) (dpAll_same sE d2), .tup (Rd.same_tup w4 q3) (dpAll_same sE d3), Rd.same_tup w5 q4, Outs.keep d4 sE, bd.keep w6, .tup (Rd.same_tup w10 q9) (dpAll_same sE d9), dpS1 q10 w11, .tup (Rd.same_tup w12 q11) (dpAll_same sE d11), .tup (Rd.same_tup w13 q12) (dpAll_same sE d12)⟩
theorem ok_Transaction___init {fd : FuncData} (F : FunD K "__init__" "Transaction.__init__" (defArgs s_Transaction___init) (defBody s_Transaction___init) (defScope s_Transaction___init) [] (Bk38.kwP K) (He.fAd K ("Transaction", some "__init__")) fd) (C_Bundle___init : CalM P w K mg base (He.fAd K ("Bundle", some "__init__")) 2 ["self", "rows"] [V.ref (He.dflAt ("Bundle", some "__init__") 0 K)] (sp_Bundle___init P w K)) (z_tuple : mg "tuple" = none) (W_Transaction : CF_Transaction K mg) (W_Bundle : CF_Bundle K mg) : CalT P w K mg base :=
  ⟨fd, F, fn_Transaction___init F C_Bundle___init z_tuple W_Transaction W_Bundle⟩

theorem fn_law_any_asset {f : Addr} {fd : FuncData} (F : FnP K "_law_any_asset" s_law_any_asset f fd) (C_law_any_text : Cal P w K mg base "_law_any_text" 3 ["numbers", "at"] (sp_law_any_text P w K)) (C_law_integer : Cal P w K mg base "_law_integer" 1 ["numbers", "at"] (sp_law_integer P w K)) (z_int : mg "int" = none) (z_len : mg "len" = none) (z_abs : mg "abs" = none) : FnOk P w K mg base CX0 4 f fd ["numbers", "at"] (sp_law_any_asset P w K) := by
  obtain ⟨f_law_any_text, fd_law_any_text, m_law_any_text, k_law_any_text, b_law_any_text, G_law_any_text⟩ := C_law_any_text.ex
  obtain ⟨f_law_integer, fd_law_integer, m_law_integer, k_law_integer, b_law_integer, G_law_integer⟩ := C_law_integer.ex
  refine F.ok sc_law_any_asset (fun vs H Q E h => ?_) (fun cdv A outer s H vs Q E hr h => ?_)
  · obtain ⟨b, ns, i, rfl, _⟩ := h; rfl
  · obtain ⟨b, ns, i, rfl, hb, hb3, hnl, k⟩ := h
    refine ⟨_, PSs.nox (pss_cons (ps_set (i := 2) sc_law_any_asset.nd rfl (by first | exact Or.inl rfl | exact Or.inr rfl) (pe_ix ix_list (pv 0) (pe_op op_mod (pe_callTy call_int1 (by rfl) z_int boot_int (pa_cons (pv 1) pa_nil)) (pe_callB call_len_seq (by rfl) z_len boot_len (pa_cons (pv 0) pa_nil))) (fun _ _ => rfl)))
      (pss_cons (ps_if (pt_cmpR op_eq (pe_op op_mod (pv 2) pe_int) pe_int (nomark _)) (pss_one (ps_ret (pe_tup (pa_cons pe_str (pa_cons pe_int pa_nil))))) pss_nil)
      (pss_cons (ps_if (pt_cmpR op_eq (pe_op op_mod (pv 2) pe_int) pe_int (nomark _)) (pss_one (ps_ret (pe_tup (pa_cons pe_str (pa_cons (pe_op op_mod (pe_op op_fdiv (pv 2) pe_int) pe_int) pa_nil))))) pss_nil)
      (pss_one (ps_ret (pe_tup (pa_cons (pe_op op_add_str pe_str (pe_call G_law_any_text (hr.mono (by decide)) (by rfl) m_law_any_text k_law_any_text b_law_any_text .nil pass0 (pa_cons (pv 0) (pa_cons (pe_op op_add (pv 1) pe_int) pa_nil)))) (pa_cons (pe_callB call_abs (by rfl) z_abs boot_abs (pa_cons (pe_call G_law_integer (hr.mono (by decide)) (by rfl) m_law_integer k_law_integer b_law_integer .nil pass0 (pa_cons (pv 0) (pa_cons (pe_op op_add (pv 1) pe_int) pa_nil))) pa_nil)) pa_nil)))))))), ?_⟩
    try simp only [Rd.cxK, Re.cxP, Re.cxW, lit_3, lit_4, lit_5]
    walk_at "rn"
    · exact k _ (Rd.S [], 0) _ (Rd.same_new ‹_›) ‹_› upd_same (strOk_S (by simp))
    · exact k _ (Rd.S [112], _) _ (Rd.same_new ‹_›) ‹_› upd_same (strOk_S (by simp))
    · refine ⟨_, ?u20_ns, _, rfl, ?u20_p0, ?u20_p1, ?u20_p2, fun l h1 h2 => ?_⟩
      case u20_p0 => walk_at "pre"
      case u20_p1 => walk_at "pre"
      case u20_p2 => walk_at "pre"
      walk_at "rn"
      refine ⟨_, ?u21_ns, _, rfl, ?u21_p0, ?u21_p1, ?u21_p2, fun z H1 s1 => ?_⟩
      case u21_p0 => walk_at "pre"
      case u21_p1 => walk_at "pre"
      case u21_p2 => walk_at "pre"
      walk_at "rn"
      rename_i y y1 y2 p hp
      refine k p (Rd.S ([113] ++ l), y) _ (s1.trans (Rd.same_new hp)) (s1.free hp) upd_same (strOk_S (fun c hc => ?_))
      simp only [List.mem_append, List.mem_singleton] at hc
      rcases hc with rfl | hc
      · omega
      · have := h1 c hc; omega
theorem ok_law_any_asset {f : Addr} {fd : FuncData} (mf : mg "_law_any_asset" = some (.ref f)) (F : FnP K "_law_any_asset" s_law_any_asset f fd) (C_law_any_text : Cal P w K mg base "_law_any_text" 3 ["numbers", "at"] (sp_law_any_text P w K)) (C_law_integer : Cal P w K mg base "_law_integer" 1 ["numbers", "at"] (sp_law_integer P w K)) (z_int : mg "int" = none) (z_len : mg "len" = none) (z_abs : mg "abs" = none) : Cal P w K mg base "_law_any_asset" 4 ["numbers", "at"] (sp_law_any_asset P w K) :=
  ⟨f, fd, mf, F.kp, F.bindsN fun _ _ _ _ _ _ us hl => match us, hl with | [_, _], _ => rfl, fn_law_any_asset F C_law_any_text C_law_integer z_int z_len z_abs⟩

theorem fn_law_any_purpose {f : Addr} {fd : FuncData} (F : FnP K "_law_any_purpose" s_law_any_purpose f fd) (C_law_reference : Cal P w K mg base "_law_reference" 2 ["numbers", "at"] (sp_law_reference P w K)) (C_law_any_text : Cal P w K mg base "_law_any_text" 3 ["numbers", "at"] (sp_law_any_text P w K)) (z_int : mg "int" = none) (z_len : mg "len" = none) : FnOk P w K mg base CX0 4 f fd ["numbers", "at"] (sp_law_any_purpose P w K) := by
  obtain ⟨f_law_reference, fd_law_reference, m_law_reference, k_law_reference, b_law_reference, G_law_reference⟩ := C_law_reference.ex
  obtain ⟨f_law_any_text, fd_law_any_text, m_law_any_text, k_law_any_text, b_law_any_text, G_law_any_text⟩ := C_law_any_text.ex
  refine F.ok sc_law_any_purpose (fun vs H Q E h => ?_) (fun cdv A outer s H vs Q E hr h => ?_)
  · obtain ⟨b, ns, i, rfl, _⟩ := h; rfl
  · obtain ⟨b, ns, i, rfl, hb, hb3, hnl, k⟩ := h
    refine ⟨_, PSs.nox (pss_cons (ps_if (pt_cmpR op_eq (pe_op op_mod (pe_ix ix_list (pv 0) (pe_op op_mod (pe_callTy call_int1 (by rfl) z_int boot_int (pa_cons (pv 1) pa_nil)) (pe_callB call_len_seq (by rfl) z_len boot_len (pa_cons (pv 0) pa_nil))) (fun _ _ => rfl)) pe_int) pe_int (nomark _)) (pss_one (ps_ret (pe_tup (pa_cons pe_str (pa_cons (pe_call G_law_reference (hr.mono (by decide)) (by rfl) m_law_reference k_law_reference b_law_reference .nil pass0 (pa_cons (pv 0) (pa_cons (pe_op op_add (pv 1) pe_int) pa_nil))) pa_nil))))) pss_nil)
      (pss_one (ps_ret (pe_tup (pa_cons pe_str (pa_cons (pe_call G_law_any_text (hr.mono (by decide)) (by rfl) m_law_any_text k_law_any_text b_law_any_text .nil pass0 (pa_cons (pv 0) (pa_cons (pe_op op_add (pv 1) pe_int) pa_nil))) pa_nil)))))), ?_⟩
    try simp only [Rd.cxK, Re.cxP, Re.cxW, lit_7, lit_8]
    walk_at "rn"
    · refine ⟨_, ?u22_ns, _, rfl, ?u22_p0, ?u22_p1, ?u22_p2, fun z x y H1 s1 hz hzx => ?_⟩
      case u22_p0 => walk_at "pre"
      case u22_p1 => walk_at "pre"
      case u22_p2 => walk_at "pre"
      walk_at "rn"
      rename_i p hp
      exact k p (.tuple [.str _, .tuple [.int x, .int y]]) _ (s1.trans (Rd.same_new hp)) (.tup (SqT.of upd_same) (.cons (.str _) (.cons (.tup (SqT.of (Rd.same_new hp _ _ hzx)) (.cons (.int _) (.cons (.int _) .nil))) .nil))) (.two (.str (strOk_S (by decide)) _) (.two (.int _ _) (.int _ 2)))
    · refine ⟨_, ?u23_ns, _, rfl, ?u23_p0, ?u23_p1, ?u23_p2, fun l h1 h2 => ?_⟩
      case u23_p0 => walk_at "pre"
      case u23_p1 => walk_at "pre"
      case u23_p2 => walk_at "pre"
      walk_at "rn"
      rename_i p hp
      exact k p (.tuple [.str _, .str _]) _ (Rd.same_new hp) (.tup (SqT.of upd_same) (.cons (.str _) (.cons (.str _) .nil))) (.two (.str (strOk_S (by decide)) _) (.str (strOk_S fun c hc => by have := h1 c hc; omega) 3))
theorem ok_law_any_purpose {f : Addr} {fd : FuncData} (mf : mg "_law_any_purpose" = some (.ref f)) (F : FnP K "_law_any_purpose" s_law_any_purpose f fd) (C_law_reference : Cal P w K mg base "_law_reference" 2 ["numbers", "at"] (sp_law_reference P w K)) (C_law_any_text : Cal P w K mg base "_law_any_text" 3 ["numbers", "at"] (sp_law_any_text P w K)) (z_int : mg "int" = none) (z_len : mg "len" = none) : Cal P w K mg base "_law_any_purpose" 4 ["numbers", "at"] (sp_law_any_purpose P w K) :=
  ⟨f, fd, mf, F.kp, F.bindsN fun _ _ _ _ _ _ us hl => match us, hl with | [_, _], _ => rfl, fn_law_any_purpose F C_law_reference C_law_any_text z_int z_len⟩

theorem fn_law_any_rows {f : Addr} {fd : FuncData} (F : FnP K "_law_any_rows" s_law_any_rows f fd) (C_law_any_asset : Cal P w K mg base "_law_any_asset" 4 ["numbers", "at"] (sp_law_any_asset P w K)) (C_law_integer : Cal P w K mg base "_law_integer" 1 ["numbers", "at"] (sp_law_integer P w K)) (z_range : mg "range" = none) : FnOk P w K mg base CX0 5 f fd ["numbers", "at", "many"] (sp_law_any_rows P w K) := by
  obtain ⟨f_law_any_asset, fd_law_any_asset, m_law_any_asset, k_law_any_asset, b_law_any_asset, G_law_any_asset⟩ := C_law_any_asset.ex
  obtain ⟨f_law_integer, fd_law_integer, m_law_integer, k_law_integer, b_law_integer, G_law_integer⟩ := C_law_integer.ex
  refine F.ok sc_law_any_rows (fun vs H Q E h => ?_) (fun cdv A outer s H vs Q E hr h => ?_)
  · obtain ⟨b, ns, i, m, rfl, _⟩ := h; rfl
  · obtain ⟨b, ns, i, m, rfl, hb, hb3, hnl, hm, k⟩ := h
    refine ⟨_, PSs.nox (pss_one (ps_ret (pe_lc (own := [("k", 3)]) (g := gName 3) (tt := tYes) rfl sc_law_any_rows.nd (pi_range1 (by rfl) z_range (pa_cons (pv 2) pa_nil)) (blkOk_by (N := N_law_any_rows) (sc := defScope s_law_any_rows) (by decide +kernel)) (fun _ _ _ _ _ => pg_name (i := 3) sc_law_any_rows.nd rfl (by first | exact Or.inl rfl | exact Or.inr rfl)) (fun _ _ _ _ _ => pts_nil) (fun _ _ _ _ _ => (pe_tup (pa_cons (pe_call G_law_any_asset (hr.mono (by decide)) (by rfl) m_law_any_asset k_law_any_asset b_law_any_asset .nil pass0 (pa_cons (pv 0) (pa_cons (pe_op op_add (pv 1) (pe_op op_mul pe_int (pv 3))) pa_nil))) (pa_cons (pe_call G_law_integer (hr.mono (by decide)) (by rfl) m_law_integer k_law_integer b_law_integer .nil pass0 (pa_cons (pv 0) (pa_cons (pe_op op_add (pe_op op_add (pv 1) (pe_op op_mul pe_int (pv 3))) pe_int) pa_nil))) pa_nil))))))), ?_⟩
    try simp only [Rd.cxK, Re.cxP, Re.cxW]
    walk_at "rn"
    refine Rd.lcR1 (fun D i acc H' => ∃ R : List (Ast × Int), DpAll K H' acc (R.map encR) ∧ OkR R ∧ R.length = i) (by omega) (fun D H' _ _ _ => ⟨[], .nil, fun _ h => absurd h List.not_mem_nil, rfl⟩) ?_ ?_
    · rintro j acc D H' hD s hi hl hDl ⟨R, hR, hO, hRl⟩
      have hb' := s _ _ hb
      walk_at "rn"
      refine ⟨_, ?u24_ns, _, rfl, ?u24_p0, ?u24_p1, ?u24_p2, fun p x H1 s1 hp hpx hx => ?_⟩
      case u24_p0 => walk_at "pre"
      case u24_p1 => walk_at "pre"
      case u24_p2 => walk_at "pre"
      have hb1 := s1 _ _ hb'
      walk_at "rn"
      refine ⟨_, ?u25_ns, _, rfl, ?u25_p0, ?u25_p1, ?u25_p2, fun z H2 s2 => ?_⟩
      case u25_p0 => walk_at "pre"
      case u25_p1 => walk_at "pre"
      case u25_p2 => walk_at "pre"
      walk_at "rn"
      rename_i t ht
      have s3 := fun o => (s1.trans s2).trans (Rd.same_new (o := o) ht)
      refine Rd.lcE hD (s3 _ _ _ hDl) (s.trans (s3 _)) hl (by omega) ⟨R ++ [(x, z)], ?_, ?_, by rw [List.length_append]; simp; omega⟩
      · rw [List.map_append]
        exact push hR (nlMap encR_nl) (s3 _) (s3 _ _ _ hDl) (rowDp (SqT.of upd_same) (SqT.of (Rd.same_new ht _ _ (s2 _ _ hpx)))) (encR_nl _)
      · intro e he
        rcases List.mem_append.mp he with h | h
        · exact hO e h
        · rw [List.mem_singleton.mp h]; exact hx
    · rintro D acc H' hD s hDl hal ⟨R, hR, hO, hRl⟩
      exact k D acc R H' s hD hDl hR hO (by omega)
theorem ok_law_any_rows {f : Addr} {fd : FuncData} (mf : mg "_law_any_rows" = some (.ref f)) (F : FnP K "_law_any_rows" s_law_any_rows f fd) (C_law_any_asset : Cal P w K mg base "_law_any_asset" 4 ["numbers", "at"] (sp_law_any_asset P w K)) (C_law_integer : Cal P w K mg base "_law_integer" 1 ["numbers", "at"] (sp_law_integer P w K)) (z_range : mg "range" = none) : Cal P w K mg base "_law_any_rows" 5 ["numbers", "at", "many"] (sp_law_any_rows P w K) :=
  ⟨f, fd, mf, F.kp, F.bindsN fun _ _ _ _ _ _ us hl => match us, hl with | [_, _, _], _ => rfl, fn_law_any_rows F C_law_any_asset C_law_integer z_range⟩

theorem fn_law_any_output {f : Addr} {fd : FuncData} (F : FnP K "_law_any_output" s_law_any_output f fd) (C_law_integer : Cal P w K mg base "_law_integer" 1 ["numbers", "at"] (sp_law_integer P w K)) (C_law_any_text : Cal P w K mg base "_law_any_text" 3 ["numbers", "at"] (sp_law_any_text P w K)) (C_law_any_rows : Cal P w K mg base "_law_any_rows" 5 ["numbers", "at", "many"] (sp_law_any_rows P w K)) (z_range : mg "range" = none) : FnOk P w K mg base CX0 6 f fd ["numbers"] (sp_law_any_output P w K) := by
  obtain ⟨f_law_integer, fd_law_integer, m_law_integer, k_law_integer, b_law_integer, G_law_integer⟩ := C_law_integer.ex
  obtain ⟨f_law_any_text, fd_law_any_text, m_law_any_text, k_law_any_text, b_law_any_text, G_law_any_text⟩ := C_law_any_text.ex
  obtain ⟨f_law_any_rows, fd_law_any_rows, m_law_any_rows, k_law_any_rows, b_law_any_rows, G_law_any_rows⟩ := C_law_any_rows.ex
  refine F.ok sc_law_any_output (fun vs H Q E h => ?_) (fun cdv A outer s H vs Q E hr h => ?_)
  · obtain ⟨b, ns, rfl, _⟩ := h; rfl
  · obtain ⟨b, ns, rfl, hb, hb3, hnl, hn3, k⟩ := h
    refine ⟨_, PSs.nox (pss_cons (ps_set (i := 1) sc_law_any_output.nd rfl (by first | exact Or.inl rfl | exact Or.inr rfl) (pe_tup (pa_cons pe_str (pa_cons (pe_call G_law_integer (hr.mono (by decide)) (by rfl) m_law_integer k_law_integer b_law_integer .nil pass0 (pa_cons (pv 0) (pa_cons pe_int pa_nil))) pa_nil))))
      (pss_cons (ps_if (pt_cmpR op_eq (pe_op op_mod (pe_ix ix_list (pv 0) pe_int (fun _ _ => rfl)) pe_int) pe_int (nomark _)) (pss_one (ps_set (i := 1) sc_law_any_output.nd rfl (by first | exact Or.inl rfl | exact Or.inr rfl) (pe_tup (pa_cons pe_str (pa_cons (pe_call G_law_any_text (hr.mono (by decide)) (by rfl) m_law_any_text k_law_any_text b_law_any_text .nil pass0 (pa_cons (pv 0) (pa_cons pe_int pa_nil))) pa_nil))))) pss_nil)
      (pss_cons (ps_set (i := 2) sc_law_any_output.nd rfl (by first | exact Or.inl rfl | exact Or.inr rfl) (pe_call G_law_any_rows (hr.mono (by decide)) (by rfl) m_law_any_rows k_law_any_rows b_law_any_rows .nil pass0 (pa_cons (pv 0) (pa_cons pe_int (pa_cons (pe_op op_mod (pe_ix ix_list (pv 0) pe_int (fun _ _ => rfl)) pe_int) pa_nil)))))
      (pss_one (ps_ret (pe_tup (pa_cons (pv 1) (pa_cons (pv 2) (pa_cons (pe_lc (own := [("k", 3)]) (g := gName 3) (tt := tYes) rfl sc_law_any_output.nd (pi_range1 (by rfl) z_range (pa_cons (pe_op op_mod (pe_ix ix_list (pv 0) pe_int (fun _ _ => rfl)) pe_int) pa_nil)) (blkOk_by (N := N_law_any_output) (sc := defScope s_law_any_output) (by decide +kernel)) (fun _ _ _ _ _ => pg_name (i := 3) sc_law_any_output.nd rfl (by first | exact Or.inl rfl | exact Or.inr rfl)) (fun _ _ _ _ _ => pts_nil) (fun _ _ _ _ _ => (pe_call G_law_integer (hr.mono (by decide)) (by rfl) m_law_integer k_law_integer b_law_integer .nil pass0 (pa_cons (pv 0) (pa_cons (pe_op op_add pe_int (pe_op op_mul pe_int (pv 3))) pa_nil))))) pa_nil))))))))), ?_⟩
    try simp only [Rd.cxK, Re.cxP, Re.cxW, lit_0, lit_6]
    walk_at "rn"
    refine ⟨_, ?u26_ns, _, rfl, ?u26_p0, ?u26_p1, ?u26_p2, fun z H1 s1 => ?_⟩
    case u26_p0 => walk_at "pre"
    case u26_p1 => walk_at "pre"
    case u26_p2 => walk_at "pre"
    have hb1 := s1 _ _ hb
    walk_at "rnj"
    rename_i p hp
    have s2 := s1.trans (Rd.same_new (o := .tup [.str (Rd.S [107, 101, 121]), .int z]) hp)
    have hb2 := s2 _ _ hb
    refine Rd.join (fun σ' H' => ∃ (q : Addr) (d : PyData), σ' = [some (.ref b), some (.ref q), none, none] ∧ Same H H' ∧ Dp K H' (.ref q) d ∧ OkD 4 d ∧ AdK d) ?_ ?_
    · intro N hN
      walk_at "rn"
      · refine ⟨_, ?u27_ns, _, rfl, ?u27_p0, ?u27_p1, ?u27_p2, fun l h1 h2 => ?_⟩
        case u27_p0 => walk_at "pre"
        case u27_p1 => walk_at "pre"
        case u27_p2 => walk_at "pre"
        walk_at "rn"
        rename_i q hq
        exact hN _ _ ⟨q, .tuple [.str _, .str _], rfl, s2.trans (Rd.same_new hq), .tup (SqT.of upd_same) (.cons (.str _) (.cons (.str _) .nil)), .two (.str (strOk_S (by decide)) _) (.str (strOk_S fun c hc => by have := h1 c hc; omega) 3), .inr ⟨_, rfl, h1, h2⟩⟩
      · exact hN _ _ ⟨p, .tuple [.str _, .int _], rfl, s2, .tup (SqT.of upd_same) (.cons (.str _) (.cons (.int _) .nil)), .two (.str (strOk_S (by decide)) _) (.int _ 3), .inl ⟨_, rfl⟩⟩
    · rintro σ' H3 ⟨q, d, rfl, s3, hd, hok, hak⟩
      have hb3' := s3 _ _ hb
      walk_at "rn"
      refine ⟨_, ?u28_ns, _, _, rfl, ?u28_p0, ?u28_p1, ?u28_p2, ?u28_p3, fun pr xs R H4 s4 hpr hprx hR hRo hRl => ?_⟩
      case u28_p0 => walk_at "pre"
      case u28_p1 => walk_at "pre"
      case u28_p2 => walk_at "pre"
      case u28_p3 => walk_at "pre"
      have s5 := s3.trans s4
      have hb5 := s5 _ _ hb
      walk_at "rn"
      refine Rd.lcR1 (fun D i acc H' => ∃ es : List Int, acc = es.map V.int ∧ es.length = i) (by omega) (fun D H' _ _ _ => ⟨[], rfl, rfl⟩) ?_ ?_
      · rintro j acc D H' hD s hi hl hDl ⟨es, rfl, hes⟩
        have hb6 := s _ _ hb5
        walk_at "rn"
        refine ⟨_, ?u29_ns, _, rfl, ?u29_p0, ?u29_p1, ?u29_p2, fun z2 H6 s6 => ?_⟩
        case u29_p0 => walk_at "pre"
        case u29_p1 => walk_at "pre"
        case u29_p2 => walk_at "pre"
        exact Rd.lcE hD (s6 _ _ hDl) (s.trans s6) hl (by omega) ⟨es ++ [z2], by rw [List.map_append]; rfl, by rw [List.length_append]; simp; omega⟩
      · rintro D acc H7 hD s7 hDl hal ⟨es, rfl, hes⟩
        rw [List.length_map] at hal
        walk_at "rn"
        rename_i w hw
        have s8 := Rd.same_new (o := .tup [.ref q, .ref pr, .ref D]) hw
        have s9 := (s5.trans s7).trans s8
        refine k w ⟨d, R, es⟩ _ s9 (.tup (SqT.of upd_same) (.cons (dpS1 hd ((s4.trans s7).trans s8)) (.cons (.lst (SqL.of (s8 _ _ (s7 _ _ hprx))) (dpAll_same (s7.trans s8) hR)) (.cons (.lst (SqL.of (s8 _ _ hDl)) dp_ints) .nil)))) ⟨hak, hok, hRo, by show R.length ≤ 24; omega, by show es.length ≤ 24; omega⟩ ?_
        intro pp l hpl
        have n1 : w ≠ pp := fun e => by subst e; have := (s5.trans s7) _ _ hpl; rw [hw] at this; cases this
        have n2 : pr ≠ pp := fun e => by subst e; have := s3 _ _ hpl; rw [hpr] at this; cases this
        have n3 : D ≠ pp := fun e => by subst e; have := s5 _ _ hpl; rw [hD] at this; cases this
        have t := sameT_dl (s9 _ _ hpl)
        exact .tup (SqT.of ((dl_ne n1).trans upd_same)) (.cons (dp_keep t hok.nl (dpS1 hd ((s4.trans s7).trans s8))) (.cons (.lst (SqL.of ((dl_ne n2).trans (s8 _ _ (s7 _ _ hprx)))) (dpAll_keep t (nlMap encR_nl) (dpAll_same (s7.trans s8) hR))) (.cons (.lst (SqL.of ((dl_ne n3).trans (s8 _ _ hDl))) dp_ints) .nil)))
theorem ok_law_any_output {f : Addr} {fd : FuncData} (mf : mg "_law_any_output" = some (.ref f)) (F : FnP K "_law_any_output" s_law_any_output f fd) (C_law_integer : Cal P w K mg base "_law_integer" 1 ["numbers", "at"] (sp_law_integer P w K)) (C_law_any_text : Cal P w K mg base "_law_any_text" 3 ["numbers", "at"] (sp_law_any_text P w K)) (C_law_any_rows : Cal P w K mg base "_law_any_rows" 5 ["numbers", "at", "many"] (sp_law_any_rows P w K)) (z_range : mg "range" = none) : Cal P w K mg base "_law_any_output" 6 ["numbers"] (sp_law_any_output P w K) :=
  ⟨f, fd, mf, F.kp, F.bindsN fun _ _ _ _ _ _ us hl => match us, hl with | [_], _ => rfl, fn_law_any_output F C_law_integer C_law_any_text C_law_any_rows z_range⟩

theorem fn_law_make {f : Addr} {fd : FuncData} (F : FnP K "_law_make" s_law_make f fd) (C_Output___init : CalM P w K mg base (He.fAd K ("Output", some "__init__")) 4 ["self", "address", "bundle", "datum"] [V.ref (He.dflAt ("Output", some "__init__") 0 K)] (sp_Output___init P w K)) (C_Transaction___init : CalT P w K mg base) (z_list : mg "list" = none) (W_Output : CF_Output K mg) (W_Transaction : CF_Transaction K mg) : FnOk P w K mg base CX0 6 f fd ["fields"] (sp_law_make P w K) := by
  obtain ⟨fd_Output___init, b_Output___init, G_Output___init, ds_Output___init, dr_Output___init, db_Output___init⟩ := C_Output___init.ex
  obtain ⟨fd_Transaction___init, D_Transaction___init, G_Transaction___init⟩ := C_Transaction___init.ex; obtain ⟨mv_w, kb_w⟩ := Bk38.kb_w D_Transaction___init; obtain ⟨mv_s, kb_s⟩ := Bk38.kb_s D_Transaction___init; obtain ⟨mv_m, kb_m⟩ := Bk38.kb_m D_Transaction___init
  have cf_Output := W_Output
  have cf_Transaction := W_Transaction
  refine F.ok sc_law_make (fun vs H Q E h => ?_) (fun cdv A outer s H vs Q E hr h => ?_)
  · obtain ⟨f, F, rfl, _⟩ := h; rfl
  · obtain ⟨f, F, rfl, hF, hO, k⟩ := h
    refine ⟨_, PSs.nox (pss_cons (ps_setLc (i := 1) (own := [("address", 3), ("rows", 4), ("datum", 5)]) (g := (gTup K 3 (gCons (gName 3) (gCons (gName 4) (gCons (gName 5) gNil))))) (tt := tYes) rfl sc_law_make.nd rfl rfl (sw_true rfl rfl rfl (by decide +kernel)) (pi_list (L2.pe_dget (hu_of hr) (pv 0) pe_str (fun _ _ => rfl))) (blkOk_by (N := N_law_make) (sc := defScope s_law_make) (by decide +kernel)) (fun _ _ _ _ _ => (pg_tup (n := 3) rfl (pgs_cons (pg_name (i := 3) sc_law_make.nd rfl (by first | exact Or.inl rfl | exact Or.inr rfl)) (pgs_cons (pg_name (i := 4) sc_law_make.nd rfl (by first | exact Or.inl rfl | exact Or.inr rfl)) (pgs_cons (pg_name (i := 5) sc_law_make.nd rfl (by first | exact Or.inl rfl | exact Or.inr rfl)) pgs_nil))))) (fun _ _ _ _ _ => pts_nil) (fun _ _ _ _ _ => (pe_make cf_Output.mkr G_Output___init (hr.mono (by decide)) (by rfl) cf_Output.m b_Output___init .nil pass0 (pa_cons (pv 3) (pa_cons (pe_callTy (Rb.call_lstK (K := K) rfl) (by rfl) z_list boot_list (pa_cons (pv 4) pa_nil)) (pa_cons (pe_callTy (Rb.call_lstK (K := K) rfl) (by rfl) z_list boot_list (pa_cons (pv 5) pa_nil)) pa_nil))))))
      (pss_cons (ps_setLc (i := 2) (own := [("purpose", 6), ("datum", 5)]) (g := (gTup K 2 (gCons (gName 6) (gCons (gName 5) gNil)))) (tt := tYes) rfl sc_law_make.nd rfl rfl (sw_true rfl rfl rfl (by decide +kernel)) (pi_list (L2.pe_dget (hu_of hr) (pv 0) pe_str (fun _ _ => rfl))) (blkOk_by (N := N_law_make) (sc := defScope s_law_make) (by decide +kernel)) (fun _ _ _ _ _ => (pg_tup (n := 2) rfl (pgs_cons (pg_name (i := 6) sc_law_make.nd rfl (by first | exact Or.inl rfl | exact Or.inr rfl)) (pgs_cons (pg_name (i := 5) sc_law_make.nd rfl (by first | exact Or.inl rfl | exact Or.inr rfl)) pgs_nil)))) (fun _ _ _ _ _ => pts_nil) (fun _ _ _ _ _ => (pe_tup (pa_cons (pv 6) (pa_cons (pe_callTy (Rb.call_lstK (K := K) rfl) (by rfl) z_list boot_list (pa_cons (pv 5) pa_nil)) pa_nil)))))
      (pss_one (ps_ret (pe_makeK0 cf_Transaction.mkr G_Transaction___init (hr.mono (by decide)) (by rfl) cf_Transaction.m kb_w pass0 (pk_cons (L2.pe_dget (hu_of hr) (pv 0) pe_str (fun _ _ => rfl)) (pk_cons (pe_callTy call_list_of (by rfl) z_list boot_list (pa_cons (L2.pe_dget (hu_of hr) (pv 0) pe_str (fun _ _ => rfl)) pa_nil)) (pk_cons (pe_callTy call_list_of (by rfl) z_list boot_list (pa_cons (L2.pe_dget (hu_of hr) (pv 0) pe_str (fun _ _ => rfl)) pa_nil)) (pk_cons (pe_callTy call_list_of (by rfl) z_list boot_list (pa_cons (L2.pe_dget (hu_of hr) (pv 0) pe_str (fun _ _ => rfl)) pa_nil)) (pk_cons (pv 1) (pk_cons (pe_callTy call_list_of (by rfl) z_list boot_list (pa_cons (L2.pe_dget (hu_of hr) (pv 0) pe_str (fun _ _ => rfl)) pa_nil)) (pk_cons (L2.pe_dget (hu_of hr) (pv 0) pe_str (fun _ _ => rfl)) (pk_cons (L2.pe_dget (hu_of hr) (pv 0) pe_str (fun _ _ => rfl)) (pk_cons (L2.pe_dget (hu_of hr) (pv 0) pe_str (fun _ _ => rfl)) (pk_cons (pe_callTy call_list_of (by rfl) z_list boot_list (pa_cons (L2.pe_dget (hu_of hr) (pv 0) pe_str (fun _ _ => rfl)) pa_nil)) (pk_cons (pv 2) (pk_cons (pe_callTy call_list_of (by rfl) z_list boot_list (pa_cons (L2.pe_dget (hu_of hr) (pv 0) pe_str (fun _ _ => rfl)) pa_nil)) (pk_cons (pe_callTy call_list_of (by rfl) z_list boot_list (pa_cons (L2.pe_dget (hu_of hr) (pv 0) pe_str (fun _ _ => rfl)) pa_nil)) (pk_cons (L2.pe_dget (hu_of hr) (pv 0) pe_str (fun _ _ => rfl)) pk_nil))))))))))))))))))), ?_⟩
    try simp only [Rd.cxK, Re.cxP, Re.cxW, lit_11, lit_12, lit_13, lit_14, lit_15, lit_16, lit_17, lit_18, lit_19, lit_20, lit_21, lit_22, lit_23, lit_7]
    walk_at "rn"
    refine fdGet 4 hF rfl rfl fun v4 hv4 => ?_
    obtain ⟨z4, us4, rfl, hz4, hd4⟩ := dp_lst hv4
    have hul := Rd.dpAll_len hd4
    rw [List.length_map] at hul
    have hm4 := hO.l4
    refine lcOut (P := P) (w := w) hz4 hd4 (by omega) hO.makes ?_ ?_
    · rintro e x D acc H' C hD s he hx hDl hC
      obtain ⟨z, u, v, y, rfl, hz, hu, hv, hy⟩ := dp_triple hx
      obtain ⟨zr, ur, rfl, hzr, hdr⟩ := dp_lst hv
      obtain ⟨zd, ud, rfl, hzd, hdd⟩ := dp_lst hy
      have hui : ud = e.dat.map V.int := dpAll_ints hdd
      subst hui
      have hoe := hO.makes e he
      have hrl := hoe.rl
      refine triple_of hz ?_
      walk_at "rn"
      rename_i lr hlr ld hld
      have s3 := (Rd.same_new (o := .lst ur) hlr).trans (Rd.same_new (o := .lst (e.dat.map V.int)) hld)
      refine mkO (dpS1 hu s3) (.inl (.inl (SqL.of (Rd.same_new hld _ _ upd_same)))) (dpAll_same s3 hdr) (by omega) (.inl (SqL.of upd_same)) fun H4 b s4 hb hout => ?_
      exact hC b H4 (s3.trans s4) hout
    rintro D4 os H1 hD4 sD4 hD4l hos
    have sC := sD4
    have i4 : SqL K H1 D4 os ∧ Outs P w K H1 os F.makes := ⟨SqL.of hD4l, hos.keep dl_same⟩
    clear hv4 hz4 hd4 hul hD4l hos sD4
    
    walk_at "rn"
    refine fdGet 10 (hF.keep sC) rfl rfl fun v10 hv10 => ?_
    obtain ⟨z10, us10, rfl, hz10, hd10⟩ := dp_lst hv10
    have hul10 := Rd.dpAll_len hd10
    rw [List.length_map] at hul10
    have hm10 := hO.l7
    refine lcDL encFact encFact hz10 hd10 (by omega) ?_ ?_
    · rintro e x D acc H' C hD s he hx hDl hC
      obtain ⟨z, u, v, rfl, hz, hu, hv⟩ := dp_pair hx
      obtain ⟨zd, ud, rfl, hzd, hdd⟩ := dp_lst hv
      have hui : ud = e.2.map V.int := dpAll_ints hdd
      subst hui
      refine pair_of hz ?_
      walk_at "rn"
      rename_i q hq t2 ht2
      have s3 := (Rd.same_new (o := .lst (e.2.map V.int)) hq).trans (Rd.same_new (o := .tup [u, .ref q]) ht2)
      have hD3 := s3 _ _ hDl
      have n1 : t2 ≠ D := fun h => by subst h; have := Rd.same_new (o := .lst (e.2.map V.int)) hq _ _ hDl; rw [ht2] at this; cases this
      have n2 : q ≠ D := fun h => by subst h; rw [hDl] at hq; cases hq
      refine hC _ _ s3 (.tup (SqT.of ((dl_ne n1).trans upd_same)) (.cons (dp_keep (sameT_dl hD3) (hO.data e he).1.nl (dpS1 hu s3)) (.cons (.lst (SqL.of ((dl_ne n2).trans (Rd.same_new ht2 _ _ upd_same))) dp_ints) .nil)))
    rintro D10 acc10 H2 hD10 sD10 hD10l hacc10
    have sC := sC.trans sD10
    have i10 : SeqD K H2 D10 (F.data.map encFact) := ⟨acc10, .inl (SqL.of hD10l), dpAll_same dl_same hacc10⟩
    
    have i4 : SqL K H2 D4 os ∧ Outs P w K H2 os F.makes := ⟨sD10.seq i4.1, i4.2.keep sD10⟩
    clear hv10 hz10 hd10 hul10 hD10l hacc10 sD10
    walk_at "rn"
    refine Kw.mkK0 ?_
    walk_at "rn"
    refine fdGet 0 (hF.keep sC) rfl rfl fun v0 hv0 => ?_
    obtain rfl := dp_int hv0
    walk_at "rn"
    refine fdGet 1 (hF.keep sC) rfl rfl fun v1 hv1 => ?_
    obtain ⟨z1, us1, rfl, hz1, hd1⟩ := dp_lst hv1
    walk_at "rn"
    rename_i l1 hl1
    have t1 := Rd.same_new (o := .lst us1) hl1
    have i1 : SeqD K (upd H2 l1 (.lst us1)) l1 (F.spends.map encRef) := ⟨us1, .inl (SqL.of upd_same), dpAll_same t1 hd1⟩
    have i10 := i10.keep t1
    have i4 : SqL K _ D4 os ∧ Outs P w K _ os F.makes := ⟨t1.seq i4.1, i4.2.keep t1⟩
    have sC := sC.trans t1
    clear t1 hz1 hd1 hv1
    generalize upd H2 l1 (.lst us1) = H3 at *
    refine fdGet 2 (hF.keep sC) rfl rfl fun v2 hv2 => ?_
    obtain ⟨z2, us2, rfl, hz2, hd2⟩ := dp_lst hv2
    walk_at "rn"
    rename_i l2 hl2
    have t2 := Rd.same_new (o := .lst us2) hl2
    have i2 : SeqD K (upd H3 l2 (.lst us2)) l2 (F.looks.map encRef) := ⟨us2, .inl (SqL.of upd_same), dpAll_same t2 hd2⟩
    have i10 := i10.keep t2
    have i1 := i1.keep t2
    have i4 : SqL K _ D4 os ∧ Outs P w K _ os F.makes := ⟨t2.seq i4.1, i4.2.keep t2⟩
    have sC := sC.trans t2
    clear t2 hz2 hd2 hv2
    generalize upd H3 l2 (.lst us2) = H4 at *
    refine fdGet 3 (hF.keep sC) rfl rfl fun v3 hv3 => ?_
    obtain ⟨z3, us3, rfl, hz3, hd3⟩ := dp_lst hv3
    walk_at "rn"
    rename_i l3 hl3
    have t3 := Rd.same_new (o := .lst us3) hl3
    have i3 : SeqD K (upd H4 l3 (.lst us3)) l3 (F.pledge.map encRef) := ⟨us3, .inl (SqL.of upd_same), dpAll_same t3 hd3⟩
    have i10 := i10.keep t3
    have i1 := i1.keep t3
    have i2 := i2.keep t3
    have i4 : SqL K _ D4 os ∧ Outs P w K _ os F.makes := ⟨t3.seq i4.1, i4.2.keep t3⟩
    have sC := sC.trans t3
    clear t3 hz3 hd3 hv3
    generalize upd H4 l3 (.lst us3) = H5 at *
    refine fdGet 5 (hF.keep sC) rfl rfl fun v5 hv5 => ?_
    obtain ⟨z5, us5, rfl, hz5, hd5⟩ := dp_lst hv5
    walk_at "rn"
    rename_i l5 hl5
    have t5 := Rd.same_new (o := .lst us5) hl5
    have i5 : SeqD K (upd H5 l5 (.lst us5)) l5 (F.mint.map encR) := ⟨us5, .inl (SqL.of upd_same), dpAll_same t5 hd5⟩
    have i10 := i10.keep t5
    have i1 := i1.keep t5
    have i2 := i2.keep t5
    have i3 := i3.keep t5
    have i4 : SqL K _ D4 os ∧ Outs P w K _ os F.makes := ⟨t5.seq i4.1, i4.2.keep t5⟩
    have sC := sC.trans t5
    clear t5 hz5 hd5 hv5
    generalize upd H5 l5 (.lst us5) = H6 at *
    refine fdGet 6 (hF.keep sC) rfl rfl fun v6 hv6 => ?_
    obtain rfl := dp_int hv6
    walk_at "rn"
    refine fdGet 7 (hF.keep sC) rfl rfl fun v7 hv7 => ?_
    obtain rfl := dp_int hv7
    walk_at "rn"
    refine fdGet 8 (hF.keep sC) rfl rfl fun v8 hv8 => ?_
    obtain rfl := dp_int hv8
    walk_at "rn"
    refine fdGet 9 (hF.keep sC) rfl rfl fun v9 hv9 => ?_
    obtain ⟨z9, us9, rfl, hz9, hd9⟩ := dp_lst hv9
    walk_at "rn"
    rename_i l9 hl9
    have t9 := Rd.same_new (o := .lst us9) hl9
    have i9 : SeqD K (upd H6 l9 (.lst us9)) l9 (F.signers.map encI) := ⟨us9, .inl (SqL.of upd_same), dpAll_same t9 hd9⟩
    have i10 := i10.keep t9
    have i1 := i1.keep t9
    have i2 := i2.keep t9
    have i3 := i3.keep t9
    have i5 := i5.keep t9
    have i4 : SqL K _ D4 os ∧ Outs P w K _ os F.makes := ⟨t9.seq i4.1, i4.2.keep t9⟩
    have sC := sC.trans t9
    clear t9 hz9 hd9 hv9
    generalize upd H6 l9 (.lst us9) = H7 at *
    refine fdGet 11 (hF.keep sC) rfl rfl fun v11 hv11 => ?_
    obtain ⟨z11, us11, rfl, hz11, hd11⟩ := dp_lst hv11
    walk_at "rn"
    rename_i l11 hl11
    have t11 := Rd.same_new (o := .lst us11) hl11
    have i11 : SeqD K (upd H7 l11 (.lst us11)) l11 (F.deeds) := ⟨us11, .inl (SqL.of upd_same), dpAll_same t11 hd11⟩
    have i10 := i10.keep t11
    have i1 := i1.keep t11
    have i2 := i2.keep t11
    have i3 := i3.keep t11
    have i5 := i5.keep t11
    have i9 := i9.keep t11
    have i4 : SqL K _ D4 os ∧ Outs P w K _ os F.makes := ⟨t11.seq i4.1, i4.2.keep t11⟩
    have sC := sC.trans t11
    clear t11 hz11 hd11 hv11
    generalize upd H7 l11 (.lst us11) = H8 at *
    refine fdGet 12 (hF.keep sC) rfl rfl fun v12 hv12 => ?_
    obtain ⟨z12, us12, rfl, hz12, hd12⟩ := dp_lst hv12
    walk_at "rn"
    rename_i l12 hl12
    have t12 := Rd.same_new (o := .lst us12) hl12
    have i12 : SeqD K (upd H8 l12 (.lst us12)) l12 (F.draws.map encRef) := ⟨us12, .inl (SqL.of upd_same), dpAll_same t12 hd12⟩
    have i10 := i10.keep t12
    have i1 := i1.keep t12
    have i2 := i2.keep t12
    have i3 := i3.keep t12
    have i5 := i5.keep t12
    have i9 := i9.keep t12
    have i11 := i11.keep t12
    have i4 : SqL K _ D4 os ∧ Outs P w K _ os F.makes := ⟨t12.seq i4.1, i4.2.keep t12⟩
    have sC := sC.trans t12
    clear t12 hz12 hd12 hv12
    generalize upd H8 l12 (.lst us12) = H9 at *
    refine fdGet 13 (hF.keep sC) rfl rfl fun v13 hv13 => ?_
    obtain rfl := dp_bool hv13
    walk_at "rn"
    obtain ⟨us5, hz5, hd5⟩ := i5
    refine ⟨rfl, rfl, mkT (fun _ => rfl) ⟨i1, i2, i3, ⟨os, .inl i4.1, i4.2⟩, ⟨us5, .inl hz5, hd5⟩, i9, i10, i11, i12⟩ hO fun H9 t s9 ht htx => ?_⟩
    exact k t H9 (sC.trans s9) (sC.free ht) htx
theorem ok_law_make {f : Addr} {fd : FuncData} (mf : mg "_law_make" = some (.ref f)) (F : FnP K "_law_make" s_law_make f fd) (C_Output___init : CalM P w K mg base (He.fAd K ("Output", some "__init__")) 4 ["self", "address", "bundle", "datum"] [V.ref (He.dflAt ("Output", some "__init__") 0 K)] (sp_Output___init P w K)) (C_Transaction___init : CalT P w K mg base) (z_list : mg "list" = none) (W_Output : CF_Output K mg) (W_Transaction : CF_Transaction K mg) : Cal P w K mg base "_law_make" 6 ["fields"] (sp_law_make P w K) :=
  ⟨f, fd, mf, F.kp, F.bindsN fun _ _ _ _ _ _ us hl => match us, hl with | [_], _ => rfl, fn_law_make F C_Output___init C_Transaction___init z_list W_Output W_Transaction⟩

theorem fn_law_any_fields {f : Addr} {fd : FuncData} (F : FnP K "_law_any_fields" s_law_any_fields f fd) (C_law_stream : Cal P w K mg base "_law_stream" 2 ["script", "k", "many"] (sp_law_stream P w K)) (C_law_any_purpose : Cal P w K mg base "_law_any_purpose" 4 ["numbers", "at"] (sp_law_any_purpose P w K)) (C_law_integer : Cal P w K mg base "_law_integer" 1 ["numbers", "at"] (sp_law_integer P w K)) (C_law_any_pair : Cal P w K mg base "_law_any_pair" 2 ["numbers", "at"] (sp_law_any_pair P w K)) (C_law_any_rows : Cal P w K mg base "_law_any_rows" 5 ["numbers", "at", "many"] (sp_law_any_rows P w K)) (C_law_any_output : Cal P w K mg base "_law_any_output" 6 ["numbers"] (sp_law_any_output P w K)) (C_law_reference : Cal P w K mg base "_law_reference" 2 ["numbers", "at"] (sp_law_reference P w K)) (z_range : mg "range" = none) : FnOk P w K mg base CX0 7 f fd ["script", "start"] (sp_law_any_fields P w K) := by
  obtain ⟨f_law_stream, fd_law_stream, m_law_stream, k_law_stream, b_law_stream, G_law_stream⟩ := C_law_stream.ex
  obtain ⟨f_law_any_purpose, fd_law_any_purpose, m_law_any_purpose, k_law_any_purpose, b_law_any_purpose, G_law_any_purpose⟩ := C_law_any_purpose.ex
  obtain ⟨f_law_integer, fd_law_integer, m_law_integer, k_law_integer, b_law_integer, G_law_integer⟩ := C_law_integer.ex
  obtain ⟨f_law_any_pair, fd_law_any_pair, m_law_any_pair, k_law_any_pair, b_law_any_pair, G_law_any_pair⟩ := C_law_any_pair.ex
  obtain ⟨f_law_any_rows, fd_law_any_rows, m_law_any_rows, k_law_any_rows, b_law_any_rows, G_law_any_rows⟩ := C_law_any_rows.ex
  obtain ⟨f_law_any_output, fd_law_any_output, m_law_any_output, k_law_any_output, b_law_any_output, G_law_any_output⟩ := C_law_any_output.ex
  obtain ⟨f_law_reference, fd_law_reference, m_law_reference, k_law_reference, b_law_reference, G_law_reference⟩ := C_law_reference.ex
  refine F.ok sc_law_any_fields (fun vs H Q E h => ?_) (fun cdv A outer s H vs Q E hr h => ?_)
  · obtain ⟨a, ns, i, rfl, _⟩ := h; rfl
  · obtain ⟨a, ns, i, rfl, hS, h0, k⟩ := h
    refine ⟨_, PSs.nox (pss_cons (ps_set (i := 2) sc_law_any_fields.nd rfl (by first | exact Or.inl rfl | exact Or.inr rfl) (pe_call G_law_stream (hr.mono (by decide)) (by rfl) m_law_stream k_law_stream b_law_stream .nil pass0 (pa_cons (pv 0) (pa_cons (pv 1) (pa_cons pe_int pa_nil)))))
      (pss_cons (ps_set (i := 3) sc_law_any_fields.nd rfl (by first | exact Or.inl rfl | exact Or.inr rfl) (pe_call G_law_stream (hr.mono (by decide)) (by rfl) m_law_stream k_law_stream b_law_stream .nil pass0 (pa_cons (pv 0) (pa_cons (pe_op op_add (pv 1) pe_int) (pa_cons pe_int pa_nil)))))
      (pss_cons (ps_set (i := 4) sc_law_any_fields.nd rfl (by first | exact Or.inl rfl | exact Or.inr rfl) (pe_call G_law_stream (hr.mono (by decide)) (by rfl) m_law_stream k_law_stream b_law_stream .nil pass0 (pa_cons (pv 0) (pa_cons (pe_op op_add (pv 1) pe_int) (pa_cons pe_int pa_nil)))))
      (pss_cons (ps_set (i := 5) sc_law_any_fields.nd rfl (by first | exact Or.inl rfl | exact Or.inr rfl) (pe_call G_law_stream (hr.mono (by decide)) (by rfl) m_law_stream k_law_stream b_law_stream .nil pass0 (pa_cons (pv 0) (pa_cons (pe_op op_add (pv 1) pe_int) (pa_cons pe_int pa_nil)))))
      (pss_cons (ps_setLc (i := 6) (own := [("k", 8)]) (g := gName 8) (tt := tYes) rfl sc_law_any_fields.nd rfl rfl (sw_true rfl rfl rfl (by decide +kernel)) (pi_range1 (by rfl) z_range (pa_cons pe_int pa_nil)) (blkOk_by (N := N_law_any_fields) (sc := defScope s_law_any_fields) (by decide +kernel)) (fun _ _ _ _ _ => pg_name (i := 8) sc_law_any_fields.nd rfl (by first | exact Or.inl rfl | exact Or.inr rfl)) (fun _ _ _ _ _ => pts_nil) (fun _ _ _ _ _ => (pe_op op_mod (pe_ix (Rb.ix_listK (K := K) rfl) (pv 2) (pv 8) (fun _ _ => rfl)) pe_int)))
      (pss_cons (ps_if (pt_cmpR op_eq (pe_op op_mod (pe_ix ix_list (pv 2) pe_int (fun _ _ => rfl)) pe_int) pe_int (nomark _)) (pss_one (ps_asg (pe_op op_mod (pe_ix ix_list (pv 2) pe_int (fun _ _ => rfl)) pe_int) (pg_sub (pv 6) (pe_op op_mod (pe_ix ix_list (pv 2) pe_int (fun _ _ => rfl)) pe_int) set_list))) pss_nil)
      (pss_cons (ps_set (i := 7) sc_law_any_fields.nd rfl (by first | exact Or.inl rfl | exact Or.inr rfl) (pe_lst pa_nil))
      (pss_cons (ps_for PassesOwn.never rfl (pi_range1 (by rfl) z_range (pa_cons (pe_ix ix_list (pv 6) pe_int (fun _ _ => rfl)) pa_nil)) (pg_name (i := 8) sc_law_any_fields.nd rfl (by first | exact Or.inl rfl | exact Or.inr rfl)) (pss_cons (ps_set (i := 9) sc_law_any_fields.nd rfl (by first | exact Or.inl rfl | exact Or.inr rfl) (pe_slice sl_list (pe_call G_law_stream (hr.mono (by decide)) (by rfl) m_law_stream k_law_stream b_law_stream .nil pass0 (pa_cons (pv 0) (pa_cons (pe_op op_add (pe_op op_add (pv 1) pe_int) (pe_op op_mod (pv 8) pe_int)) (pa_cons (pe_op op_add pe_int (pv 8)) pa_nil)))) (po_some (pv 8)) po_none))
      (pss_one (ps_expr (pe_bm PySem.F.plainAttrs_list PySem.F.slot_list_append PySem.F.type_list_append mt_append (pv 7) (pa_cons (pe_tup (pa_cons (pe_call G_law_any_purpose (hr.mono (by decide)) (by rfl) m_law_any_purpose k_law_any_purpose b_law_any_purpose .nil pass0 (pa_cons (pv 9) (pa_cons pe_int pa_nil))) (pa_cons (pe_lc (own := [("j", 10)]) (g := gName 10) (tt := tYes) rfl sc_law_any_fields.nd (pi_range1 (by rfl) z_range (pa_cons (pe_op op_mod (pe_ix ix_list (pv 9) pe_int (fun _ _ => rfl)) pe_int) pa_nil)) (blkOk_by (N := N_law_any_fields) (sc := defScope s_law_any_fields) (by decide +kernel)) (fun _ _ _ _ _ => pg_name (i := 10) sc_law_any_fields.nd rfl (by first | exact Or.inl rfl | exact Or.inr rfl)) (fun _ _ _ _ _ => pts_nil) (fun _ _ _ _ _ => (pe_call G_law_integer (hr.mono (by decide)) (by rfl) m_law_integer k_law_integer b_law_integer .nil pass0 (pa_cons (pv 9) (pa_cons (pe_op op_add pe_int (pe_op op_mul pe_int (pv 10))) pa_nil))))) pa_nil))) pa_nil))))))
      (pss_one (ps_ret (L2.pe_disp (pps_cons pe_str (pe_call G_law_integer (hr.mono (by decide)) (by rfl) m_law_integer k_law_integer b_law_integer .nil pass0 (pa_cons (pv 2) (pa_cons pe_int pa_nil))) (pps_cons pe_str (pe_lc (own := [("k", 8)]) (g := gName 8) (tt := tYes) rfl sc_law_any_fields.nd (pi_range1 (by rfl) z_range (pa_cons (pe_ix ix_list (pv 6) pe_int (fun _ _ => rfl)) pa_nil)) (blkOk_by (N := N_law_any_fields) (sc := defScope s_law_any_fields) (by decide +kernel)) (fun _ _ _ _ _ => pg_name (i := 8) sc_law_any_fields.nd rfl (by first | exact Or.inl rfl | exact Or.inr rfl)) (fun _ _ _ _ _ => pts_nil) (fun _ _ _ _ _ => (pe_call G_law_reference (hr.mono (by decide)) (by rfl) m_law_reference k_law_reference b_law_reference .nil pass0 (pa_cons (pv 3) (pa_cons (pe_op op_mul pe_int (pv 8)) pa_nil))))) (pps_cons pe_str (pe_lc (own := [("k", 8)]) (g := gName 8) (tt := tYes) rfl sc_law_any_fields.nd (pi_range1 (by rfl) z_range (pa_cons (pe_ix ix_list (pv 6) pe_int (fun _ _ => rfl)) pa_nil)) (blkOk_by (N := N_law_any_fields) (sc := defScope s_law_any_fields) (by decide +kernel)) (fun _ _ _ _ _ => pg_name (i := 8) sc_law_any_fields.nd rfl (by first | exact Or.inl rfl | exact Or.inr rfl)) (fun _ _ _ _ _ => pts_nil) (fun _ _ _ _ _ => (pe_call G_law_reference (hr.mono (by decide)) (by rfl) m_law_reference k_law_reference b_law_reference .nil pass0 (pa_cons (pv 3) (pa_cons (pe_op op_add pe_int (pe_op op_mul pe_int (pv 8))) pa_nil))))) (pps_cons pe_str (pe_lc (own := [("k", 8)]) (g := gName 8) (tt := tYes) rfl sc_law_any_fields.nd (pi_range1 (by rfl) z_range (pa_cons (pe_ix ix_list (pv 6) pe_int (fun _ _ => rfl)) pa_nil)) (blkOk_by (N := N_law_any_fields) (sc := defScope s_law_any_fields) (by decide +kernel)) (fun _ _ _ _ _ => pg_name (i := 8) sc_law_any_fields.nd rfl (by first | exact Or.inl rfl | exact Or.inr rfl)) (fun _ _ _ _ _ => pts_nil) (fun _ _ _ _ _ => (pe_call G_law_reference (hr.mono (by decide)) (by rfl) m_law_reference k_law_reference b_law_reference .nil pass0 (pa_cons (pv 3) (pa_cons (pe_op op_add pe_int (pe_op op_mul pe_int (pv 8))) pa_nil))))) (pps_cons pe_str (pe_lc (own := [("k", 8)]) (g := gName 8) (tt := tYes) rfl sc_law_any_fields.nd (pi_range1 (by rfl) z_range (pa_cons (pe_ix ix_list (pv 6) pe_int (fun _ _ => rfl)) pa_nil)) (blkOk_by (N := N_law_any_fields) (sc := defScope s_law_any_fields) (by decide +kernel)) (fun _ _ _ _ _ => pg_name (i := 8) sc_law_any_fields.nd rfl (by first | exact Or.inl rfl | exact Or.inr rfl)) (fun _ _ _ _ _ => pts_nil) (fun _ _ _ _ _ => (pe_call G_law_any_output (hr.mono (by decide)) (by rfl) m_law_any_output k_law_any_output b_law_any_output .nil pass0 (pa_cons (pe_call G_law_stream (hr.mono (by decide)) (by rfl) m_law_stream k_law_stream b_law_stream .nil pass0 (pa_cons (pv 0) (pa_cons (pe_op op_add (pe_op op_add (pv 1) pe_int) (pv 8)) (pa_cons pe_int pa_nil)))) pa_nil)))) (pps_cons pe_str (pe_call G_law_any_rows (hr.mono (by decide)) (by rfl) m_law_any_rows k_law_any_rows b_law_any_rows .nil pass0 (pa_cons (pv 5) (pa_cons pe_int (pa_cons (pe_ix ix_list (pv 6) pe_int (fun _ _ => rfl)) pa_nil)))) (pps_cons pe_str (pe_call G_law_integer (hr.mono (by decide)) (by rfl) m_law_integer k_law_integer b_law_integer .nil pass0 (pa_cons (pv 2) (pa_cons pe_int pa_nil))) (pps_cons pe_str (pe_call G_law_integer (hr.mono (by decide)) (by rfl) m_law_integer k_law_integer b_law_integer .nil pass0 (pa_cons (pv 2) (pa_cons pe_int pa_nil))) (pps_cons pe_str (pe_call G_law_integer (hr.mono (by decide)) (by rfl) m_law_integer k_law_integer b_law_integer .nil pass0 (pa_cons (pv 2) (pa_cons pe_int pa_nil))) (pps_cons pe_str (pe_lc (own := [("k", 8)]) (g := gName 8) (tt := tYes) rfl sc_law_any_fields.nd (pi_range1 (by rfl) z_range (pa_cons (pe_ix ix_list (pv 6) pe_int (fun _ _ => rfl)) pa_nil)) (blkOk_by (N := N_law_any_fields) (sc := defScope s_law_any_fields) (by decide +kernel)) (fun _ _ _ _ _ => pg_name (i := 8) sc_law_any_fields.nd rfl (by first | exact Or.inl rfl | exact Or.inr rfl)) (fun _ _ _ _ _ => pts_nil) (fun _ _ _ _ _ => (pe_call G_law_integer (hr.mono (by decide)) (by rfl) m_law_integer k_law_integer b_law_integer .nil pass0 (pa_cons (pv 4) (pa_cons (pe_op op_mul pe_int (pv 8)) pa_nil))))) (pps_cons pe_str (pv 7) (pps_cons pe_str (pe_lc (own := [("k", 8)]) (g := gName 8) (tt := tYes) rfl sc_law_any_fields.nd (pi_range1 (by rfl) z_range (pa_cons (pe_ix ix_list (pv 6) pe_int (fun _ _ => rfl)) pa_nil)) (blkOk_by (N := N_law_any_fields) (sc := defScope s_law_any_fields) (by decide +kernel)) (fun _ _ _ _ _ => pg_name (i := 8) sc_law_any_fields.nd rfl (by first | exact Or.inl rfl | exact Or.inr rfl)) (fun _ _ _ _ _ => pts_nil) (fun _ _ _ _ _ => (pe_call G_law_any_pair (hr.mono (by decide)) (by rfl) m_law_any_pair k_law_any_pair b_law_any_pair .nil pass0 (pa_cons (pv 4) (pa_cons (pe_op op_add pe_int (pe_op op_mul pe_int (pv 8))) pa_nil))))) (pps_cons pe_str (pe_lc (own := [("k", 8)]) (g := gName 8) (tt := tYes) rfl sc_law_any_fields.nd (pi_range1 (by rfl) z_range (pa_cons (pe_ix ix_list (pv 6) pe_int (fun _ _ => rfl)) pa_nil)) (blkOk_by (N := N_law_any_fields) (sc := defScope s_law_any_fields) (by decide +kernel)) (fun _ _ _ _ _ => pg_name (i := 8) sc_law_any_fields.nd rfl (by first | exact Or.inl rfl | exact Or.inr rfl)) (fun _ _ _ _ _ => pts_nil) (fun _ _ _ _ _ => (pe_tup (pa_cons (pe_call G_law_integer (hr.mono (by decide)) (by rfl) m_law_integer k_law_integer b_law_integer .nil pass0 (pa_cons (pv 4) (pa_cons (pe_op op_add pe_int (pe_op op_mul pe_int (pv 8))) pa_nil))) (pa_cons (pe_call G_law_integer (hr.mono (by decide)) (by rfl) m_law_integer k_law_integer b_law_integer .nil pass0 (pa_cons (pv 4) (pa_cons (pe_op op_add pe_int (pe_op op_mul pe_int (pv 8))) pa_nil))) pa_nil))))) (pps_cons pe_str (pe_cmpR op_eq (pe_op op_mod (pe_ix ix_list (pv 2) pe_int (fun _ _ => rfl)) pe_int) pe_int (nomark _)) pps_nil)))))))))))))) (by rfl) (by rfl) (fun z => by cases z) (by decide)))))))))))), ?_⟩
    try simp only [Rd.cxK, Re.cxP, Re.cxW, lit_11, lit_12, lit_13, lit_14, lit_15, lit_16, lit_17, lit_18, lit_19, lit_20, lit_21, lit_22, lit_23, lit_7]
    walk_at "rn"
    refine ⟨_, ?u30_ns, _, _, rfl, ?u30_p0, ?u30_p1, ?u30_p2, fun ph nh H1 s1 hph hph2 hnh h3h => ?_⟩
    case u30_p0 => walk_at "pre"
    case u30_p1 => walk_at "pre"
    case u30_p2 => walk_at "pre"
    have hS1 := s1.seq hS
    walk_at "rn"
    refine ⟨_, ?u31_ns, _, _, rfl, ?u31_p0, ?u31_p1, ?u31_p2, fun pf nf H2 s2 hpf hpf2 hnf h3f => ?_⟩
    case u31_p0 => walk_at "pre"
    case u31_p1 => walk_at "pre"
    case u31_p2 => walk_at "pre"
    have hS2 := s2.seq hS1
    walk_at "rn"
    refine ⟨_, ?u32_ns, _, _, rfl, ?u32_p0, ?u32_p1, ?u32_p2, fun pe ne H3 s3 hpe hpe2 hne h3e => ?_⟩
    case u32_p0 => walk_at "pre"
    case u32_p1 => walk_at "pre"
    case u32_p2 => walk_at "pre"
    have hS3 := s3.seq hS2
    walk_at "rn"
    refine ⟨_, ?u33_ns, _, _, rfl, ?u33_p0, ?u33_p1, ?u33_p2, fun pw nw H4 s4 hpw hpw2 hnw h3w => ?_⟩
    case u33_p0 => walk_at "pre"
    case u33_p1 => walk_at "pre"
    case u33_p2 => walk_at "pre"
    have hS4 := s4.seq hS3
    walk_at "rn"
    refine Rd.lcR1 (fun D i acc H' => ∃ xs : List Int, acc = xs.map V.int ∧ xs.length = i ∧ (∀ x ∈ xs, 0 ≤ x ∧ x < 25)) (by omega) (fun D H' _ _ _ => ⟨[], rfl, rfl, fun _ h => absurd h List.not_mem_nil⟩) ?_ ?_
    · rintro j acc D H' hD s hi hl hDl ⟨xs, rfl, hxl, hx3⟩
      have hph5 := s _ _ (s4 _ _ (s3 _ _ (s2 _ _ hph2)))
      walk_at "rn"
      rename_i v hv1 hv2
      exact Rd.lcE hD hDl s hl (by omega) ⟨xs ++ [v % 10], by rw [List.map_append]; rfl, by rw [List.length_append]; simp; omega, Rd.bd_app hx3 (by omega)⟩
    rintro pc acc H5 hpc s5 hpc2 hal ⟨cs, rfl, hcl, hc25⟩
    rw [List.length_map] at hal
    have hph5 := s5 _ _ (s4 _ _ (s3 _ _ (s2 _ _ hph2)))
    walk_at "rnj"
    refine Rd.join (fun σ' H' => ∃ cs : List Int, ∃ c8,  σ' = [some (.ref a), some (.int i), some (.ref ph), some (.ref pf), some (.ref pe), some (.ref pw), some (.ref pc), none, c8, none, none] ∧ Same H4 H' ∧ H' pc = some (.lst (cs.map V.int)) ∧ cs.length = 9 ∧ (∀ x ∈ cs, 0 ≤ x ∧ x < 25)) ?_ ?_
    · intro N hN
      walk_at "rn"
      · refine Rd.setL hpc2 (Rd.ixN_lit (by omega) (by rw [List.length_map]; omega)) ?_
        refine hN _ _ ⟨cs.set _ _, _,  rfl, Rd.same_mut s5 hpc, by rw [upd_same, ← List.map_set], by rw [List.length_set]; omega, fun x hx => ?_⟩
        rcases List.mem_or_eq_of_mem_set hx with h | h
        · exact hc25 x h
        · rw [h]; omega
      · exact hN _ _ ⟨cs, _,  rfl, s5, hpc2, by omega, hc25⟩
    rintro σ' H6 ⟨cs, c8,  rfl, s6, hpc6, hcl, hc25⟩
    have ls6 : Ls K H6 a ph pf pe pw pc ns nh nf ne nw cs := ⟨s6.seq hS4, s6 _ _ (s4 _ _ (s3 _ _ (s2 _ _ hph2))), s6 _ _ (s4 _ _ (s3 _ _ hpf2)), s6 _ _ (s4 _ _ hpe2), s6 _ _ hpw2, hpc6⟩
    clear hpc6 hph5 hS4 hS3 hS2 hS1
    have sH6 := (((s1.trans s2).trans s3).trans s4).trans s6
    clear s1 s2 s3 s4 s6 s5 hph2 hpf2 hpe2 hpw2
    obtain ⟨lsa, lsh, lsf, lse, lsw, lsc⟩ := ls6
    walk_at "rn"
    rename_i pd hpd m6 hm0 hm1
    have ls6 : Ls K H6 a ph pf pe pw pc ns nh nf ne nw cs := ⟨lsa, lsh, lsf, lse, lsw, lsc⟩
    clear lsa lsh lsf lse lsw lsc
    refine Rd.rng1 (fun j σ' H' => ∃ (vs : List V) (L : List (PyData × List Int)), ∃ c8 c9 c10,  σ' = [some (.ref a), some (.int i), some (.ref ph), some (.ref pf), some (.ref pe), some (.ref pw), some (.ref pc), some (.ref pd), c8, c9, c10] ∧ Same H6 H' ∧ H' pd = some (.lst vs) ∧ DpAll K (dl H' pd) vs (L.map encFact) ∧ (∀ e ∈ L, OkD 4 e.1 ∧ e.2.length ≤ 24) ∧ L.length = j) (by omega) ⟨[], [], _, _, _,  rfl, Rd.same_new hpd, upd_same, .nil, fun _ h => absurd h List.not_mem_nil, rfl⟩ ?_ ?_
    · rintro j σ' H7 hj ⟨vs, L, c8, c9, c10,  rfl, s7, hpd7, hL, hLo, hLl⟩
      obtain ⟨lsa, lsh, lsf, lse, lsw, lsc⟩ := ls6.keep s7
      have hvl := Rd.dpAll_len hL
      rw [List.length_map] at hvl
      walk_at "rn"
      refine ⟨_, ?u34_ns, _, _, rfl, ?u34_p0, ?u34_p1, ?u34_p2, fun pn nn H8 s8 hpn hpn2 hnn h3n => ?_⟩
      case u34_p0 => walk_at "pre"
      case u34_p1 => walk_at "pre"
      case u34_p2 => walk_at "pre"
      walk_at "rn"
      rename_i px hpx
      have s9 := Rd.same_new (o := .lst ((nn.drop j).map V.int)) hpx
      have h3d := h3n.drop j
      have hdl : (nn.drop j).length = 40 := by rw [List.length_drop]; omega
      have hpd9 := s9 _ _ (s8 _ _ hpd7)
      refine ⟨_, ?u35_ns, _, rfl, ?u35_p0, ?u35_p1, ?u35_p2, fun z d H10 s10 hz hok => ?_⟩
      case u35_p0 => walk_at "pre"
      case u35_p1 => walk_at "pre"
      case u35_p2 => walk_at "pre"
      have hpx10 := s10 _ _ (show upd H8 px (.lst ((nn.drop j).map V.int)) px = _ from upd_same)
      have hpd10 := s10 _ _ hpd9
      walk_at "rn"
      refine lcG (K := K) encI (fun _ => True) (by omega) ?_ ?_
      · rintro i2 D acc H11 C hi2 s11 hDl hC
        have hpx11 := s11 _ _ hpx10
        walk_at "rn"
        refine ⟨_, ?u36_ns, _, rfl, ?u36_p0, ?u36_p1, ?u36_p2, fun z2 H12 s12 => ?_⟩
        case u36_p0 => walk_at "pre"
        case u36_p1 => walk_at "pre"
        case u36_p2 => walk_at "pre"
        exact hC _ z2 _ s12 (.int z2) (FrD.of_nl s12 rfl (.int z2)) trivial
      rintro D acc L2 H11 hD s11 hDl hacc _ hl2
      have hacc2 : acc = L2.map V.int := dpAll_ints (dpAll_same dl_same hacc)
      have hpd11 := s11 _ _ hpd10
      walk_at "rn"
      rename_i p hp
      have s12 := Rd.same_new (o := .tup [.ref z, .ref D]) hp
      have hpd12 := s12 _ _ hpd11
      have sA := ((s8.trans s9).trans (s10.trans s11)).trans s12
      have n1 : p ≠ pd := fun e => by subst e; rw [hp] at hpd11; cases hpd11
      have n2 : D ≠ pd := fun e => by subst e; rw [hD] at hpd10; cases hpd10
      walk_at "rn"
      refine ⟨vs ++ [.ref p], L ++ [(d, L2)], _, _, _,  rfl, Rd.same_mut (s7.trans sA) hpd, upd_same, ?_, ?_, by rw [List.length_append]; simp; omega⟩
      · rw [dl_upd, List.map_append]
        refine dpAll_app (dpAll_same (same_dl sA) hL) (dpAll_one (.tup (SqT.of ((dl_ne n1).trans upd_same)) (.cons (dp_keep (sameT_dl hpd12) hok.nl (dpS1 hz (s11.trans s12))) (.cons (.lst (SqL.of ((dl_ne n2).trans (s12 _ _ hDl))) ?_) .nil))))
        rw [hacc2]
        exact dp_ints
      · intro e he
        rcases List.mem_append.mp he with h | h
        · exact hLo e h
        · rw [List.mem_singleton.mp h]; exact ⟨hok, by show L2.length ≤ 24; omega⟩
    rintro σ' H7 ⟨vs, L, c8, c9, c10,  rfl, s7, hpd7, hL, hLo, hLl⟩
    have hfacts : Dp K H7 (.ref pd) (.list (L.map encFact)) := .lst (SqL.of hpd7) (dpAll_same dl_same hL)
    walk_at "rn"
    rename_i pD hpD
    have hd0 : upd H7 pD (.dK []) pD = some (.dK []) := upd_same
    have t0 := Rd.same_new (o := .dK []) hpD
    have hfacts := dpS1 hfacts t0
    have hs8 := t0.trans (Same.refl _)
    have ls := (ls6.keep s7).keep t0
    clear ls6
    obtain ⟨lsa, lsh, lsf, lse, lsw, lsc⟩ := ls
    have A0 : DpAll K (upd H7 pD (.dK [])) [] [] := .nil
    generalize upd H7 pD (.dK []) = G0 at *
    refine ⟨_, ?u37_ns, _, rfl, ?u37_p0, ?u37_p1, ?u37_p2, fun z0 G1 g0 => ?_⟩
    case u37_p0 => walk_at "pre"
    case u37_p1 => walk_at "pre"
    case u37_p2 => walk_at "pre"
    have A1 := dpAll_app (dpAll_same g0 A0) (dpAll_one (Dp.int z0))
    have hd1 := g0 _ _ hd0
    have ls := (Ls.mk lsa lsh lsf lse lsw lsc).keep g0
    clear lsa lsh lsf lse lsw lsc
    obtain ⟨lsa, lsh, lsf, lse, lsw, lsc⟩ := ls
    walk_at "rn"
    refine lcG (K := K) encRef (fun _ => True) (by omega) ?_ ?_
    · rintro i2 D acc H11 C hi2 s11 hDl hC
      have ls := (Ls.mk lsa lsh lsf lse lsw lsc).keep s11
      clear lsa lsh lsf lse lsw lsc
      obtain ⟨lsa, lsh, lsf, lse, lsw, lsc⟩ := ls
      walk_at "rn"
      refine ⟨_, ?u38_ns, _, rfl, ?u38_p0, ?u38_p1, ?u38_p2, fun z x y H12 s12 hz hzx => ?_⟩
      case u38_p0 => walk_at "pre"
      case u38_p1 => walk_at "pre"
      case u38_p2 => walk_at "pre"
      have hx : Dp K H12 (.ref z) (encRef (x, y)) := .tup (SqT.of hzx) (.cons (.int x) (.cons (.int y) .nil))
      exact hC _ (x, y) _ s12 hx (FrD.of_nl s12 rfl hx) trivial
    rintro D1 acc1 L1 G2 hD1 g1 hDl1 hA1 hO1 hl1
    have hv1 : Dp K G2 (.ref D1) (.list (L1.map encRef)) := .lst (SqL.of hDl1) (dpAll_same dl_same hA1)
    have A2 := dpAll_app (dpAll_same g1 A1) (dpAll_one hv1)
    have hd2 := g1 _ _ hd1
    have ls := (Ls.mk lsa lsh lsf lse lsw lsc).keep g1
    clear lsa lsh lsf lse lsw lsc
    obtain ⟨lsa, lsh, lsf, lse, lsw, lsc⟩ := ls
    walk_at "rn"
    refine lcG (K := K) encRef (fun _ => True) (by omega) ?_ ?_
    · rintro i2 D acc H11 C hi2 s11 hDl hC
      have ls := (Ls.mk lsa lsh lsf lse lsw lsc).keep s11
      clear lsa lsh lsf lse lsw lsc
      obtain ⟨lsa, lsh, lsf, lse, lsw, lsc⟩ := ls
      walk_at "rn"
      refine ⟨_, ?u39_ns, _, rfl, ?u39_p0, ?u39_p1, ?u39_p2, fun z x y H12 s12 hz hzx => ?_⟩
      case u39_p0 => walk_at "pre"
      case u39_p1 => walk_at "pre"
      case u39_p2 => walk_at "pre"
      have hx : Dp K H12 (.ref z) (encRef (x, y)) := .tup (SqT.of hzx) (.cons (.int x) (.cons (.int y) .nil))
      exact hC _ (x, y) _ s12 hx (FrD.of_nl s12 rfl hx) trivial
    rintro D2 acc2 L2 G3 hD2 g2 hDl2 hA2 hO2 hl2
    have hv2 : Dp K G3 (.ref D2) (.list (L2.map encRef)) := .lst (SqL.of hDl2) (dpAll_same dl_same hA2)
    have A3 := dpAll_app (dpAll_same g2 A2) (dpAll_one hv2)
    have hd3 := g2 _ _ hd2
    have ls := (Ls.mk lsa lsh lsf lse lsw lsc).keep g2
    clear lsa lsh lsf lse lsw lsc
    obtain ⟨lsa, lsh, lsf, lse, lsw, lsc⟩ := ls
    walk_at "rn"
    refine lcG (K := K) encRef (fun _ => True) (by omega) ?_ ?_
    · rintro i2 D acc H11 C hi2 s11 hDl hC
      have ls := (Ls.mk lsa lsh lsf lse lsw lsc).keep s11
      clear lsa lsh lsf lse lsw lsc
      obtain ⟨lsa, lsh, lsf, lse, lsw, lsc⟩ := ls
      walk_at "rn"
      refine ⟨_, ?u40_ns, _, rfl, ?u40_p0, ?u40_p1, ?u40_p2, fun z x y H12 s12 hz hzx => ?_⟩
      case u40_p0 => walk_at "pre"
      case u40_p1 => walk_at "pre"
      case u40_p2 => walk_at "pre"
      have hx : Dp K H12 (.ref z) (encRef (x, y)) := .tup (SqT.of hzx) (.cons (.int x) (.cons (.int y) .nil))
      exact hC _ (x, y) _ s12 hx (FrD.of_nl s12 rfl hx) trivial
    rintro D3 acc3 L3 G4 hD3 g3 hDl3 hA3 hO3 hl3
    have hv3 : Dp K G4 (.ref D3) (.list (L3.map encRef)) := .lst (SqL.of hDl3) (dpAll_same dl_same hA3)
    have A4 := dpAll_app (dpAll_same g3 A3) (dpAll_one hv3)
    have hd4 := g3 _ _ hd3
    have ls := (Ls.mk lsa lsh lsf lse lsw lsc).keep g3
    clear lsa lsh lsf lse lsw lsc
    obtain ⟨lsa, lsh, lsf, lse, lsw, lsc⟩ := ls
    walk_at "rn"
    refine lcG (K := K) encO OkO (by omega) ?_ ?_
    · rintro i2 D acc H11 C hi2 s11 hDl hC
      have ls := (Ls.mk lsa lsh lsf lse lsw lsc).keep s11
      clear lsa lsh lsf lse lsw lsc
      obtain ⟨lsa, lsh, lsf, lse, lsw, lsc⟩ := ls
      walk_at "rn"
      refine ⟨_, ?u41_ns, _, _, rfl, ?u41_p0, ?u41_p1, ?u41_p2, fun pq nq H12 s12 hpq hpq2 hnq h3q => ?_⟩
      case u41_p0 => walk_at "pre"
      case u41_p1 => walk_at "pre"
      case u41_p2 => walk_at "pre"
      walk_at "rn"
      refine ⟨_, ?u42_ns, rfl, ?u42_p0, ?u42_p1, ?u42_p2, ?u42_p3, fun z o H13 s13 hz ho hfr => ?_⟩
      case u42_p0 => walk_at "pre"
      case u42_p1 => walk_at "pre"
      case u42_p2 => walk_at "pre"
      case u42_p3 => walk_at "pre"
      exact hC _ o _ (s12.trans s13) hz (fun p l e => hfr p l (s12 _ _ e)) ho
    rintro D4 acc4 L4 G5 hD4 g4 hDl4 hA4 hO4 hl4
    have hv4 : Dp K G5 (.ref D4) (.list (L4.map encO)) := .lst (SqL.of hDl4) (dpAll_same dl_same hA4)
    have A5 := dpAll_app (dpAll_same g4 A4) (dpAll_one hv4)
    have hd5 := g4 _ _ hd4
    have ls := (Ls.mk lsa lsh lsf lse lsw lsc).keep g4
    clear lsa lsh lsf lse lsw lsc
    obtain ⟨lsa, lsh, lsf, lse, lsw, lsc⟩ := ls
    walk_at "rn"
    refine ⟨_, ?u43_ns, _, _, rfl, ?u43_p0, ?u43_p1, ?u43_p2, ?u43_p3, fun D5 xs5 L5 G6 g5 hD5 hDl5 hA5 hO5 hl5 => ?_⟩
    case u43_p0 => walk_at "pre"
    case u43_p1 => walk_at "pre"
    case u43_p2 => walk_at "pre"
    case u43_p3 => walk_at "pre"
    have hv5 : Dp K G6 (.ref D5) (.list (L5.map encR)) := .lst (SqL.of hDl5) hA5
    have A6 := dpAll_app (dpAll_same g5 A5) (dpAll_one hv5)
    have hd6 := g5 _ _ hd5
    have ls := (Ls.mk lsa lsh lsf lse lsw lsc).keep g5
    clear lsa lsh lsf lse lsw lsc
    obtain ⟨lsa, lsh, lsf, lse, lsw, lsc⟩ := ls
    walk_at "rn"
    refine ⟨_, ?u44_ns, _, rfl, ?u44_p0, ?u44_p1, ?u44_p2, fun z6 G7 g6 => ?_⟩
    case u44_p0 => walk_at "pre"
    case u44_p1 => walk_at "pre"
    case u44_p2 => walk_at "pre"
    have A7 := dpAll_app (dpAll_same g6 A6) (dpAll_one (Dp.int z6))
    have hd7 := g6 _ _ hd6
    have ls := (Ls.mk lsa lsh lsf lse lsw lsc).keep g6
    clear lsa lsh lsf lse lsw lsc
    obtain ⟨lsa, lsh, lsf, lse, lsw, lsc⟩ := ls
    walk_at "rn"
    refine ⟨_, ?u45_ns, _, rfl, ?u45_p0, ?u45_p1, ?u45_p2, fun z7 G8 g7 => ?_⟩
    case u45_p0 => walk_at "pre"
    case u45_p1 => walk_at "pre"
    case u45_p2 => walk_at "pre"
    have A8 := dpAll_app (dpAll_same g7 A7) (dpAll_one (Dp.int z7))
    have hd8 := g7 _ _ hd7
    have ls := (Ls.mk lsa lsh lsf lse lsw lsc).keep g7
    clear lsa lsh lsf lse lsw lsc
    obtain ⟨lsa, lsh, lsf, lse, lsw, lsc⟩ := ls
    walk_at "rn"
    refine ⟨_, ?u46_ns, _, rfl, ?u46_p0, ?u46_p1, ?u46_p2, fun z8 G9 g8 => ?_⟩
    case u46_p0 => walk_at "pre"
    case u46_p1 => walk_at "pre"
    case u46_p2 => walk_at "pre"
    have A9 := dpAll_app (dpAll_same g8 A8) (dpAll_one (Dp.int z8))
    have hd9 := g8 _ _ hd8
    have ls := (Ls.mk lsa lsh lsf lse lsw lsc).keep g8
    clear lsa lsh lsf lse lsw lsc
    obtain ⟨lsa, lsh, lsf, lse, lsw, lsc⟩ := ls
    walk_at "rn"
    refine lcG (K := K) encI (fun _ => True) (by omega) ?_ ?_
    · rintro i2 D acc H11 C hi2 s11 hDl hC
      have ls := (Ls.mk lsa lsh lsf lse lsw lsc).keep s11
      clear lsa lsh lsf lse lsw lsc
      obtain ⟨lsa, lsh, lsf, lse, lsw, lsc⟩ := ls
      walk_at "rn"
      refine ⟨_, ?u47_ns, _, rfl, ?u47_p0, ?u47_p1, ?u47_p2, fun z2 H12 s12 => ?_⟩
      case u47_p0 => walk_at "pre"
      case u47_p1 => walk_at "pre"
      case u47_p2 => walk_at "pre"
      exact hC _ z2 _ s12 (.int z2) (FrD.of_nl s12 rfl (.int z2)) trivial
    rintro D9 acc9 L9 G10 hD9 g9 hDl9 hA9 hO9 hl9
    have hv9 : Dp K G10 (.ref D9) (.list (L9.map encI)) := .lst (SqL.of hDl9) (dpAll_same dl_same hA9)
    have A10 := dpAll_app (dpAll_same g9 A9) (dpAll_one hv9)
    have hd10 := g9 _ _ hd9
    have ls := (Ls.mk lsa lsh lsf lse lsw lsc).keep g9
    clear lsa lsh lsf lse lsw lsc
    obtain ⟨lsa, lsh, lsf, lse, lsw, lsc⟩ := ls
    walk_at "rn"
    have hv10 := dpS1 hfacts (g0.trans (g1.trans (g2.trans (g3.trans (g4.trans (g5.trans (g6.trans (g7.trans (g8.trans g9)))))))))
    have A11 := dpAll_app A10 (dpAll_one hv10)
    have hd11 := hd10
    generalize hG11 : G10 = G11 at *
    refine lcG (K := K) (fun d => d) (fun d => OkD 4 d ∧ DdK d) (by omega) ?_ ?_
    · rintro i2 D acc H11 C hi2 s11 hDl hC
      have ls := (Ls.mk lsa lsh lsf lse lsw lsc).keep s11
      clear lsa lsh lsf lse lsw lsc
      obtain ⟨lsa, lsh, lsf, lse, lsw, lsc⟩ := ls
      walk_at "rn"
      refine ⟨_, ?u48_ns, _, rfl, ?u48_p0, ?u48_p1, ?u48_p2, fun z d H12 s12 hz hok hdk => ?_⟩
      case u48_p0 => walk_at "pre"
      case u48_p1 => walk_at "pre"
      case u48_p2 => walk_at "pre"
      exact hC _ d _ s12 hz (FrD.of_nl s12 hok.nl hz) ⟨hok, hdk⟩
    rintro D11 acc11 L11 G12 hD11 g11 hDl11 hA11 hO11 hl11
    have hv11 : Dp K G12 (.ref D11) (.list (L11.map (fun d => d))) := .lst (SqL.of hDl11) (dpAll_same dl_same hA11)
    have A12 := dpAll_app (dpAll_same g11 A11) (dpAll_one hv11)
    have hd12 := g11 _ _ hd11
    have ls := (Ls.mk lsa lsh lsf lse lsw lsc).keep g11
    clear lsa lsh lsf lse lsw lsc
    obtain ⟨lsa, lsh, lsf, lse, lsw, lsc⟩ := ls
    walk_at "rn"
    refine lcG (K := K) encRef (fun _ => True) (by omega) ?_ ?_
    · rintro i2 D acc H11 C hi2 s11 hDl hC
      have ls := (Ls.mk lsa lsh lsf lse lsw lsc).keep s11
      clear lsa lsh lsf lse lsw lsc
      obtain ⟨lsa, lsh, lsf, lse, lsw, lsc⟩ := ls
      walk_at "rn"
      refine ⟨_, ?u49_ns, _, rfl, ?u49_p0, ?u49_p1, ?u49_p2, fun x H12 s12 => ?_⟩
      case u49_p0 => walk_at "pre"
      case u49_p1 => walk_at "pre"
      case u49_p2 => walk_at "pre"
      have lse12 := s12 _ _ lse
      walk_at "rn"
      refine ⟨_, ?u50_ns, _, rfl, ?u50_p0, ?u50_p1, ?u50_p2, fun y H13 s13 => ?_⟩
      case u50_p0 => walk_at "pre"
      case u50_p1 => walk_at "pre"
      case u50_p2 => walk_at "pre"
      walk_at "rn"
      rename_i z hz
      have hx : Dp K (upd H13 z (.tup [.int x, .int y])) (.ref z) (encRef (x, y)) := .tup (SqT.of upd_same) (.cons (.int x) (.cons (.int y) .nil))
      have s14 := (s12.trans s13).trans (Rd.same_new (o := .tup [.int x, .int y]) hz)
      exact hC _ (x, y) _ s14 hx (FrD.of_nl s14 rfl hx) trivial
    rintro D12 acc12 L12 G13 hD12 g12 hDl12 hA12 hO12 hl12
    have hv12 : Dp K G13 (.ref D12) (.list (L12.map encRef)) := .lst (SqL.of hDl12) (dpAll_same dl_same hA12)
    have A13 := dpAll_app (dpAll_same g12 A12) (dpAll_one hv12)
    have hd13 := g12 _ _ hd12
    have ls := (Ls.mk lsa lsh lsf lse lsw lsc).keep g12
    clear lsa lsh lsf lse lsw lsc
    obtain ⟨lsa, lsh, lsf, lse, lsw, lsc⟩ := ls
    walk_at "rn"
    rename_i v13 v13a v13b
    have A14 := dpAll_app A13 (dpAll_one (Dp.bl (K := K) (H := G13) (decide (v13 % 2 = 0))))
    rw [List.map_id'] at A14
    have sG : Same H7 G13 := t0.trans (g0.trans (g1.trans (g2.trans (g3.trans (g4.trans (g5.trans (g6.trans (g7.trans (g8.trans (g9.trans (g11.trans g12)))))))))))
    refine ⟨hd13, (fnames.map Sum.inr).zip [.int z0, .ref D1, .ref D2, .ref D3, .ref D4, .ref D5, .int z6, .int z7, .int z8, .ref D9, .ref pd, .ref D11, .ref D12, .bl (decide (v13 % 2 = 0))], rfl, (show 14 ≤ 15 by decide), ?_⟩
    have hnd : (List.map (fun x : _root_.L2.Key × V => x.1) ([] ++ (fnames.map (Sum.inr : Str → _root_.L2.Key)).zip [V.int z0, .ref D1, .ref D2, .ref D3, .ref D4, .ref D5, .int z6, .int z7, .int z8, .ref D9, .ref pd, .ref D11, .ref D12, .bl (decide (v13 % 2 = 0))])).Nodup := (show (fnames.map (Sum.inr : Str → _root_.L2.Key)).Nodup from List.pairwise_map.mpr (fnames_nd.imp fun h e => h (Sum.inr.inj e)))
    rw [merge_id hnd]
    refine k pD ⟨z0, L1, L2, L3, L4, L5, z6, z7, z8, L9, L, L11, L12, decide (v13 % 2 = 0)⟩ _ ((sH6.trans s7).trans (Rd.same_mut sG hpD)) ((sH6.trans s7).free hpD) ⟨fnames_nd, _, upd_same, ?_⟩ ?_
    · exact dpAll_off hd13 (fun _ e => by cases e) (fun _ e => by cases e) (fun _ _ e => by cases e) A14
    · exact ⟨by show L1.length ≤ 24; omega, by show L2.length ≤ 24; omega, by show L3.length ≤ 24; omega, by show L4.length ≤ 24; omega, by show L5.length ≤ 24; omega, by show L9.length ≤ 24; omega, by show L.length ≤ 24; omega, by show L11.length ≤ 24; omega, by show L12.length ≤ 24; omega, hO4, hO5, hLo, fun d hd => (hO11 d hd).1, fun d hd => (hO11 d hd).2⟩
theorem ok_law_any_fields {f : Addr} {fd : FuncData} (mf : mg "_law_any_fields" = some (.ref f)) (F : FnP K "_law_any_fields" s_law_any_fields f fd) (C_law_stream : Cal P w K mg base "_law_stream" 2 ["script", "k", "many"] (sp_law_stream P w K)) (C_law_any_purpose : Cal P w K mg base "_law_any_purpose" 4 ["numbers", "at"] (sp_law_any_purpose P w K)) (C_law_integer : Cal P w K mg base "_law_integer" 1 ["numbers", "at"] (sp_law_integer P w K)) (C_law_any_pair : Cal P w K mg base "_law_any_pair" 2 ["numbers", "at"] (sp_law_any_pair P w K)) (C_law_any_rows : Cal P w K mg base "_law_any_rows" 5 ["numbers", "at", "many"] (sp_law_any_rows P w K)) (C_law_any_output : Cal P w K mg base "_law_any_output" 6 ["numbers"] (sp_law_any_output P w K)) (C_law_reference : Cal P w K mg base "_law_reference" 2 ["numbers", "at"] (sp_law_reference P w K)) (z_range : mg "range" = none) : Cal P w K mg base "_law_any_fields" 7 ["script", "start"] (sp_law_any_fields P w K) :=
  ⟨f, fd, mf, F.kp, F.bindsN fun _ _ _ _ _ _ us hl => match us, hl with | [_, _], _ => rfl, fn_law_any_fields F C_law_stream C_law_any_purpose C_law_integer C_law_any_pair C_law_any_rows C_law_any_output C_law_reference z_range⟩

theorem step_law_same {f : Addr} {fd : FuncData} (F : FnP K "_law_same" s_law_same f fd) {n : Nat} (C_law_same : Cal P w K mg base "_law_same" (0 + n) ["actual", "expected"] (sp_law_same P w K n))  (z_isinstance : mg "isinstance" = none) (z_tuple : mg "tuple" = none) (z_len : mg "len" = none) (z_range : mg "range" = none) (z_bool : mg "bool" = none) (z_int : mg "int" = none) (z_str : mg "str" = none) : FnOk P w K mg base CX0 (0 + n + 1) f fd ["actual", "expected"] (sp_law_same P w K (n + 1)) := by
  obtain ⟨f_law_same, fd_law_same, m_law_same, k_law_same, b_law_same, G_law_same⟩ := C_law_same.ex
  refine F.ok sc_law_same (fun vs H Q E h => ?_) (fun cdv A outer s H vs Q E hr h => ?_)
  · obtain ⟨x, y, d, rfl, _⟩ := h; rfl
  · obtain ⟨x, y, d, rfl, hx, hy, hg, hl, hn, k⟩ := h
    refine ⟨_, PSs.nox (pss_cons (ps_if (pt_cmpR op_isN (pv 1) pe_non (nomark _)) (pss_one (ps_ret (pe_cmpR op_isN (pv 0) pe_non (nomark _)))) pss_nil)
      (pss_cons (ps_if (pt_val (pe_callB call_isi (by rfl) z_isinstance boot_isinstance (pa_cons (pv 1) (pa_cons (pe_bltn (v := .ty "tuple") (by rfl) z_tuple boot_tuple rfl) pa_nil)))) (pss_cons (ps_if (PW.pt (pw_or (pt_not (pt_val (pe_callB call_isi (by rfl) z_isinstance boot_isinstance (pa_cons (pv 0) (pa_cons (pe_bltn (v := .ty "tuple") (by rfl) z_tuple boot_tuple rfl) pa_nil))))) (pw_or1 (pt_cmpR op_ne (pe_callB call_len_seq (by rfl) z_len boot_len (pa_cons (pv 0) pa_nil)) (pe_callB call_len_seq (by rfl) z_len boot_len (pa_cons (pv 1) pa_nil)) (nomark _))))) (pss_one (ps_ret pe_bl)) pss_nil)
      (pss_cons (ps_for PassesOwn.never rfl (pi_range1 (by rfl) z_range (pa_cons (pe_callB call_len_seq (by rfl) z_len boot_len (pa_cons (pv 1) pa_nil)) pa_nil)) (pg_name (i := 2) sc_law_same.nd rfl (by first | exact Or.inl rfl | exact Or.inr rfl)) (pss_one (ps_if (pt_not (pt_val (pe_call G_law_same (hr.mono (by omega)) (by rfl) m_law_same k_law_same b_law_same .nil pass0 (pa_cons (pe_ix ix_tup (pv 0) (pv 2) (fun _ _ => rfl)) (pa_cons (pe_ix ix_tup (pv 1) (pv 2) (fun _ _ => rfl)) pa_nil))))) (pss_one (ps_ret pe_bl)) pss_nil)))
      (pss_one (ps_ret pe_bl)))) pss_nil)
      (pss_cons (ps_if (pt_val (pe_callB call_isi (by rfl) z_isinstance boot_isinstance (pa_cons (pv 1) (pa_cons (pe_bltn (v := .ty "bool") (by rfl) z_bool boot_bool rfl) pa_nil)))) (pss_one (ps_ret (pe_and (pe_callB call_isi (by rfl) z_isinstance boot_isinstance (pa_cons (pv 0) (pa_cons (pe_bltn (v := .ty "bool") (by rfl) z_bool boot_bool rfl) pa_nil))) (pe_one (pe_cmpR op_eq (pv 0) (pv 1) (nomark _)))))) pss_nil)
      (pss_cons (ps_if (pt_val (pe_callB call_isi (by rfl) z_isinstance boot_isinstance (pa_cons (pv 1) (pa_cons (pe_bltn (v := .ty "int") (by rfl) z_int boot_int rfl) pa_nil)))) (pss_one (ps_ret (pe_and (pe_callB call_isi (by rfl) z_isinstance boot_isinstance (pa_cons (pv 0) (pa_cons (pe_bltn (v := .ty "int") (by rfl) z_int boot_int rfl) pa_nil))) (pe_and (pe_not (pe_callB call_isi (by rfl) z_isinstance boot_isinstance (pa_cons (pv 0) (pa_cons (pe_bltn (v := .ty "bool") (by rfl) z_bool boot_bool rfl) pa_nil)))) (pe_one (pe_cmpR op_eq (pv 0) (pv 1) (nomark _))))))) pss_nil)
      (pss_one (ps_ret (pe_and (pe_callB call_isi (by rfl) z_isinstance boot_isinstance (pa_cons (pv 0) (pa_cons (pe_bltn (v := .ty "str") (by rfl) z_str boot_str rfl) pa_nil))) (pe_one (pe_cmpR op_eq (pv 0) (pv 1) (nomark _)))))))))), ?_⟩
    try simp only [Rd.cxK, Re.cxP, Re.cxW]
    cases d with
    | none =>
      cases hx; cases hy
      walk_at "rd"
      all_goals first | contradiction | exact k
    | list _ => simp [nl] at hg
    | dict _ => simp [nl] at hg
    | bool b =>
      cases hx; cases hy
      walk_at "rd"
      all_goals first | contradiction | simpa using k
    | int i =>
      cases hx; cases hy
      walk_at "rd"
      all_goals first | contradiction | simpa using k
    | str z =>
      cases hx; cases hy
      walk_at "rd"
      all_goals first | contradiction | simpa using k
    | tuple ds =>
      have hgm := nlAll_mem.mp (by simpa only [nl] using hg)
      simp only [sm, Bool.and_eq_true, decide_eq_true_eq] at hl
      obtain ⟨hwl, hsm⟩ := hl
      have hsm := smAll_mem.mp hsm
      simp only [PyData.depth] at hn
      cases hx with
      | tup h1 d1 =>
        cases hy with
        | tup h2 d2 =>
          have e1 := Rd.dpAll_len d1
          have e2 := Rd.dpAll_len d2
          walk_at "rn"
          · exact absurd ‹_› V.noConfusion
          refine Rd.rng1 (fun i σ' H' => ∃ kv, σ' = [some (.ref _), some (.ref _), kv] ∧ H' = H) (by omega) ⟨_, rfl, rfl⟩ ?_ ?_
          · rintro i σ' H' hi ⟨kv, rfl, rfl⟩
            have hi' : i < ds.length := by omega
            obtain ⟨u, hu, du⟩ := Rd.dpAll_get d1 i hi'
            obtain ⟨w, hw, dw⟩ := Rd.dpAll_get d2 i hi'
            have hmem : ds.getD i .none ∈ ds := by rw [List.getD_eq_getElem?_getD, List.getElem?_eq_getElem hi']; exact List.getElem_mem hi'
            have q1 := Rd.depth_get hi'
            walk_at "rn"
            refine Rd.ixT h1 (atI_nat hu) ?_
            walk_at "rn"
            refine Rd.ixT h2 (atI_nat hw) ?_
            walk_at "rn"
            refine ⟨_, _, ds.getD i .none, rfl, du, dw, (hgm _ hmem), (hsm _ hmem), (by omega), ?_⟩
            walk_at "rn"
            exact ⟨_, rfl, rfl⟩
          · rintro σ' H' ⟨kv, rfl, rfl⟩
            walk_at "rn"
            exact k
theorem fn_law_same {f : Addr} {fd : FuncData} (mf : mg "_law_same" = some (.ref f)) (F : FnP K "_law_same" s_law_same f fd)  (z_isinstance : mg "isinstance" = none) (z_tuple : mg "tuple" = none) (z_len : mg "len" = none) (z_range : mg "range" = none) (z_bool : mg "bool" = none) (z_int : mg "int" = none) (z_str : mg "str" = none) : ∀ n : Nat, FnOk P w K mg base CX0 (0 + n) f fd ["actual", "expected"] (sp_law_same P w K n)
  | 0 => Rd.none_left fun vs H Q E h => by obtain ⟨x, y, d, rfl, hx, hy, hg, hl, hn, k⟩ := h; omega
  | n + 1 => step_law_same F ⟨f, fd, mf, F.kp, F.bindsN fun _ _ _ _ _ _ us hl => match us, hl with | [_, _], _ => rfl, fn_law_same mf F z_isinstance z_tuple z_len z_range z_bool z_int z_str n⟩ z_isinstance z_tuple z_len z_range z_bool z_int z_str
theorem ok_law_same {f : Addr} {fd : FuncData} (mf : mg "_law_same" = some (.ref f)) (F : FnP K "_law_same" s_law_same f fd)  (z_isinstance : mg "isinstance" = none) (z_tuple : mg "tuple" = none) (z_len : mg "len" = none) (z_range : mg "range" = none) (z_bool : mg "bool" = none) (z_int : mg "int" = none) (z_str : mg "str" = none) : Cal P w K mg base "_law_same" 8 ["actual", "expected"] (sp_law_same P w K 8) :=
  ⟨f, fd, mf, F.kp, F.bindsN fun _ _ _ _ _ _ us hl => match us, hl with | [_, _], _ => rfl, fn_law_same mf F z_isinstance z_tuple z_len z_range z_bool z_int z_str 8⟩

theorem fn_law {f : Addr} {fd : FuncData} (F : FnP K "law" s_law f fd) (C_law_any_fields : Cal P w K mg base "_law_any_fields" 7 ["script", "start"] (sp_law_any_fields P w K)) (C_law_make : Cal P w K mg base "_law_make" 6 ["fields"] (sp_law_make P w K)) (C_law_stream : Cal P w K mg base "_law_stream" 2 ["script", "k", "many"] (sp_law_stream P w K)) (C_law_weight : Cal P w K mg base "_law_weight" 2 ["fields"] (sp_law_weight P w K)) (C_law_cell : Cal P w K mg base "_law_cell" 1 ["script", "k"] (sp_law_cell P w K)) (C_law_params : Cal P w K mg base "_law_params" 2 ["numbers"] (sp_law_params P w K)) (C_law_made_params : Cal P w K mg base "_law_made_params" 3 ["values"] (sp_law_made_params P w K)) (C_law_normal : Cal P w K mg base "_law_normal" 1 ["rows"] (sp_law_normal P w K)) (C_law_same : Cal P w K mg base "_law_same" 8 ["actual", "expected"] (sp_law_same P w K 8)) (C_least_coin : Cal P w K mg base "least_coin" 1 ["output", "params"] (sp_least_coin P w K)) (C_Output___init : CalM P w K mg base (He.fAd K ("Output", some "__init__")) 4 ["self", "address", "bundle", "datum"] [V.ref (He.dflAt ("Output", some "__init__") 0 K)] (sp_Output___init P w K)) (C_weight : Cal P w K mg base "weight" 2 ["tx"] (sp_weight P w K)) (C_least_fee : Cal P w K mg base "least_fee" 3 ["tx", "steps", "params"] (sp_least_fee P w K)) (C_Transaction_picture : CalM P w K mg base (He.fAd K ("Transaction", some "picture")) 2 ["self"] [] (sp_Transaction_picture P w K)) (C_law_picture : Cal P w K mg base "_law_picture" 2 ["fields"] (sp_law_picture P w K)) (C_law_changed : Cal P w K mg base "_law_changed" 3 ["fields", "numbers"] (sp_law_changed P w K)) (z_int : mg "int" = none) (z_abs : mg "abs" = none) (z_range : mg "range" = none) (z_len : mg "len" = none) (W_Transaction : CF_Transaction K mg) (W_Output : CF_Output K mg) : FnOk P w K mg base CX0 9 f fd ["script"] (sp_law P w K) := by
  obtain ⟨f_law_any_fields, fd_law_any_fields, m_law_any_fields, k_law_any_fields, b_law_any_fields, G_law_any_fields⟩ := C_law_any_fields.ex
  obtain ⟨f_law_make, fd_law_make, m_law_make, k_law_make, b_law_make, G_law_make⟩ := C_law_make.ex
  obtain ⟨f_law_stream, fd_law_stream, m_law_stream, k_law_stream, b_law_stream, G_law_stream⟩ := C_law_stream.ex
  obtain ⟨f_law_weight, fd_law_weight, m_law_weight, k_law_weight, b_law_weight, G_law_weight⟩ := C_law_weight.ex
  obtain ⟨f_law_cell, fd_law_cell, m_law_cell, k_law_cell, b_law_cell, G_law_cell⟩ := C_law_cell.ex
  obtain ⟨f_law_params, fd_law_params, m_law_params, k_law_params, b_law_params, G_law_params⟩ := C_law_params.ex
  obtain ⟨f_law_made_params, fd_law_made_params, m_law_made_params, k_law_made_params, b_law_made_params, G_law_made_params⟩ := C_law_made_params.ex
  obtain ⟨f_law_normal, fd_law_normal, m_law_normal, k_law_normal, b_law_normal, G_law_normal⟩ := C_law_normal.ex
  obtain ⟨f_law_same, fd_law_same, m_law_same, k_law_same, b_law_same, G_law_same⟩ := C_law_same.ex
  obtain ⟨f_least_coin, fd_least_coin, m_least_coin, k_least_coin, b_least_coin, G_least_coin⟩ := C_least_coin.ex
  obtain ⟨fd_Output___init, b_Output___init, G_Output___init, ds_Output___init, dr_Output___init, db_Output___init⟩ := C_Output___init.ex
  obtain ⟨f_weight, fd_weight, m_weight, k_weight, b_weight, G_weight⟩ := C_weight.ex
  obtain ⟨f_least_fee, fd_least_fee, m_least_fee, k_least_fee, b_least_fee, G_least_fee⟩ := C_least_fee.ex
  obtain ⟨fd_Transaction_picture, b_Transaction_picture, G_Transaction_picture, ds_Transaction_picture, dr_Transaction_picture, db_Transaction_picture⟩ := C_Transaction_picture.ex
  obtain ⟨f_law_picture, fd_law_picture, m_law_picture, k_law_picture, b_law_picture, G_law_picture⟩ := C_law_picture.ex
  obtain ⟨f_law_changed, fd_law_changed, m_law_changed, k_law_changed, b_law_changed, G_law_changed⟩ := C_law_changed.ex
  have cf_Transaction := W_Transaction
  have cfc_Transaction := cf_Transaction.cls
  have cfn_Transaction_makes := cf_Transaction.n_makes
  have cf_Output := W_Output
  refine F.ok sc_law (fun vs H Q E h => ?_) (fun cdv A outer s H vs Q E hr h => ?_)
  · obtain ⟨a, ns, rfl, _⟩ := h; rfl
  · obtain ⟨a, ns, rfl, hS, h63, k⟩ := h
    refine ⟨_, PSs.nox (pss_cons (ps_set (i := 1) sc_law.nd rfl (by first | exact Or.inl rfl | exact Or.inr rfl) (pe_call G_law_any_fields (hr.mono (by decide)) (by rfl) m_law_any_fields k_law_any_fields b_law_any_fields .nil pass0 (pa_cons (pv 0) (pa_cons pe_int pa_nil))))
      (pss_cons (ps_set (i := 2) sc_law.nd rfl (by first | exact Or.inl rfl | exact Or.inr rfl) (pe_call G_law_make (hr.mono (by decide)) (by rfl) m_law_make k_law_make b_law_make .nil pass0 (pa_cons (pv 1) pa_nil)))
      (pss_cons (ps_set (i := 3) sc_law.nd rfl (by first | exact Or.inl rfl | exact Or.inr rfl) (pe_call G_law_stream (hr.mono (by decide)) (by rfl) m_law_stream k_law_stream b_law_stream .nil pass0 (pa_cons (pv 0) (pa_cons pe_int (pa_cons pe_int pa_nil)))))
      (pss_cons (ps_set (i := 4) sc_law.nd rfl (by first | exact Or.inl rfl | exact Or.inr rfl) (pe_call G_law_weight (hr.mono (by decide)) (by rfl) m_law_weight k_law_weight b_law_weight .nil pass0 (pa_cons (pv 1) pa_nil)))
      (pss_cons (ps_set (i := 5) sc_law.nd rfl (by first | exact Or.inl rfl | exact Or.inr rfl) (pe_ix ix_list (pe_lst (pa_cons pe_int (pa_cons pe_int (pa_cons pe_int (pa_cons pe_int (pa_cons (pe_ix ix_list (pv 3) pe_int (fun _ _ => rfl)) (pa_cons (pe_op op_add (pe_op op_mul (pe_ix ix_list (pv 3) pe_int (fun _ _ => rfl)) pe_int) (pe_ix ix_list (pv 3) pe_int (fun _ _ => rfl))) pa_nil))))))) (pe_op op_mod (pe_ix ix_list (pv 3) pe_int (fun _ _ => rfl)) pe_int) (fun _ _ => rfl)))
      (pss_cons (ps_if (pt_cmpR op_eq (pe_op op_mod (pe_ix ix_list (pv 3) pe_int (fun _ _ => rfl)) pe_int) pe_int (nomark _)) (pss_one (ps_set (i := 5) sc_law.nd rfl (by first | exact Or.inl rfl | exact Or.inr rfl) (pe_op op_mod (pe_callTy call_int1 (by rfl) z_int boot_int (pa_cons (pe_callB call_abs (by rfl) z_abs boot_abs (pa_cons (pe_call G_law_cell (hr.mono (by decide)) (by rfl) m_law_cell k_law_cell b_law_cell .nil pass0 (pa_cons (pv 0) (pa_cons pe_int pa_nil))) pa_nil)) pa_nil)) (pe_op op_pow pe_int pe_int)))) pss_nil)
      (pss_cons (ps_for PassesOwn.never rfl (pi_list (pe_lst (pa_cons (pe_call G_law_params (hr.mono (by decide)) (by rfl) m_law_params k_law_params b_law_params .nil pass0 (pa_cons (pv 3) pa_nil)) (pa_cons (pe_call G_law_params (hr.mono (by decide)) (by rfl) m_law_params k_law_params b_law_params .nil pass0 (pa_cons (pe_slice sl_list (pv 3) (po_some pe_int) po_none) pa_nil)) (pa_cons (pe_call G_law_params (hr.mono (by decide)) (by rfl) m_law_params k_law_params b_law_params .nil pass0 (pa_cons (pv 3) pa_nil)) pa_nil))))) (pg_name (i := 6) sc_law.nd rfl (by first | exact Or.inl rfl | exact Or.inr rfl)) (pss_cons (ps_set (i := 8) sc_law.nd rfl (by first | exact Or.inl rfl | exact Or.inr rfl) (pe_call G_law_made_params (hr.mono (by decide)) (by rfl) m_law_made_params k_law_made_params b_law_made_params .nil pass0 (pa_cons (pv 6) pa_nil)))
      (pss_cons (ps_for PassesOwn.never rfl (pi_range1 (by rfl) z_range (pa_cons (pe_callB call_len_seq (by rfl) z_len boot_len (pa_cons (L2.pe_dget (hu_of hr) (pv 1) pe_str (fun _ _ => rfl)) pa_nil)) pa_nil)) (pg_name (i := 9) sc_law.nd rfl (by first | exact Or.inl rfl | exact Or.inr rfl)) (pss_cons (ps_asg (pe_ix ix_list (L2.pe_dget (hu_of hr) (pv 1) pe_str (fun _ _ => rfl)) (pv 9) (fun _ _ => rfl)) (pg_tup (n := 3) rfl (pgs_cons (pg_name (i := 11) sc_law.nd rfl (by first | exact Or.inl rfl | exact Or.inr rfl)) (pgs_cons (pg_name (i := 12) sc_law.nd rfl (by first | exact Or.inl rfl | exact Or.inr rfl)) (pgs_cons (pg_name (i := 13) sc_law.nd rfl (by first | exact Or.inl rfl | exact Or.inr rfl)) pgs_nil)))))
      (pss_cons (ps_set (i := 10) sc_law.nd rfl (by first | exact Or.inl rfl | exact Or.inr rfl) (pe_op op_add (pe_op op_add (pe_ix ix_list (pv 6) pe_int (fun _ _ => rfl)) (pe_callB call_len_seq (by rfl) z_len boot_len (pa_cons (pe_call G_law_normal (hr.mono (by decide)) (by rfl) m_law_normal k_law_normal b_law_normal .nil pass0 (pa_cons (pv 12) pa_nil)) pa_nil))) (pe_callB call_len_seq (by rfl) z_len boot_len (pa_cons (pv 13) pa_nil))))
      (pss_cons (ps_if (pt_not (pt_val (pe_call G_law_same (hr.mono (by decide)) (by rfl) m_law_same k_law_same b_law_same .nil pass0 (pa_cons (pe_call G_least_coin (hr.mono (by decide)) (by rfl) m_least_coin k_least_coin b_least_coin .nil pass0 (pa_cons (pe_ix ix_tup (pe_fld (pv 2) rfl) (pv 9) (fun _ _ => rfl)) (pa_cons (pv 8) pa_nil))) (pa_cons (pv 10) pa_nil))))) (pss_one (ps_ret pe_bl)) pss_nil)
      (pss_one (ps_if (pt_not (pt_val (pe_call G_law_same (hr.mono (by decide)) (by rfl) m_law_same k_law_same b_law_same .nil pass0 (pa_cons (pe_call G_least_coin (hr.mono (by decide)) (by rfl) m_least_coin k_least_coin b_least_coin .nil pass0 (pa_cons (pe_make cf_Output.mkr G_Output___init (hr.mono (by decide)) (by rfl) cf_Output.m b_Output___init .nil pass0 (pa_cons (pv 11) (pa_cons (pv 12) (pa_cons (pv 13) pa_nil)))) (pa_cons (pv 8) pa_nil))) (pa_cons (pv 10) pa_nil))))) (pss_one (ps_ret pe_bl)) pss_nil))))))
      (pss_cons (ps_if (pt_not (pt_val (pe_call G_law_same (hr.mono (by decide)) (by rfl) m_law_same k_law_same b_law_same .nil pass0 (pa_cons (pe_call G_weight (hr.mono (by decide)) (by rfl) m_weight k_weight b_weight .nil pass0 (pa_cons (pv 2) pa_nil)) (pa_cons (pv 4) pa_nil))))) (pss_one (ps_ret pe_bl)) pss_nil)
      (pss_cons (ps_if (pt_not (pt_val (pe_call G_law_same (hr.mono (by decide)) (by rfl) m_law_same k_law_same b_law_same .nil pass0 (pa_cons (pe_call G_least_fee (hr.mono (by decide)) (by rfl) m_least_fee k_least_fee b_least_fee .nil pass0 (pa_cons (pv 2) (pa_cons (pv 5) (pa_cons (pv 8) pa_nil)))) (pa_cons (pe_op op_add (pe_op op_add (pe_ix ix_list (pv 6) pe_int (fun _ _ => rfl)) (pe_op op_mul (pe_ix ix_list (pv 6) pe_int (fun _ _ => rfl)) (pv 4))) (pe_op op_fdiv (pe_op op_mul (pe_ix ix_list (pv 6) pe_int (fun _ _ => rfl)) (pv 5)) pe_int)) pa_nil))))) (pss_one (ps_ret pe_bl)) pss_nil)
      (pss_one (ps_if (pt_not (pt_val (pe_call G_law_same (hr.mono (by decide)) (by rfl) m_law_same k_law_same b_law_same .nil pass0 (pa_cons (pe_call G_least_fee (hr.mono (by decide)) (by rfl) m_least_fee k_least_fee b_least_fee .nil pass0 (pa_cons (pv 2) (pa_cons pe_int (pa_cons (pv 8) pa_nil)))) (pa_cons (pe_op op_add (pe_ix ix_list (pv 6) pe_int (fun _ _ => rfl)) (pe_op op_mul (pe_ix ix_list (pv 6) pe_int (fun _ _ => rfl)) (pv 4))) pa_nil))))) (pss_one (ps_ret pe_bl)) pss_nil)))))))
      (pss_cons (ps_if (pt_not (pt_val (pe_call G_law_same (hr.mono (by decide)) (by rfl) m_law_same k_law_same b_law_same .nil pass0 (pa_cons (pe_meth0 (pv 2) cf_Transaction.cls cf_Transaction.mt_picture G_Transaction_picture (hr.mono (by decide)) b_Transaction_picture .nil pass0) (pa_cons (pe_call G_law_picture (hr.mono (by decide)) (by rfl) m_law_picture k_law_picture b_law_picture .nil pass0 (pa_cons (pv 1) pa_nil)) pa_nil))))) (pss_one (ps_ret pe_bl)) pss_nil)
      (pss_cons (ps_set (i := 7) sc_law.nd rfl (by first | exact Or.inl rfl | exact Or.inr rfl) (pe_call G_law_changed (hr.mono (by decide)) (by rfl) m_law_changed k_law_changed b_law_changed .nil pass0 (pa_cons (pv 1) (pa_cons (pv 3) pa_nil))))
      (pss_one (ps_ret (pe_and (pe_call G_law_same (hr.mono (by decide)) (by rfl) m_law_same k_law_same b_law_same .nil pass0 (pa_cons (pe_call G_weight (hr.mono (by decide)) (by rfl) m_weight k_weight b_weight .nil pass0 (pa_cons (pe_call G_law_make (hr.mono (by decide)) (by rfl) m_law_make k_law_make b_law_make .nil pass0 (pa_cons (pv 7) pa_nil)) pa_nil)) (pa_cons (pv 4) pa_nil))) (pe_and (pe_cmpR op_eq (pe_call G_law_weight (hr.mono (by decide)) (by rfl) m_law_weight k_law_weight b_law_weight .nil pass0 (pa_cons (pv 7) pa_nil)) (pv 4) (nomark _)) (pe_one (pe_call G_law_same (hr.mono (by decide)) (by rfl) m_law_same k_law_same b_law_same .nil pass0 (pa_cons (pe_call G_weight (hr.mono (by decide)) (by rfl) m_weight k_weight b_weight .nil pass0 (pa_cons (pv 2) pa_nil)) (pa_cons (pv 4) pa_nil))))))))))))))))), ?_⟩
    try simp only [Rd.cxK, Re.cxP, Re.cxW, lit_15]
    walk_at "rn"
    refine ⟨_, ?u52_ns, _, rfl, ?u52_p0, ?u52_p1, fun f F H1 s1 hfn hF hO => ?_⟩
    case u52_p0 => walk_at "pre"
    case u52_p1 => walk_at "pre"
    replace hS := s1.seq hS
    clear s1
    walk_at "rn"
    refine ⟨_, ?u53_F, rfl, ?u53_p0, ?u53_p1, fun t H2 s2 htn htx => ?_⟩
    case u53_p0 => walk_at "pre"
    case u53_p1 => walk_at "pre"
    replace hS := s2.seq hS
    replace hF := hF.keep s2
    clear s2
    walk_at "rn"
    refine ⟨_, ?u54_ns, _, _, rfl, ?u54_p0, ?u54_p1, ?u54_p2, fun pn nn H3 s3 hpn hpn2 hnn h3n => ?_⟩
    case u54_p0 => walk_at "pre"
    case u54_p1 => walk_at "pre"
    case u54_p2 => walk_at "pre"
    replace hS := s3.seq hS
    replace hF := hF.keep s3
    replace htx := htx.keep s3
    clear s3
    walk_at "rn"
    refine ⟨_, ?u55_F, rfl, ?u55_p0, ?u55_p1, fun H4 s4 => ?_⟩
    case u55_p0 => walk_at "pre"
    case u55_p1 => walk_at "pre"
    replace hS := s4.seq hS
    replace hF := hF.keep s4
    replace htx := htx.keep s4
    replace hpn2 := s4 _ _ hpn2
    clear s4
    have hm4 := hO.l4
    have hm5 := hO.l5
    have hnn6 : nn.length = 60 := hnn
    clear hnn hpn htn hfn
    walk_at "rn"
    rename_i w40 _ _ w40b _ _ w41 _ _ pl hpl v42 v42a v42b
    refine ixAll (fun v => ∃ i : Int, v = .int i) Rd.slL (by omega) (by simp; omega) (by intro v hv; simp only [List.mem_cons, List.not_mem_nil, or_false] at hv; rcases hv with rfl | rfl | rfl | rfl | rfl | rfl <;> exact ⟨_, rfl⟩) ?_
    rintro _ ⟨st0, rfl⟩
    have u0 := Rd.same_new (o := .lst [.int 0, .int 49, .int 50, .int 51, .int w40, .int (w40b * 1000 + w41)]) hpl
    replace hS := u0.seq hS
    replace hF := hF.keep u0
    replace htx := htx.keep u0
    replace hpn2 := u0 _ _ hpn2
    clear u0
    generalize upd H4 pl (.lst [.int 0, .int 49, .int 50, .int 51, .int w40, .int (w40b * 1000 + w41)]) = H5 at *
    walk_at "rnj"
    refine Rd.join (fun σ' H' => ∃ st : Int, ∃ c6 c7 c8 c9 c10 c11 c12 c13,  σ' = [some (.ref a), some (.ref f), some (.ref t), some (.ref pn), some (.int (wt F)), some (.int st), c6, c7, c8, c9, c10, c11, c12, c13] ∧ H5 = H') ?_ ?_
    · intro N hN
      walk_at "rn"
      · refine ⟨_, ?u56_ns, _, rfl, ?u56_p0, ?u56_p1, fun zz => ?_⟩
        case u56_p0 => walk_at "pre"
        case u56_p1 => walk_at "pre"
        walk_at "rn"
        exact hN _ _ ⟨_, _, _, _, _, _, _, _, _,  rfl, rfl⟩
      · exact hN _ _ ⟨_, _, _, _, _, _, _, _, _,  rfl, rfl⟩
    rintro σ' H' ⟨st, c6, c7, c8, c9, c10, c11, c12, c13,  rfl, rfl⟩
    clear st0 v42a v42b
    walk_at "rn"
    refine ⟨_, ?u57_ns, rfl, ?u57_p0, ?u57_p1, ?u57_p2, fun q1 a0 a1 a2 a3 H6 s6 hq1 hq1l hb1 => ?_⟩
    case u57_p0 => walk_at "pre"
    case u57_p1 => walk_at "pre"
    case u57_p2 => walk_at "pre"
    replace hF := hF.keep s6
    replace htx := htx.keep s6
    replace hpn2 := s6 _ _ hpn2
    clear s6 hS hq1
    walk_at "rn"
    rename_i pz hpz
    rw [show cutV (nn.map V.int) (some 24) none = (nn.drop 24).map V.int from (Bd.cut_drop (k := 24) (by rw [List.length_map]; omega)).trans List.map_drop.symm]
    have u1 := Rd.same_new (o := .lst ((nn.drop 24).map V.int)) hpz
    have hpz2 : upd H6 pz (.lst ((nn.drop 24).map V.int)) pz = some (.lst ((nn.drop 24).map V.int)) := upd_same
    replace hF := hF.keep u1
    replace htx := htx.keep u1
    replace hpn2 := u1 _ _ hpn2
    replace hq1l := u1 _ _ hq1l
    generalize upd H6 pz (.lst ((nn.drop 24).map V.int)) = H7 at *
    clear u1
    refine ⟨_, nn.drop 24, rfl, hpz2, (h3n.drop 24), (by rw [List.length_drop]; omega), fun q2 b0 b1 b2 b3 H8 s8 hq2 hq2l hb2 => ?_⟩
    replace hF := hF.keep s8
    replace htx := htx.keep s8
    replace hpn2 := s8 _ _ hpn2
    replace hq1l := s8 _ _ hq1l
    clear s8 hpz2 hq2
    walk_at "rn"
    refine ⟨_, ?u59_ns, rfl, ?u59_p0, ?u59_p1, ?u59_p2, fun q3 c0 c1 c2 c3 H9 s9 hq3 hq3l hb3 => ?_⟩
    case u59_p0 => walk_at "pre"
    case u59_p1 => walk_at "pre"
    case u59_p2 => walk_at "pre"
    replace hF := hF.keep s9
    replace htx := htx.keep s9
    replace hpn2 := s9 _ _ hpn2
    replace hq1l := s9 _ _ hq1l
    replace hq2l := s9 _ _ hq2l
    clear s9 hq3
    walk_at "rn"
    rename_i pv hpv
    have u2 := Rd.same_new (o := .lst [.ref q1, .ref q2, .ref q3]) hpv
    have hpv2 : upd H9 pv (.lst [.ref q1, .ref q2, .ref q3]) pv = some (.lst [.ref q1, .ref q2, .ref q3]) := upd_same
    replace hF := hF.keep u2
    replace htx := htx.keep u2
    replace hpn2 := u2 _ _ hpn2
    replace hq1l := u2 _ _ hq1l
    replace hq2l := u2 _ _ hq2l
    replace hq3l := u2 _ _ hq3l
    generalize upd H9 pv (.lst [.ref q1, .ref q2, .ref q3]) = Hq at *
    clear u2
    have hall : ∀ x ∈ [V.ref q1, .ref q2, .ref q3], ∃ q v0 v1 v2 v3, x = .ref q ∧ Hq q = some (.lst [.int v0, .int v1, .int v2, .int v3]) ∧ (0 ≤ v0 ∧ v0 ≤ 1000 ∧ 0 ≤ v1 ∧ v1 ≤ 1000 ∧ 0 ≤ v2 ∧ v2 ≤ 1000 ∧ 0 ≤ v3 ∧ v3 ≤ 1000) := by
      intro x hx
      simp only [List.mem_cons, List.not_mem_nil, or_false] at hx
      rcases hx with rfl | rfl | rfl
      · exact ⟨_, _, _, _, _, rfl, hq1l, hb1⟩
      · exact ⟨_, _, _, _, _, rfl, hq2l, hb2⟩
      · exact ⟨_, _, _, _, _, rfl, hq3l, hb3⟩
    clear hq1l hq2l hq3l hb1 hb2 hb3
    refine Rd.forL (fun i σ' H' => ∃ (_ : Unit), ∃ c6 c7 c8 c9 c10 c11 c12 c13,  σ' = [some (.ref a), some (.ref f), some (.ref t), some (.ref pn), some (.int (wt F)), some (.int st), c6, c7, c8, c9, c10, c11, c12, c13] ∧ Same Hq H') (SqL.of hpv2) ⟨(), _, _, _, _, _, _, _, _,  rfl, Same.refl Hq⟩ (fun i σ' H' _ ⟨_, c6, c7, c8, c9, c10, c11, c12, c13,  _, h⟩ => h.seq (SqL.of hpv2)) ?_ ?_
    · rintro i x σ' H' hi ⟨_, c6, c7, c8, c9, c10, c11, c12, c13,  rfl, hs⟩
      obtain ⟨q, v0, v1, v2, v3, rfl, hql, hb0⟩ := hall x (List.mem_of_getElem? hi)
      replace hql := hs _ _ hql
      have htxa := htx.keep hs
      walk_at "rn"
      refine ⟨_, ?u60_v0, ?u60_v1, ?u60_v2, ?u60_v3, rfl, ?u60_p0, fun pp Ha sa hpp => ?_⟩
      case u60_p0 => walk_at "pre"
      replace hql := sa _ _ hql
      replace hs := hs.trans sa
      replace htxa := htxa.keep sa
      clear sa
      walk_at "rn"
      refine fdGetS 4 hF hs rfl rfl fun v4 hv4 => ?_
      obtain ⟨z4, us4, rfl, hz4, hd4⟩ := dp_lst hv4
      have hul := Rd.dpAll_len hd4
      rw [List.length_map] at hul
      replace hz4 := hs.seq hz4
      walk_at "rn"
      refine Rd.rng1 (fun j σ' H' => ∃ (_ : Unit), ∃ c7 c9 c10 c11 c12 c13,  σ' = [some (.ref a), some (.ref f), some (.ref t), some (.ref pn), some (.int (wt F)), some (.int st), some (.ref q), c7, some (.ref pp), c9, c10, c11, c12, c13] ∧ Same Ha H') (by omega) ⟨(), _, _, _, _, _, _,  rfl, Same.refl Ha⟩ ?_ ?_
      · rintro j σ' Hb hj ⟨_, c7, c9, c10, c11, c12, c13,  rfl, hs2⟩
        have hj2 : j < F.makes.length := by omega
        have ho := List.getElem?_eq_getElem hj2
        obtain ⟨o, hoe⟩ : ∃ o, o = F.makes[j] := ⟨_, rfl⟩
        rw [← hoe] at ho
        have hoo := hO.makes o (List.mem_of_getElem? ho)
        have hrl := hoo.rl
        have hdl := hoo.dl
        have hqlb := hs2 _ _ hql
        refine Rd.seq (Rb.asgG ?_)
        walk_at "rn"
        refine fdGetS 4 hF (hs.trans hs2) rfl rfl fun v4b hv4b => ?_
        obtain ⟨z4b, us4b, rfl, hz4b, hd4b⟩ := dp_lst hv4b
        have hulb := Rd.dpAll_len hd4b
        rw [List.length_map] at hulb
        walk_at "rn"
        have hx4 := List.getElem?_eq_getElem (show j < us4b.length by omega)
        refine Rd.ixL ((hs.trans hs2).seq hz4b) (atI_nat hx4) ?_
        obtain ⟨d, hd2, hdp⟩ := dpAll_at hd4b hx4
        obtain ⟨o', ho', rfl⟩ := map_at hd2
        rw [ho] at ho'
        cases ho'
        obtain ⟨z, u, v, y, ez, hz, hu, hv, hy⟩ := dp_triple (dpS1 hdp (hs.trans hs2))
        rw [ez]
        obtain ⟨zr, ur, rfl, hzr, hdr⟩ := dp_lst hv
        obtain ⟨zd, ud, rfl, hzd, hdd⟩ := dp_lst hy
        have hui : ud = o.dat.map V.int := dpAll_ints hdd
        subst hui
        refine triple_of hz ?_
        walk_at "rn"
        refine ⟨_, ur, o.rows, rfl, hzr, hdr, hoo.rows, (by omega), fun p ys N Hc sc hp hpy hN nm tt => ?_⟩
        have hNf := nf_is nm tt
        subst hNf
        have hyl := rowsLen hN
        have hzdc := sc.seq hzd
        have hs3 := hs2.trans sc
        have htxc := htxa.keep hs3
        have hppc := hpp.keep hs3
        obtain ⟨tdx, p1, p2, p3, p4, cc, p9, p10, p11, p12, os, hh0, _, _, _, hq4, houts, _⟩ := htxc.ex
        obtain ⟨b, hb, hout⟩ := outs_get houts ho
        walk_at "rn"
        refine Rd.ixT hq4 (atI_nat hb) ?_
        walk_at "rn"
        refine ⟨_, _, o, v0, v1, v2, v3, rfl, hout, hppc, ?_⟩
        walk_at "rn"
        refine ⟨_, _, .int (v3 + ((nf o.rows).length : Int) + (o.dat.length : Int)), rfl, (.int _), (by rw [hyl]; exact .int _), rfl, rfl, (by simp [PyData.depth]), ?_⟩
        clear hout hb houts hq4 hh0
        walk_at "rn"
        refine mkO (dpS1 hu sc) (.inl (.inl (sc.seq hzr))) (dpAll_same sc hdr) (by omega) (.inl hzdc) fun Hd b2 sd hb2 hout2 => ?_
        walk_at "rn"
        refine ⟨_, _, o, v0, v1, v2, v3, rfl, hout2, (hppc.keep sd), ?_⟩
        walk_at "rn"
        refine ⟨_, _, .int (v3 + ((nf o.rows).length : Int) + (o.dat.length : Int)), rfl, (.int _), (by rw [hyl]; exact .int _), rfl, rfl, (by simp [PyData.depth]), ?_⟩
        walk_at "rn"
        exact ⟨(), _, _, _, _, _, _,  rfl, hs3.trans sd⟩
      rintro σ' Hb ⟨_, c7, c9, c10, c11, c12, c13,  rfl, hs2⟩
      have htxb := htxa.keep hs2
      have hqlb := hs2 _ _ hql
      have hppb := hpp.keep hs2
      clear hql htxa hpp hv4 hz4 hd4
      walk_at "rn"
      refine ⟨_, F, rfl, htxb, hO, fun Hc sc => ?_⟩
      walk_at "rn"
      refine ⟨_, _, .int (wt F), rfl, (.int _), (.int _), rfl, rfl, (by simp [PyData.depth]), ?_⟩
      walk_at "rn"
      refine ⟨_, _, F, st, v0, v1, v2, v3, rfl, (htxb.keep sc), hO, (hppb.keep sc), (by omega), fun Hd sd => ?_⟩
      have hqld := sd _ _ (sc _ _ hqlb)
      walk_at "rn"
      refine ⟨_, _, .int (v0 + v1 * wt F + v2 * st / 100), rfl, (.int _), (.int _), rfl, rfl, (by simp [PyData.depth]), ?_⟩
      walk_at "rn"
      refine ⟨_, _, F, 0, v0, v1, v2, v3, rfl, (htxb.keep (sc.trans sd)), hO, (hppb.keep (sc.trans sd)), (by omega), fun He se => ?_⟩
      have hqle := se _ _ hqld
      walk_at "rn"
      refine ⟨_, _, .int (v0 + v1 * wt F), rfl, (by rw [show v2 * 0 / 100 = (0 : Int) from by simp, Int.add_zero]; exact .int _), (.int _), rfl, rfl, (by simp [PyData.depth]), ?_⟩
      walk_at "rn"
      exact ⟨(), _, _, _, _, _, _, _, _,  rfl, hs.trans (hs2.trans (sc.trans (sd.trans se)))⟩
    rintro σ' Hr ⟨_, c6, c7, c8, c9, c10, c11, c12, c13,  rfl, hs⟩
    have htxr := htx.keep hs
    have hFr := hF.keep hs
    have hpnr := hs _ _ hpn2
    obtain ⟨tdx, p1, p2, p3, p4, cc, p9, p10, p11, p12, os, hh0, _⟩ := htxr.ex
    clear htx hF hpn2 hpv2 hall
    walk_at "rn"
    refine ⟨_, F, rfl, htxr, hO, fun p20 Hc sc hpc => ?_⟩
    walk_at "rn"
    refine ⟨_, F, rfl, (hFr.keep sc), hO, fun e Hd sd he => ?_⟩
    have hpl := picD_pl hO
    walk_at "rn"
    refine ⟨_, _, picD F, rfl, (dpS1 hpc sd), he, hpl.nl, hpl.sm, (by have := hpl.dp; omega), ?_⟩
    have scd := sc.trans sd
    clear hpc he
    walk_at "rn"
    refine ⟨_, _, F, nn, rfl, (hFr.keep scd), hO, (scd _ _ hpnr), h3n, hnn6, fun g F2 He se hgn hG hO2 hW => ?_⟩
    walk_at "rn"
    refine ⟨_, F2, rfl, hG, hO2, fun t2 Hf sf htn2 htx2 => ?_⟩
    walk_at "rn"
    refine ⟨_, F2, rfl, htx2, hO2, fun Hg sg => ?_⟩
    walk_at "rn"
    refine ⟨_, _, .int (wt F), rfl, (by rw [hW]; exact .int _), (.int _), rfl, rfl, (by simp [PyData.depth]), ?_⟩
    walk_at "rn"
    refine ⟨_, F2, rfl, (hG.keep (sf.trans sg)), hO2, fun Hh sh => ?_⟩
    rw [hW]
    walk_at "rn"
    refine ⟨_, F, rfl, (htxr.keep (scd.trans (se.trans (sf.trans (sg.trans sh))))), hO, fun Hi si => ?_⟩
    walk_at "rn"
    refine ⟨_, _, .int (wt F), rfl, (.int _), (.int _), rfl, rfl, (by simp [PyData.depth]), ?_⟩
    exact k _
theorem ok_law {f : Addr} {fd : FuncData} (mf : mg "law" = some (.ref f)) (F : FnP K "law" s_law f fd) (C_law_any_fields : Cal P w K mg base "_law_any_fields" 7 ["script", "start"] (sp_law_any_fields P w K)) (C_law_make : Cal P w K mg base "_law_make" 6 ["fields"] (sp_law_make P w K)) (C_law_stream : Cal P w K mg base "_law_stream" 2 ["script", "k", "many"] (sp_law_stream P w K)) (C_law_weight : Cal P w K mg base "_law_weight" 2 ["fields"] (sp_law_weight P w K)) (C_law_cell : Cal P w K mg base "_law_cell" 1 ["script", "k"] (sp_law_cell P w K)) (C_law_params : Cal P w K mg base "_law_params" 2 ["numbers"] (sp_law_params P w K)) (C_law_made_params : Cal P w K mg base "_law_made_params" 3 ["values"] (sp_law_made_params P w K)) (C_law_normal : Cal P w K mg base "_law_normal" 1 ["rows"] (sp_law_normal P w K)) (C_law_same : Cal P w K mg base "_law_same" 8 ["actual", "expected"] (sp_law_same P w K 8)) (C_least_coin : Cal P w K mg base "least_coin" 1 ["output", "params"] (sp_least_coin P w K)) (C_Output___init : CalM P w K mg base (He.fAd K ("Output", some "__init__")) 4 ["self", "address", "bundle", "datum"] [V.ref (He.dflAt ("Output", some "__init__") 0 K)] (sp_Output___init P w K)) (C_weight : Cal P w K mg base "weight" 2 ["tx"] (sp_weight P w K)) (C_least_fee : Cal P w K mg base "least_fee" 3 ["tx", "steps", "params"] (sp_least_fee P w K)) (C_Transaction_picture : CalM P w K mg base (He.fAd K ("Transaction", some "picture")) 2 ["self"] [] (sp_Transaction_picture P w K)) (C_law_picture : Cal P w K mg base "_law_picture" 2 ["fields"] (sp_law_picture P w K)) (C_law_changed : Cal P w K mg base "_law_changed" 3 ["fields", "numbers"] (sp_law_changed P w K)) (z_int : mg "int" = none) (z_abs : mg "abs" = none) (z_range : mg "range" = none) (z_len : mg "len" = none) (W_Transaction : CF_Transaction K mg) (W_Output : CF_Output K mg) : Cal P w K mg base "law" 9 ["script"] (sp_law P w K) :=
  ⟨f, fd, mf, F.kp, F.bindsN fun _ _ _ _ _ _ us hl => match us, hl with | [_], _ => rfl, fn_law F C_law_any_fields C_law_make C_law_stream C_law_weight C_law_cell C_law_params C_law_made_params C_law_normal C_law_same C_least_coin C_Output___init C_weight C_least_fee C_Transaction_picture C_law_picture C_law_changed z_int z_abs z_range z_len W_Transaction W_Output⟩

end
def d_least_coin : He.DefD := ⟨("least_coin", none), "least_coin", "least_coin", defArgs s_least_coin, defBody s_least_coin, defScope s_least_coin, [], []⟩
def d_weight_of_output : He.DefD := ⟨("_weight_of_output", none), "_weight_of_output", "_weight_of_output", defArgs s_weight_of_output, defBody s_weight_of_output, defScope s_weight_of_output, [], []⟩
def d_Bundle___iter : He.DefD := ⟨("Bundle", some "__iter__"), "__iter__", "Bundle.__iter__", defArgs s_Bundle___iter, defBody s_Bundle___iter, defScope s_Bundle___iter, [], []⟩
def d_Output_picture : He.DefD := ⟨("Output", some "picture"), "picture", "Output.picture", defArgs s_Output_picture, defBody s_Output_picture, defScope s_Output_picture, [], []⟩
def d_Params___init : He.DefD := ⟨("Params", some "__init__"), "__init__", "Params.__init__", defArgs s_Params___init, defBody s_Params___init, defScope s_Params___init, [], [("deposit", .int 20), ("fee_base", .int 5), ("fee_weight", .int 1), ("fee_step", .int 2), ("pledge_rate", .int 150), ("coin_base", .int 2), ("epoch_length", .int 10), ("share", .int 50), ("depth", .int 4), ("most_steps", .int 20000)]⟩
def d_law_cell : He.DefD := ⟨("_law_cell", none), "_law_cell", "_law_cell", defArgs s_law_cell, defBody s_law_cell, defScope s_law_cell, [], []⟩
def d_law_numbers : He.DefD := ⟨("_law_numbers", none), "_law_numbers", "_law_numbers", defArgs s_law_numbers, defBody s_law_numbers, defScope s_law_numbers, [], []⟩
def d_law_between : He.DefD := ⟨("_law_between", none), "_law_between", "_law_between", defArgs s_law_between, defBody s_law_between, defScope s_law_between, [], []⟩
def d_law_char : He.DefD := ⟨("_law_char", none), "_law_char", "_law_char", defArgs s_law_char, defBody s_law_char, defScope s_law_char, [], []⟩
def d_law_normal : He.DefD := ⟨("_law_normal", none), "_law_normal", "_law_normal", defArgs s_law_normal, defBody s_law_normal, defScope s_law_normal, [], []⟩
def d_law_integer : He.DefD := ⟨("_law_integer", none), "_law_integer", "_law_integer", defArgs s_law_integer, defBody s_law_integer, defScope s_law_integer, [], []⟩
def d_weight : He.DefD := ⟨("weight", none), "weight", "weight", defArgs s_weight, defBody s_weight, defScope s_weight, [], []⟩
def d_Bundle___init : He.DefD := ⟨("Bundle", some "__init__"), "__init__", "Bundle.__init__", defArgs s_Bundle___init, defBody s_Bundle___init, defScope s_Bundle___init, [.adr (He.dflAt ("Bundle", some "__init__") 0)], []⟩
def d_Transaction_picture : He.DefD := ⟨("Transaction", some "picture"), "picture", "Transaction.picture", defArgs s_Transaction_picture, defBody s_Transaction_picture, defScope s_Transaction_picture, [], []⟩
def d_law_stream : He.DefD := ⟨("_law_stream", none), "_law_stream", "_law_stream", defArgs s_law_stream, defBody s_law_stream, defScope s_law_stream, [], []⟩
def d_law_text : He.DefD := ⟨("_law_text", none), "_law_text", "_law_text", defArgs s_law_text, defBody s_law_text, defScope s_law_text, [], []⟩
def d_law_reference : He.DefD := ⟨("_law_reference", none), "_law_reference", "_law_reference", defArgs s_law_reference, defBody s_law_reference, defScope s_law_reference, [], []⟩
def d_law_any_pair : He.DefD := ⟨("_law_any_pair", none), "_law_any_pair", "_law_any_pair", defArgs s_law_any_pair, defBody s_law_any_pair, defScope s_law_any_pair, [], []⟩
def d_law_picture : He.DefD := ⟨("_law_picture", none), "_law_picture", "_law_picture", defArgs s_law_picture, defBody s_law_picture, defScope s_law_picture, [], []⟩
def d_law_params : He.DefD := ⟨("_law_params", none), "_law_params", "_law_params", defArgs s_law_params, defBody s_law_params, defScope s_law_params, [], []⟩
def d_law_weight : He.DefD := ⟨("_law_weight", none), "_law_weight", "_law_weight", defArgs s_law_weight, defBody s_law_weight, defScope s_law_weight, [], []⟩
def d_law_grown : He.DefD := ⟨("_law_grown", none), "_law_grown", "_law_grown", defArgs s_law_grown, defBody s_law_grown, defScope s_law_grown, [], []⟩
def d_least_fee : He.DefD := ⟨("least_fee", none), "least_fee", "least_fee", defArgs s_least_fee, defBody s_least_fee, defScope s_least_fee, [], []⟩
def d_law_any_text : He.DefD := ⟨("_law_any_text", none), "_law_any_text", "_law_any_text", defArgs s_law_any_text, defBody s_law_any_text, defScope s_law_any_text, [], []⟩
def d_law_made_params : He.DefD := ⟨("_law_made_params", none), "_law_made_params", "_law_made_params", defArgs s_law_made_params, defBody s_law_made_params, defScope s_law_made_params, [], []⟩
def d_law_changed : He.DefD := ⟨("_law_changed", none), "_law_changed", "_law_changed", defArgs s_law_changed, defBody s_law_changed, defScope s_law_changed, [], []⟩
def d_Output___init : He.DefD := ⟨("Output", some "__init__"), "__init__", "Output.__init__", defArgs s_Output___init, defBody s_Output___init, defScope s_Output___init, [.adr (He.dflAt ("Output", some "__init__") 0)], []⟩
def d_Transaction___init : He.DefD := ⟨("Transaction", some "__init__"), "__init__", "Transaction.__init__", defArgs s_Transaction___init, defBody s_Transaction___init, defScope s_Transaction___init, [], [("looks", .adr (Kw.kdAt ("Transaction", some "__init__") "looks")), ("pledge", .adr (Kw.kdAt ("Transaction", some "__init__") "pledge")), ("mint", .adr (Kw.kdAt ("Transaction", some "__init__") "mint")), ("begins", .int 0), ("ends", .int 1000000000), ("signers", .adr (Kw.kdAt ("Transaction", some "__init__") "signers")), ("data", .adr (Kw.kdAt ("Transaction", some "__init__") "data")), ("deeds", .adr (Kw.kdAt ("Transaction", some "__init__") "deeds")), ("draws", .adr (Kw.kdAt ("Transaction", some "__init__") "draws")), ("approved", .bl true)]⟩
def d_law_any_asset : He.DefD := ⟨("_law_any_asset", none), "_law_any_asset", "_law_any_asset", defArgs s_law_any_asset, defBody s_law_any_asset, defScope s_law_any_asset, [], []⟩
def d_law_any_purpose : He.DefD := ⟨("_law_any_purpose", none), "_law_any_purpose", "_law_any_purpose", defArgs s_law_any_purpose, defBody s_law_any_purpose, defScope s_law_any_purpose, [], []⟩
def d_law_any_rows : He.DefD := ⟨("_law_any_rows", none), "_law_any_rows", "_law_any_rows", defArgs s_law_any_rows, defBody s_law_any_rows, defScope s_law_any_rows, [], []⟩
def d_law_any_output : He.DefD := ⟨("_law_any_output", none), "_law_any_output", "_law_any_output", defArgs s_law_any_output, defBody s_law_any_output, defScope s_law_any_output, [], []⟩
def d_law_make : He.DefD := ⟨("_law_make", none), "_law_make", "_law_make", defArgs s_law_make, defBody s_law_make, defScope s_law_make, [], []⟩
def d_law_any_fields : He.DefD := ⟨("_law_any_fields", none), "_law_any_fields", "_law_any_fields", defArgs s_law_any_fields, defBody s_law_any_fields, defScope s_law_any_fields, [], []⟩
def d_law_same : He.DefD := ⟨("_law_same", none), "_law_same", "_law_same", defArgs s_law_same, defBody s_law_same, defScope s_law_same, [], []⟩
def d_law : He.DefD := ⟨("law", none), "law", "law", defArgs s_law, defBody s_law, defScope s_law, [], []⟩
def fn : List He.DefD := [d_least_coin, d_weight_of_output, d_Bundle___iter, d_Output_picture, d_Params___init, d_law_cell, d_law_numbers, d_law_between, d_law_char, d_law_normal, d_law_integer, d_weight, d_Bundle___init, d_Transaction_picture, d_law_stream, d_law_text, d_law_reference, d_law_any_pair, d_law_picture, d_law_params, d_law_weight, d_law_grown, d_least_fee, d_law_any_text, d_law_made_params, d_law_changed, d_Output___init, d_Transaction___init, d_law_any_asset, d_law_any_purpose, d_law_any_rows, d_law_any_output, d_law_make, d_law_any_fields, d_law_same, d_law]
def fa : List He.Fa := [.glo "least_coin", .glo "_weight_of_output", .glo "_law_cell", .glo "_law_numbers", .glo "_law_between", .glo "_law_char", .glo "_law_normal", .glo "_law_integer", .glo "weight", .glo "_law_stream", .glo "_law_text", .glo "_law_reference", .glo "_law_any_pair", .glo "_law_picture", .glo "_law_params", .glo "_law_weight", .glo "_law_grown", .glo "least_fee", .glo "_law_any_text", .glo "_law_made_params", .glo "_law_changed", .glo "_law_any_asset", .glo "_law_any_purpose", .glo "_law_any_rows", .glo "_law_any_output", .glo "_law_make", .glo "_law_any_fields", .glo "_law_same", .glo "law", .free "abs", .free "bool", .free "enumerate", .free "int", .free "isinstance", .free "iter", .free "len", .free "list", .free "max", .free "min", .free "range", .free "sorted", .free "str", .free "sum", .free "tuple", .cls "Bundle", .glo "Bundle", .mkr "Bundle", .meth "Bundle" "__iter__", .noat "Bundle" "_quantities", .noat "Bundle" "rows", .cls "Output", .glo "Output", .mkr "Output", .meth "Output" "picture", .noat "Output" "address", .noat "Output" "bundle", .noat "Output" "datum", .cls "Params", .glo "Params", .mkr "Params", .noat "Params" "coin_base", .noat "Params" "deposit", .noat "Params" "depth", .noat "Params" "epoch_length", .noat "Params" "fee_base", .noat "Params" "fee_step", .noat "Params" "fee_weight", .noat "Params" "most_steps", .noat "Params" "pledge_rate", .noat "Params" "share", .cls "Transaction", .glo "Transaction", .mkr "Transaction", .meth "Transaction" "picture", .noat "Transaction" "approved", .noat "Transaction" "begins", .noat "Transaction" "data", .noat "Transaction" "deeds", .noat "Transaction" "draws", .noat "Transaction" "ends", .noat "Transaction" "fee", .noat "Transaction" "looks", .noat "Transaction" "makes", .noat "Transaction" "mint", .noat "Transaction" "number", .noat "Transaction" "pledge", .noat "Transaction" "signers", .noat "Transaction" "spends"]
abbrev R : PySem.W.OpenRow := PySem.W.OpenLaw.row PySem.Challenge.rw_keptcoin_k38_weight_and_fees
def ex (K : PySem.W.Frag) : Bool := true
abbrev hk : PySem.W.Hook := He.hookX 5 fa fn [] [] ex
def ob (s : PySem.W.SharedT) : He.AlX := He.obsX 5 fa fn [] [] ex (HandSHeadRun.getT s)
theorem ob_eq (s : PySem.W.SharedT) : ob s = hk.obs s.abs := He.obsX_eq (HandSHeadRun.getT_eq s)
theorem run (w : World) : HandSHeadRun.RunEq R (PySem.W.view R.prog [42]) hk ob 20000 [("_wall" : PySem.Str), ("least_coin" : PySem.Str), ("weight" : PySem.Str), ("_weight_of_output" : PySem.Str), ("least_fee" : PySem.Str), ("COIN" : PySem.Str), ("Bundle" : PySem.Str), ("Output" : PySem.Str), ("Params" : PySem.Str), ("LAST_SLOT" : PySem.Str), ("Transaction" : PySem.Str), ("_law_cell" : PySem.Str), ("_law_numbers" : PySem.Str), ("_law_stream" : PySem.Str), ("_law_count" : PySem.Str), ("_law_between" : PySem.Str), ("_law_char" : PySem.Str), ("_law_text" : PySem.Str), ("_law_same" : PySem.Str), ("_law_normal" : PySem.Str), ("_law_integer" : PySem.Str), ("_law_reference" : PySem.Str), ("_law_any_text" : PySem.Str), ("_law_any_asset" : PySem.Str), ("_law_any_rows" : PySem.Str), ("_law_any_output" : PySem.Str), ("_law_any_purpose" : PySem.Str), ("_law_any_pair" : PySem.Str), ("_law_any_fields" : PySem.Str), ("_law_picture" : PySem.Str), ("_law_make" : PySem.Str), ("_law_params" : PySem.Str), ("_law_made_params" : PySem.Str), ("_law_weight" : PySem.Str), ("_law_grown" : PySem.Str), ("_law_changed" : PySem.Str)] w := by
  intro os
  kernel_rfl
theorem facts {P : Program} {w : World} {K : PySem.W.Frag} {h : Heap} {mg : Str → Option Value} {f : Addr} (X : K.In h) (G : h.Ns mainGlobals mg) (hfa : mg ("law" : Str) = some (.ref f)) (cx : ex K = true) (c : He.SaysD fa fn K) :
    ∃ fd : FuncData, (∀ (s : Shared) (v : Value), BindsTo s fd ⟨[v], []⟩ [("script", v)]) ∧ ∀ base : Heap, K.In base → base.Ns mainGlobals mg → FnOk P w K mg base CX0 9 f fd ["script"] (sp_law P w K) := by
  obtain ⟨fd_least_coin, F_least_coin⟩ := c.def_ 0 (d := d_least_coin) rfl
  have m_least_coin := He.glo_ok X G (c.fact 0 (f := .glo "least_coin") rfl)
  obtain ⟨fd_weight_of_output, F_weight_of_output⟩ := c.def_ 1 (d := d_weight_of_output) rfl
  have m_weight_of_output := He.glo_ok X G (c.fact 1 (f := .glo "_weight_of_output") rfl)
  obtain ⟨fd_Bundle___iter, F_Bundle___iter⟩ := c.def_ 2 (d := d_Bundle___iter) rfl
  obtain ⟨fd_Output_picture, F_Output_picture⟩ := c.def_ 3 (d := d_Output_picture) rfl
  obtain ⟨fd_Params___init, F_Params___init⟩ := c.def_ 4 (d := d_Params___init) rfl
  obtain ⟨fd_law_cell, F_law_cell⟩ := c.def_ 5 (d := d_law_cell) rfl
  have m_law_cell := He.glo_ok X G (c.fact 2 (f := .glo "_law_cell") rfl)
  obtain ⟨fd_law_numbers, F_law_numbers⟩ := c.def_ 6 (d := d_law_numbers) rfl
  have m_law_numbers := He.glo_ok X G (c.fact 3 (f := .glo "_law_numbers") rfl)
  obtain ⟨fd_law_between, F_law_between⟩ := c.def_ 7 (d := d_law_between) rfl
  have m_law_between := He.glo_ok X G (c.fact 4 (f := .glo "_law_between") rfl)
  obtain ⟨fd_law_char, F_law_char⟩ := c.def_ 8 (d := d_law_char) rfl
  have m_law_char := He.glo_ok X G (c.fact 5 (f := .glo "_law_char") rfl)
  obtain ⟨fd_law_normal, F_law_normal⟩ := c.def_ 9 (d := d_law_normal) rfl
  have m_law_normal := He.glo_ok X G (c.fact 6 (f := .glo "_law_normal") rfl)
  obtain ⟨fd_law_integer, F_law_integer⟩ := c.def_ 10 (d := d_law_integer) rfl
  have m_law_integer := He.glo_ok X G (c.fact 7 (f := .glo "_law_integer") rfl)
  obtain ⟨fd_weight, F_weight⟩ := c.def_ 11 (d := d_weight) rfl
  have m_weight := He.glo_ok X G (c.fact 8 (f := .glo "weight") rfl)
  obtain ⟨fd_Bundle___init, F_Bundle___init⟩ := c.def_ 12 (d := d_Bundle___init) rfl
  obtain ⟨fd_Transaction_picture, F_Transaction_picture⟩ := c.def_ 13 (d := d_Transaction_picture) rfl
  obtain ⟨fd_law_stream, F_law_stream⟩ := c.def_ 14 (d := d_law_stream) rfl
  have m_law_stream := He.glo_ok X G (c.fact 9 (f := .glo "_law_stream") rfl)
  obtain ⟨fd_law_text, F_law_text⟩ := c.def_ 15 (d := d_law_text) rfl
  have m_law_text := He.glo_ok X G (c.fact 10 (f := .glo "_law_text") rfl)
  obtain ⟨fd_law_reference, F_law_reference⟩ := c.def_ 16 (d := d_law_reference) rfl
  have m_law_reference := He.glo_ok X G (c.fact 11 (f := .glo "_law_reference") rfl)
  obtain ⟨fd_law_any_pair, F_law_any_pair⟩ := c.def_ 17 (d := d_law_any_pair) rfl
  have m_law_any_pair := He.glo_ok X G (c.fact 12 (f := .glo "_law_any_pair") rfl)
  obtain ⟨fd_law_picture, F_law_picture⟩ := c.def_ 18 (d := d_law_picture) rfl
  have m_law_picture := He.glo_ok X G (c.fact 13 (f := .glo "_law_picture") rfl)
  obtain ⟨fd_law_params, F_law_params⟩ := c.def_ 19 (d := d_law_params) rfl
  have m_law_params := He.glo_ok X G (c.fact 14 (f := .glo "_law_params") rfl)
  obtain ⟨fd_law_weight, F_law_weight⟩ := c.def_ 20 (d := d_law_weight) rfl
  have m_law_weight := He.glo_ok X G (c.fact 15 (f := .glo "_law_weight") rfl)
  obtain ⟨fd_law_grown, F_law_grown⟩ := c.def_ 21 (d := d_law_grown) rfl
  have m_law_grown := He.glo_ok X G (c.fact 16 (f := .glo "_law_grown") rfl)
  obtain ⟨fd_least_fee, F_least_fee⟩ := c.def_ 22 (d := d_least_fee) rfl
  have m_least_fee := He.glo_ok X G (c.fact 17 (f := .glo "least_fee") rfl)
  obtain ⟨fd_law_any_text, F_law_any_text⟩ := c.def_ 23 (d := d_law_any_text) rfl
  have m_law_any_text := He.glo_ok X G (c.fact 18 (f := .glo "_law_any_text") rfl)
  obtain ⟨fd_law_made_params, F_law_made_params⟩ := c.def_ 24 (d := d_law_made_params) rfl
  have m_law_made_params := He.glo_ok X G (c.fact 19 (f := .glo "_law_made_params") rfl)
  obtain ⟨fd_law_changed, F_law_changed⟩ := c.def_ 25 (d := d_law_changed) rfl
  have m_law_changed := He.glo_ok X G (c.fact 20 (f := .glo "_law_changed") rfl)
  obtain ⟨fd_Output___init, F_Output___init⟩ := c.def_ 26 (d := d_Output___init) rfl
  obtain ⟨fd_Transaction___init, F_Transaction___init⟩ := c.def_ 27 (d := d_Transaction___init) rfl
  obtain ⟨fd_law_any_asset, F_law_any_asset⟩ := c.def_ 28 (d := d_law_any_asset) rfl
  have m_law_any_asset := He.glo_ok X G (c.fact 21 (f := .glo "_law_any_asset") rfl)
  obtain ⟨fd_law_any_purpose, F_law_any_purpose⟩ := c.def_ 29 (d := d_law_any_purpose) rfl
  have m_law_any_purpose := He.glo_ok X G (c.fact 22 (f := .glo "_law_any_purpose") rfl)
  obtain ⟨fd_law_any_rows, F_law_any_rows⟩ := c.def_ 30 (d := d_law_any_rows) rfl
  have m_law_any_rows := He.glo_ok X G (c.fact 23 (f := .glo "_law_any_rows") rfl)
  obtain ⟨fd_law_any_output, F_law_any_output⟩ := c.def_ 31 (d := d_law_any_output) rfl
  have m_law_any_output := He.glo_ok X G (c.fact 24 (f := .glo "_law_any_output") rfl)
  obtain ⟨fd_law_make, F_law_make⟩ := c.def_ 32 (d := d_law_make) rfl
  have m_law_make := He.glo_ok X G (c.fact 25 (f := .glo "_law_make") rfl)
  obtain ⟨fd_law_any_fields, F_law_any_fields⟩ := c.def_ 33 (d := d_law_any_fields) rfl
  have m_law_any_fields := He.glo_ok X G (c.fact 26 (f := .glo "_law_any_fields") rfl)
  obtain ⟨fd_law_same, F_law_same⟩ := c.def_ 34 (d := d_law_same) rfl
  have m_law_same := He.glo_ok X G (c.fact 27 (f := .glo "_law_same") rfl)
  obtain ⟨fd_law, F_law⟩ := c.def_ 35 (d := d_law) rfl
  have m_law := He.glo_ok X G (c.fact 28 (f := .glo "law") rfl)
  have z_abs := He.free_ok X G (c.fact 29 (f := .free "abs") rfl)
  have z_bool := He.free_ok X G (c.fact 30 (f := .free "bool") rfl)
  have z_enumerate := He.free_ok X G (c.fact 31 (f := .free "enumerate") rfl)
  have z_int := He.free_ok X G (c.fact 32 (f := .free "int") rfl)
  have z_isinstance := He.free_ok X G (c.fact 33 (f := .free "isinstance") rfl)
  have z_iter := He.free_ok X G (c.fact 34 (f := .free "iter") rfl)
  have z_len := He.free_ok X G (c.fact 35 (f := .free "len") rfl)
  have z_list := He.free_ok X G (c.fact 36 (f := .free "list") rfl)
  have z_max := He.free_ok X G (c.fact 37 (f := .free "max") rfl)
  have z_min := He.free_ok X G (c.fact 38 (f := .free "min") rfl)
  have z_range := He.free_ok X G (c.fact 39 (f := .free "range") rfl)
  have z_sorted := He.free_ok X G (c.fact 40 (f := .free "sorted") rfl)
  have z_str := He.free_ok X G (c.fact 41 (f := .free "str") rfl)
  have z_sum := He.free_ok X G (c.fact 42 (f := .free "sum") rfl)
  have z_tuple := He.free_ok X G (c.fact 43 (f := .free "tuple") rfl)
  have W_Bundle : CF_Bundle K mg := ⟨He.cls_ok (c.fact 44 (f := .cls "Bundle") rfl), He.glo_ok X G (c.fact 45 (f := .glo "Bundle") rfl), He.mkr_ok (c.fact 46 (f := .mkr "Bundle") rfl), He.meth_ok (c.fact 47 (f := .meth "Bundle" "__iter__") rfl), He.noat_ok (c.fact 48 (f := .noat "Bundle" "_quantities") rfl), He.noat_ok (c.fact 49 (f := .noat "Bundle" "rows") rfl)⟩
  have W_Output : CF_Output K mg := ⟨He.cls_ok (c.fact 50 (f := .cls "Output") rfl), He.glo_ok X G (c.fact 51 (f := .glo "Output") rfl), He.mkr_ok (c.fact 52 (f := .mkr "Output") rfl), He.meth_ok (c.fact 53 (f := .meth "Output" "picture") rfl), He.noat_ok (c.fact 54 (f := .noat "Output" "address") rfl), He.noat_ok (c.fact 55 (f := .noat "Output" "bundle") rfl), He.noat_ok (c.fact 56 (f := .noat "Output" "datum") rfl)⟩
  have W_Params : CF_Params K mg := ⟨He.cls_ok (c.fact 57 (f := .cls "Params") rfl), He.glo_ok X G (c.fact 58 (f := .glo "Params") rfl), He.mkr_ok (c.fact 59 (f := .mkr "Params") rfl), He.noat_ok (c.fact 60 (f := .noat "Params" "coin_base") rfl), He.noat_ok (c.fact 61 (f := .noat "Params" "deposit") rfl), He.noat_ok (c.fact 62 (f := .noat "Params" "depth") rfl), He.noat_ok (c.fact 63 (f := .noat "Params" "epoch_length") rfl), He.noat_ok (c.fact 64 (f := .noat "Params" "fee_base") rfl), He.noat_ok (c.fact 65 (f := .noat "Params" "fee_step") rfl), He.noat_ok (c.fact 66 (f := .noat "Params" "fee_weight") rfl), He.noat_ok (c.fact 67 (f := .noat "Params" "most_steps") rfl), He.noat_ok (c.fact 68 (f := .noat "Params" "pledge_rate") rfl), He.noat_ok (c.fact 69 (f := .noat "Params" "share") rfl)⟩
  have W_Transaction : CF_Transaction K mg := ⟨He.cls_ok (c.fact 70 (f := .cls "Transaction") rfl), He.glo_ok X G (c.fact 71 (f := .glo "Transaction") rfl), He.mkr_ok (c.fact 72 (f := .mkr "Transaction") rfl), He.meth_ok (c.fact 73 (f := .meth "Transaction" "picture") rfl), He.noat_ok (c.fact 74 (f := .noat "Transaction" "approved") rfl), He.noat_ok (c.fact 75 (f := .noat "Transaction" "begins") rfl), He.noat_ok (c.fact 76 (f := .noat "Transaction" "data") rfl), He.noat_ok (c.fact 77 (f := .noat "Transaction" "deeds") rfl), He.noat_ok (c.fact 78 (f := .noat "Transaction" "draws") rfl), He.noat_ok (c.fact 79 (f := .noat "Transaction" "ends") rfl), He.noat_ok (c.fact 80 (f := .noat "Transaction" "fee") rfl), He.noat_ok (c.fact 81 (f := .noat "Transaction" "looks") rfl), He.noat_ok (c.fact 82 (f := .noat "Transaction" "makes") rfl), He.noat_ok (c.fact 83 (f := .noat "Transaction" "mint") rfl), He.noat_ok (c.fact 84 (f := .noat "Transaction" "number") rfl), He.noat_ok (c.fact 85 (f := .noat "Transaction" "pledge") rfl), He.noat_ok (c.fact 86 (f := .noat "Transaction" "signers") rfl), He.noat_ok (c.fact 87 (f := .noat "Transaction" "spends") rfl)⟩
  have e := hfa.symm.trans m_law
  cases e
  have b := FunD.bindsA (ps := ["script"]) F_law fun _ _ _ _ _ _ us hl => match us, hl with | [_], _ => rfl
  refine ⟨fd_law, fun s v => b s [v] rfl, fun base _ _ => ?_⟩
  have C_least_coin := ok_least_coin (P := P) (w := w) (mg := mg) (base := base) m_least_coin F_least_coin z_len W_Params W_Bundle W_Output
  have C_weight_of_output := ok_weight_of_output (P := P) (w := w) (mg := mg) (base := base) m_weight_of_output F_weight_of_output z_len W_Output W_Bundle
  have C_Bundle___iter := ok_Bundle___iter (P := P) (w := w) (mg := mg) (base := base) F_Bundle___iter z_iter W_Bundle
  have C_Output_picture := ok_Output_picture (P := P) (w := w) (mg := mg) (base := base) F_Output_picture W_Output W_Bundle
  have C_Params___init := ok_Params___init (P := P) (w := w) (mg := mg) (base := base) F_Params___init W_Params
  have C_law_cell := ok_law_cell (P := P) (w := w) (mg := mg) (base := base) m_law_cell F_law_cell z_len
  have C_law_numbers := ok_law_numbers (P := P) (w := w) (mg := mg) (base := base) m_law_numbers F_law_numbers z_abs z_range z_int
  have C_law_between := ok_law_between (P := P) (w := w) (mg := mg) (base := base) m_law_between F_law_between z_int z_len z_range z_min
  have C_law_char := ok_law_char (P := P) (w := w) (mg := mg) (base := base) m_law_char F_law_char z_int
  have C_law_normal := ok_law_normal (P := P) (w := w) (mg := mg) (base := base) m_law_normal F_law_normal z_sorted z_sum z_tuple
  have C_law_integer := ok_law_integer (P := P) (w := w) (mg := mg) (base := base) m_law_integer F_law_integer z_int z_len z_range
  have C_weight := ok_weight (P := P) (w := w) (mg := mg) (base := base) m_weight F_weight C_weight_of_output z_len z_sum W_Transaction W_Bundle
  have C_Bundle___init := ok_Bundle___init (P := P) (w := w) (mg := mg) (base := base) F_Bundle___init C_Bundle___iter z_sorted z_tuple W_Bundle
  have C_Transaction_picture := ok_Transaction_picture (P := P) (w := w) (mg := mg) (base := base) F_Transaction_picture C_Output_picture z_tuple W_Output W_Transaction W_Bundle
  have C_law_stream := ok_law_stream (P := P) (w := w) (mg := mg) (base := base) m_law_stream F_law_stream C_law_numbers C_law_cell z_len z_int z_abs
  have C_law_text := ok_law_text (P := P) (w := w) (mg := mg) (base := base) m_law_text F_law_text C_law_char z_int z_len z_max z_min
  have C_law_reference := ok_law_reference (P := P) (w := w) (mg := mg) (base := base) m_law_reference F_law_reference C_law_integer
  have C_law_any_pair := ok_law_any_pair (P := P) (w := w) (mg := mg) (base := base) m_law_any_pair F_law_any_pair C_law_integer z_int z_len
  have C_law_picture := ok_law_picture (P := P) (w := w) (mg := mg) (base := base) m_law_picture F_law_picture C_law_normal z_tuple
  have C_law_params := ok_law_params (P := P) (w := w) (mg := mg) (base := base) m_law_params F_law_params C_law_between z_range z_max
  have C_law_weight := ok_law_weight (P := P) (w := w) (mg := mg) (base := base) m_law_weight F_law_weight C_law_normal z_len
  have C_law_grown := ok_law_grown (P := P) (w := w) (mg := mg) (base := base) m_law_grown F_law_grown C_law_normal
  have C_least_fee := ok_least_fee (P := P) (w := w) (mg := mg) (base := base) m_least_fee F_least_fee C_weight W_Params
  have C_law_any_text := ok_law_any_text (P := P) (w := w) (mg := mg) (base := base) m_law_any_text F_law_any_text C_law_text z_int z_len
  have C_law_made_params := ok_law_made_params (P := P) (w := w) (mg := mg) (base := base) m_law_made_params F_law_made_params C_Params___init W_Params
  have C_law_changed := ok_law_changed (P := P) (w := w) (mg := mg) (base := base) m_law_changed F_law_changed C_law_grown z_enumerate z_range
  have C_Output___init := ok_Output___init (P := P) (w := w) (mg := mg) (base := base) F_Output___init C_Bundle___init z_tuple W_Output W_Bundle
  have C_Transaction___init := ok_Transaction___init (P := P) (w := w) (mg := mg) (base := base) F_Transaction___init C_Bundle___init z_tuple W_Transaction W_Bundle
  have C_law_any_asset := ok_law_any_asset (P := P) (w := w) (mg := mg) (base := base) m_law_any_asset F_law_any_asset C_law_any_text C_law_integer z_int z_len z_abs
  have C_law_any_purpose := ok_law_any_purpose (P := P) (w := w) (mg := mg) (base := base) m_law_any_purpose F_law_any_purpose C_law_reference C_law_any_text z_int z_len
  have C_law_any_rows := ok_law_any_rows (P := P) (w := w) (mg := mg) (base := base) m_law_any_rows F_law_any_rows C_law_any_asset C_law_integer z_range
  have C_law_any_output := ok_law_any_output (P := P) (w := w) (mg := mg) (base := base) m_law_any_output F_law_any_output C_law_integer C_law_any_text C_law_any_rows z_range
  have C_law_make := ok_law_make (P := P) (w := w) (mg := mg) (base := base) m_law_make F_law_make C_Output___init C_Transaction___init z_list W_Output W_Transaction
  have C_law_any_fields := ok_law_any_fields (P := P) (w := w) (mg := mg) (base := base) m_law_any_fields F_law_any_fields C_law_stream C_law_any_purpose C_law_integer C_law_any_pair C_law_any_rows C_law_any_output C_law_reference z_range
  have C_law_same := ok_law_same (P := P) (w := w) (mg := mg) (base := base) m_law_same F_law_same z_isinstance z_tuple z_len z_range z_bool z_int z_str
  exact fn_law (P := P) (w := w) (mg := mg) (base := base) F_law C_law_any_fields C_law_make C_law_stream C_law_weight C_law_cell C_law_params C_law_made_params C_law_normal C_law_same C_least_coin C_Output___init C_weight C_least_fee C_Transaction_picture C_law_picture C_law_changed z_int z_abs z_range z_len W_Transaction W_Output
end NK38
open PySem PySem.W PySem.Calls PyProof.Rows
set_option maxRecDepth 100000 in
set_option maxHeartbeats 0 in
theorem PySem.Challenge.cw_keptcoin_k38_weight_and_fees_holds : PySem.Challenge.rw_keptcoin_k38_weight_and_fees.Holds := by
  w_on; o_law
  refine HandSHeadRun.head_any (r := OpenLaw.row PySem.Challenge.rw_keptcoin_k38_weight_and_fees) (q := view (OpenLaw.row PySem.Challenge.rw_keptcoin_k38_weight_and_fees).prog [42]) (H := NK38.hk) (ob := NK38.ob) (M := 20000) (loose := [("_wall" : PySem.Str), ("least_coin" : PySem.Str), ("weight" : PySem.Str), ("_weight_of_output" : PySem.Str), ("least_fee" : PySem.Str), ("COIN" : PySem.Str), ("Bundle" : PySem.Str), ("Output" : PySem.Str), ("Params" : PySem.Str), ("LAST_SLOT" : PySem.Str), ("Transaction" : PySem.Str), ("_law_cell" : PySem.Str), ("_law_numbers" : PySem.Str), ("_law_stream" : PySem.Str), ("_law_count" : PySem.Str), ("_law_between" : PySem.Str), ("_law_char" : PySem.Str), ("_law_text" : PySem.Str), ("_law_same" : PySem.Str), ("_law_normal" : PySem.Str), ("_law_integer" : PySem.Str), ("_law_reference" : PySem.Str), ("_law_any_text" : PySem.Str), ("_law_any_asset" : PySem.Str), ("_law_any_rows" : PySem.Str), ("_law_any_output" : PySem.Str), ("_law_any_purpose" : PySem.Str), ("_law_any_pair" : PySem.Str), ("_law_any_fields" : PySem.Str), ("_law_picture" : PySem.Str), ("_law_make" : PySem.Str), ("_law_params" : PySem.Str), ("_law_made_params" : PySem.Str), ("_law_weight" : PySem.Str), ("_law_grown" : PySem.Str), ("_law_changed" : PySem.Str)]) (d := HandSHeadRun.topDef (OpenLaw.row PySem.Challenge.rw_keptcoin_k38_weight_and_fees).prog 42) (kwd := []) NK38.ob_eq
    (by kernel_rfl) (fun s => by kernel_rfl) NK38.run (by kernel_rfl) (by kernel_rfl) (by kernel_rfl) (by rfl) (by first | assumption | decide +kernel) (by decide +kernel) ⟨rfl, rfl, rfl, rfl, rfl, by decide +kernel⟩ ?hw ?hc
  case hw => w_witness2
  case hc =>
    refine L2.walk_ofE (l := PySem.Challenge.rw_keptcoin_k38_weight_and_fees) (n := 63) (k := 9) (x := "script") (CX := L2.CX0) rfl (by decide) (by kernel_rfl) ⟨rfl, by decide, by decide⟩ ?F (fun _ _ _ _ z => z)
    intro w mg fa h Y G hmg0
    obtain ⟨K, KX, c⟩ := Y
    have hmg : mg ("law" : PySem.Str) = some (.ref fa) := by
      have e : (HandSHeadRun.topDef (OpenLaw.row PySem.Challenge.rw_keptcoin_k38_weight_and_fees).prog 42).name = ("law" : PySem.Str) := by kernel_rfl
      rw [← e]
      exact hmg0
    obtain ⟨fd, hb, hF⟩ := NK38.facts (P := (PySem.Challenge.rw_keptcoin_k38_weight_and_fees).prog) (w := w) KX G hmg c.more c.t.d
    exact ⟨K, fd, NK38.sp_law (PySem.Challenge.rw_keptcoin_k38_weight_and_fees).prog w K, KX, hb, fun H a ns hl _ hS => ⟨a, ns, rfl, hS, hl, fun _ => rfl⟩, hF⟩


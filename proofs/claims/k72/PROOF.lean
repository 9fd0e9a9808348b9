import PyProof.Rows.All
import Wide.All
import OpenK.AllK
import Wide.FinOn
import KE.KStateDown
import HandS.Base
import HandS.Call
import HandS.List
import HandS.Comp
import HandS.Ends
import HandS.Dict
import HandS.Iter
import HandS.Text
import HandS.More
import HandS.Words
import HandS.WordsList
import HandS.WordsExc
import HandS.Defaults
import HandS.Wide
import HandS.IsInst
import HandS.Flow
import HandS.TupAny
import HandS.Head0
import HandS.Head1
import HandS.Head2
import HandS.HeadEnd
import HandS.HeadHook1
import HandS.HeadHook2
import HandS.HeadHook3
import HandS.HeadHook4
import HandS.Style
import HandS.Steps
import KE.KOpsOwn
import HandS.OwnEq
import HandS.SortOrd
import HandS.DictTup
import HandS.DictComp
import HandS.Conv
import PyProof.TupleOfGen
import HandS.Deep
import PyProof.InstNe
import HandS.Codes
import KE.KOwnIter
import HandS.IterVal
import KE.KTupTruth
import PyProof.Rows.Range3
import HandS.ClsMeth
import HandS.HeadNt
import HandS.Property
import HandS.FStr
import HandS.EndBits
import HandS.WideBits
import PySem.Challenge.RW_keptcoin_k72_notation
set_option Elab.async false
set_option linter.all false
set_option maxRecDepth 100000
/-! Reading rules: each reading of the hand layer as one step towards what follows. -/
namespace Rd
open PySem PySem.Spec PyProof.Rows L2

/-! ### heaps -/
theorem same_new {H : Hp} {p : Addr} {o : HO} (h : H p = none) : Same H (upd H p o) := fun b x e => by
  rw [upd_ne (ne_of_none e h)]
  exact e
/-- an object that H does not know may change -/
theorem same_mut {H H' : Hp} {p : Addr} {o : HO} (e : Same H H') (h : H p = none) : Same H (upd H' p o) := fun a u ha => by
  rw [upd_ne (ne_of_none ha h)]
  exact e a u ha
theorem same_tup {K : PySem.W.Frag} {H H' : Hp} {a : Addr} {xs : List V} (e : Same H H') (h : SqT K H a xs) : SqT K H' a xs := by
  rcases h with (h | ⟨o, h⟩) | h
  · exact .inl (.inl (e _ _ h))
  · exact .inl (.inr ⟨o, e _ _ h⟩)
  · exact .inr h
theorem nl {K : PySem.W.Frag} {H : Hp} {p a : Addr} {o : HO} {xs : List V} (hp : H p = none) (h : SqL K H a xs) : SqL K (upd H p o) a xs := (same_new hp).seq h
theorem nt {K : PySem.W.Frag} {H : Hp} {p a : Addr} {o : HO} {xs : List V} (hp : H p = none) (h : SqT K H a xs) : SqT K (upd H p o) a xs := same_tup (same_new hp) h
theorem nh {H : Hp} {p a : Addr} {o u : HO} (hp : H p = none) (h : H a = some u) : upd H p o a = some u := same_new hp _ _ h
theorem slT {K : PySem.W.Frag} {H : Hp} {p : Addr} {xs : List V} : SqT K (upd H p (.tup xs)) p xs := SqT.of upd_same
theorem slL {K : PySem.W.Frag} {H : Hp} {p : Addr} {xs : List V} : SqL K (upd H p (.lst xs)) p xs := SqL.of upd_same
theorem small {n : Nat} (h : n ≤ 100000) : n ≤ sizeLine := Nat.le_trans h (by decide)
theorem smallT {n : Nat} (h : n < 100000) : n < sizeLine := Nat.lt_of_lt_of_le h (by decide)

theorem ul {K : PySem.W.Frag} {H : Hp} {p a : Addr} {o : HO} {xs : List V} (hp : a ≠ p) (h : SqL K H a xs) : SqL K (upd H p o) a xs := by
  rcases h with (h | ⟨u, h⟩) | h
  · exact .inl (.inl ((upd_ne hp).trans h))
  · exact .inl (.inr ⟨u, (upd_ne hp).trans h⟩)
  · exact .inr h
theorem ut {K : PySem.W.Frag} {H : Hp} {p a : Addr} {o : HO} {xs : List V} (hp : a ≠ p) (h : SqT K H a xs) : SqT K (upd H p o) a xs := by
  rcases h with (h | ⟨u, h⟩) | h
  · exact .inl (.inl ((upd_ne hp).trans h))
  · exact .inl (.inr ⟨u, (upd_ne hp).trans h⟩)
  · exact .inr h
theorem uh {H : Hp} {p a : Addr} {o u : HO} (hp : a ≠ p) (h : H a = some u) : upd H p o a = some u := (upd_ne hp).trans h
/-! ### expressions -/
section
variable {σ : L2.St} {H : Hp} {Q : VK} {ta tb te tc : TE} {K : PySem.W.Frag}
theorem var {i : Nat} {v : V} (h : σ[i]? = some (some v)) (k : Q v H) : tVar i σ H Q := ⟨v, h, k⟩
theorem cst {v : V} (k : Q v H) : tC v σ H Q := k
theorem op {r : R2} (k : ta σ H fun x H1 => tb σ H1 fun y H2 => r x y H2 Q) : tOp r ta tb σ H Q := k
theorem un {r : V → Hp → VK → Prop} (k : ta σ H fun x H1 => r x H1 Q) : tUn r ta σ H Q := k
theorem opI0 {g : Int → Int → V} {i j : Int} (k : Q (g i j) H) : rI0 g (.int i) (.int j) H Q := ⟨i, j, rfl, rfl, k⟩
theorem opI {C : Int → Int → Prop} {g : Int → Int → V} {i j : Int} (c : C i j) (k : Q (g i j) H) : rI C g (.int i) (.int j) H Q := ⟨i, j, rfl, rfl, c, k⟩
theorem opU {g : Int → V} {i : Int} (k : Q (g i) H) : rU g (.int i) H Q := ⟨i, rfl, k⟩
theorem eqI {i j : Int} (k : Q (.bl (decide (i = j))) H) : rEq (.int i) (.int j) H Q := ⟨rfl, by
  have e : decide (V.int i = V.int j) = decide (i = j) := by simp
  rw [e]; exact k⟩
theorem neI {i j : Int} (k : Q (.bl (!decide (i = j))) H) : rNe (.int i) (.int j) H Q := ⟨rfl, by
  have e : decide (V.int i = V.int j) = decide (i = j) := by simp
  rw [e]; exact k⟩
theorem eqS {i j : Str} (k : Q (.bl (decide (i = j))) H) : rEq (.str i) (.str j) H Q := ⟨rfl, by
  have e : decide (V.str i = V.str j) = decide (i = j) := by simp
  rw [e]; exact k⟩
theorem neS {i j : Str} (k : Q (.bl (!decide (i = j))) H) : rNe (.str i) (.str j) H Q := ⟨rfl, by
  have e : decide (V.str i = V.str j) = decide (i = j) := by simp
  rw [e]; exact k⟩
theorem eqB {i j : Bool} (k : Q (.bl (decide (i = j))) H) : rEq (.bl i) (.bl j) H Q := ⟨rfl, by
  have e : decide (V.bl i = V.bl j) = decide (i = j) := by simp
  rw [e]; exact k⟩
theorem neB {i j : Bool} (k : Q (.bl (!decide (i = j))) H) : rNe (.bl i) (.bl j) H Q := ⟨rfl, by
  have e : decide (V.bl i = V.bl j) = decide (i = j) := by simp
  rw [e]; exact k⟩
theorem chain {r r' : R2} (k : ta σ H fun x H1 => tb σ H1 fun y H2 => r x y H2 fun z H3 => ∃ k, z = .bl k ∧ (if k = true then tc σ H3 fun w' H4 => r' y w' H4 Q else Q (.bl false) H3)) : tChain r r' ta tb tc σ H Q := k
theorem bl {b : Bool} {P : Bool → Prop} (k : P b) : ∃ c, V.bl b = V.bl c ∧ P c := ⟨b, rfl, k⟩
theorem andV (k : ta σ H fun x H1 => ∃ c, x = .bl c ∧ if c = true then tb σ H1 Q else Q (.bl false) H1) : tAndV ta tb σ H Q := k
theorem orV (k : ta σ H fun x H1 => ∃ c, x = .bl c ∧ if c = true then Q (.bl true) H1 else tb σ H1 Q) : tOrV ta tb σ H Q := k
theorem notV (k : ta σ H fun x H1 => ∃ c, x = .bl c ∧ Q (.bl (!c)) H1) : tNotV ta σ H Q := k
theorem ifE {t : TT} (k : t σ H fun c H1 => if c = true then ta σ H1 Q else tb σ H1 Q) : tIf t ta tb σ H Q := k
theorem nil {Q : List V → Hp → Prop} (k : Q [] H) : tNil σ H Q := k
theorem cons {tr : TA} {Q : List V → Hp → Prop} (k : ta σ H fun x H1 => tr σ H1 fun xs H2 => Q (x :: xs) H2) : tCons ta tr σ H Q := k
theorem callN {sp : Sp} {E : XK} {t : TA} (k : t σ H fun vs H1 => sp vs H1 Q E) : tCall sp [] E t σ H Q := by
  unfold tCall
  simp only [List.append_nil]
  exact k
theorem cb {r : List V → Hp → VK → Prop} {t : TA} (k : t σ H fun vs H1 => r vs H1 Q) : tCB r t σ H Q := k
theorem tup {t : TA} (k : t σ H fun xs H1 => xs.length ≤ sizeLine ∧ ∀ p, H1 p = none → Q (.ref p) (upd H1 p (.tup xs))) : tTup t σ H Q := k
theorem lst {t : TA} (k : t σ H fun xs H1 => xs.length ≤ sizeLine ∧ ∀ p, H1 p = none → Q (.ref p) (upd H1 p (.lst xs))) : tLst t σ H Q := k
theorem ixL {p : Addr} {xs : List V} {i : Int} {v : V} (h : SqL K H p xs) (a : atI xs i = some v) (k : Q v H) : rIxL K (.ref p) (.int i) H Q := ⟨p, xs, i, v, rfl, rfl, h, a, k⟩
theorem ixT {p : Addr} {xs : List V} {i : Int} {v : V} (h : SqT K H p xs) (a : atI xs i = some v) (k : Q v H) : rIxT K (.ref p) (.int i) H Q := ⟨p, xs, i, v, rfl, rfl, h, a, k⟩
theorem sl {r : V → Option Int → Option Int → Hp → VK → Prop} {tl th : TO} (k : te σ H fun x H1 => tl σ H1 fun lo H2 => th σ H2 fun hi H3 => r x lo hi H3 Q) : tSl r te tl th σ H Q := k
/-! built-ins whose readings are written out: each by a name -/
def LenK (K : PySem.W.Frag) (xs : List V) (H : Hp) (Q : VK) : Prop := ∃ p ys, xs = [.ref p] ∧ (SqL K H p ys ∨ SqT K H p ys) ∧ Q (.int ys.length) H
def LenSK (xs : List V) (H : Hp) (Q : VK) : Prop := ∃ z : Str, xs = [.str z] ∧ z.length ≤ sizeLine ∧ Q (.int z.length) H
def IntK (xs : List V) (H : Hp) (Q : VK) : Prop := (∃ i, xs = [.int i] ∧ Q (.int i) H) ∨ ∃ k, xs = [.bl k] ∧ Q (.int (if k then 1 else 0)) H
def AbsK (xs : List V) (H : Hp) (Q : VK) : Prop := ∃ i, xs = [.int i] ∧ Q (.int (if i < 0 then -i else i)) H
def StrIK (xs : List V) (H : Hp) (Q : VK) : Prop := ∃ i, xs = [.int i] ∧ i.natAbs.log2 < 1920 ∧ Q (.str (toString i)) H
def LstK (K : PySem.W.Frag) (xs : List V) (H : Hp) (Q : VK) : Prop := ∃ p ys, xs = [.ref p] ∧ (SqL K H p ys ∨ SqT K H p ys) ∧ ∀ l, H l = none → Q (.ref l) (upd H l (.lst ys))
def TupK (K : PySem.W.Frag) (xs : List V) (H : Hp) (Q : VK) : Prop := ∃ p ys, xs = [.ref p] ∧ ((SqL K H p ys ∧ ∀ l, H l = none → Q (.ref l) (upd H l (.tup ys))) ∨ (SqT K H p ys ∧ Q (.ref p) H))
def Max2K (xs : List V) (H : Hp) (Q : VK) : Prop := ∃ i j, xs = [.int i, .int j] ∧ Q (.int (if j > i then j else i)) H
def Min2K (xs : List V) (H : Hp) (Q : VK) : Prop := ∃ i j, xs = [.int i, .int j] ∧ Q (.int (if j < i then j else i)) H
theorem cbLen {t : TA} (k : t σ H fun vs H1 => LenK K vs H1 Q) : tCB (fun xs H Q => ∃ p ys, xs = [V.ref p] ∧ (SqL K H p ys ∨ SqT K H p ys) ∧ Q (.int ys.length) H) t σ H Q := k
theorem cbLenS {t : TA} (k : t σ H fun vs H1 => LenSK vs H1 Q) : tCB (fun xs H Q => ∃ z, xs = [V.str z] ∧ z.length ≤ sizeLine ∧ Q (.int z.length) H) t σ H Q := k
theorem cbInt {t : TA} (k : t σ H fun vs H1 => IntK vs H1 Q) : tCB (fun xs H Q => (∃ i, xs = [V.int i] ∧ Q (.int i) H) ∨ ∃ k, xs = [V.bl k] ∧ Q (.int (if k then 1 else 0)) H) t σ H Q := k
theorem cbAbs {t : TA} (k : t σ H fun vs H1 => AbsK vs H1 Q) : tCB (fun xs H Q => ∃ i, xs = [V.int i] ∧ Q (.int (if i < 0 then -i else i)) H) t σ H Q := k
theorem cbStrI {t : TA} (k : t σ H fun vs H1 => StrIK vs H1 Q) : tCB (fun xs H Q => ∃ i, xs = [V.int i] ∧ i.natAbs.log2 < 1920 ∧ Q (.str (toString i)) H) t σ H Q := k
theorem cbLst {t : TA} (k : t σ H fun vs H1 => LstK K vs H1 Q) : tCB (fun xs H Q => ∃ p ys, xs = [V.ref p] ∧ (SqL K H p ys ∨ SqT K H p ys) ∧ ∀ l, H l = none → Q (.ref l) (upd H l (.lst ys))) t σ H Q := k
theorem cbTup {t : TA} (k : t σ H fun vs H1 => TupK K vs H1 Q) : tCB (fun xs H Q => ∃ p ys, xs = [V.ref p] ∧ ((SqL K H p ys ∧ ∀ l, H l = none → Q (.ref l) (upd H l (.tup ys))) ∨ (SqT K H p ys ∧ Q (.ref p) H))) t σ H Q := k
theorem cbMax2 {t : TA} (k : t σ H fun vs H1 => Max2K vs H1 Q) : tCB (fun xs H Q => ∃ i j, xs = [V.int i, V.int j] ∧ Q (.int (if j > i then j else i)) H) t σ H Q := k
theorem cbMin2 {t : TA} (k : t σ H fun vs H1 => Min2K vs H1 Q) : tCB (fun xs H Q => ∃ i j, xs = [V.int i, V.int j] ∧ Q (.int (if j < i then j else i)) H) t σ H Q := k
def IsNK (x y : V) (H : Hp) (Q : VK) : Prop := y = .non ∧ Q (.bl (decide (x = .non))) H
def NotNK (x y : V) (H : Hp) (Q : VK) : Prop := y = .non ∧ Q (.bl (!decide (x = .non))) H
def AddSK (x y : V) (H : Hp) (Q : VK) : Prop := ∃ i j, x = .str i ∧ y = .str j ∧ i.length + j.length ≤ sizeLine ∧ Q (.str (i ++ j)) H
theorem opIsN (k : ta σ H fun x H1 => tb σ H1 fun y H2 => IsNK x y H2 Q) : tOp (fun x y H Q => y = V.non ∧ Q (.bl (decide (x = .non))) H) ta tb σ H Q := k
theorem opNotN (k : ta σ H fun x H1 => tb σ H1 fun y H2 => NotNK x y H2 Q) : tOp (fun x y H Q => y = V.non ∧ Q (.bl (!decide (x = .non))) H) ta tb σ H Q := k
theorem opAddS (k : ta σ H fun x H1 => tb σ H1 fun y H2 => AddSK x y H2 Q) : tOp (fun x y H Q => ∃ i j, x = V.str i ∧ y = V.str j ∧ i.length + j.length ≤ sizeLine ∧ Q (.str (i ++ j)) H) ta tb σ H Q := k
theorem addS {i j : Str} (h : i.length + j.length ≤ 100000) (k : Q (.str (i ++ j)) H) : AddSK (.str i) (.str j) H Q := ⟨i, j, rfl, rfl, small h, k⟩
theorem isN' {x : V} (k : Q (.bl (decide (x = .non))) H) : IsNK x .non H Q := ⟨rfl, k⟩
theorem notN' {x : V} (k : Q (.bl (!decide (x = .non))) H) : NotNK x .non H Q := ⟨rfl, k⟩
theorem lenS {z : Str} (h : z.length ≤ 100000) (k : Q (.int z.length) H) : LenSK [.str z] H Q := ⟨z, rfl, small h, k⟩
theorem intB {b : Bool} (k : Q (.int (if b then 1 else 0)) H) : IntK [.bl b] H Q := .inr ⟨b, rfl, k⟩
theorem lstL {p : Addr} {ys : List V} (h : SqL K H p ys) (k : ∀ l, H l = none → Q (.ref l) (upd H l (.lst ys))) : LstK K [.ref p] H Q := ⟨p, ys, rfl, .inl h, k⟩
theorem lstT {p : Addr} {ys : List V} (h : SqT K H p ys) (k : ∀ l, H l = none → Q (.ref l) (upd H l (.lst ys))) : LstK K [.ref p] H Q := ⟨p, ys, rfl, .inr h, k⟩
theorem tupL {p : Addr} {ys : List V} (h : SqL K H p ys) (k : ∀ l, H l = none → Q (.ref l) (upd H l (.tup ys))) : TupK K [.ref p] H Q := ⟨p, ys, rfl, .inl ⟨h, k⟩⟩
theorem tupT {p : Addr} {ys : List V} (h : SqT K H p ys) (k : Q (.ref p) H) : TupK K [.ref p] H Q := ⟨p, ys, rfl, .inr ⟨h, k⟩⟩
theorem max2 {i j : Int} (k : ∀ z : Int, i ≤ z → j ≤ z → (z = i ∨ z = j) → Q (.int z) H) : Max2K [.int i, .int j] H Q := ⟨i, j, rfl, k _ (by split <;> omega) (by split <;> omega) (by split <;> omega)⟩
theorem min2 {i j : Int} (k : ∀ z : Int, z ≤ i → z ≤ j → (z = i ∨ z = j) → Q (.int z) H) : Min2K [.int i, .int j] H Q := ⟨i, j, rfl, k _ (by split <;> omega) (by split <;> omega) (by split <;> omega)⟩
theorem lenL {p : Addr} {ys : List V} {n : Nat} (h : SqL K H p ys) (e : ys.length = n) (k : Q (.int n) H) : LenK K [.ref p] H Q := ⟨p, ys, rfl, .inl h, by rw [e]; exact k⟩
theorem lenT {p : Addr} {ys : List V} {n : Nat} (h : SqT K H p ys) (e : ys.length = n) (k : Q (.int n) H) : LenK K [.ref p] H Q := ⟨p, ys, rfl, .inr h, by rw [e]; exact k⟩
theorem int1 {i : Int} (k : Q (.int i) H) : IntK [.int i] H Q := .inl ⟨i, rfl, k⟩
theorem abs1 {i : Int} (k : ∀ z : Int, 0 ≤ z → (z = i ∨ z = -i) → Q (.int z) H) : AbsK [.int i] H Q := ⟨i, rfl, k _ (by split <;> omega) (by split <;> omega)⟩
theorem len {xs : List V} {P : Prop} (h : xs.length ≤ 100000) (k : P) : xs.length ≤ sizeLine ∧ P := ⟨small h, k⟩
theorem pw {a e z : Int} (c : CPow a e) (h : a ^ e.toNat = z) (k : Q (.int z) H) : rI CPow (fun i j => .int (i ^ j.toNat)) (.int a) (.int e) H Q := ⟨a, e, rfl, rfl, c, by subst h; exact k⟩
theorem isi {x c : V} {t u : Value} {b : Bool} (hc : ClsV c u) (ht : TyX K H x t) (e : PySem.W.kitOne K t u = some b) (k : Q (.bl b) H) : rIsi K [x, c] H Q := ⟨x, c, t, u, b, rfl, hc, ht, e, k⟩
/-- a new value of a kind at the end of a derivation -/
theorem fresh {P : Addr → Hp → Prop} {o : HO} (k : ∀ p H', H p = none → H' = upd H p o → P p H') : ∀ p, H p = none → P p (upd H p o) := fun p hp => k p _ hp rfl
end

/-! ### tests, statements -/
section
variable {σ : L2.St} {H : Hp} {n b c : L2.St → Hp → Prop} {r : VK} {ta te : TE} {t u : TS} {D : Ends} {tc td : TT}
theorem tst {Q : Bool → Hp → Prop} (k : te σ H fun x H' => ∃ c, x = .bl c ∧ Q c H') : tTest te σ H Q := k
theorem tB_ {Q : Bool → Hp → Prop} (k : te σ H fun x H' => ∃ c, x = .bl c ∧ Q c H') : tB te σ H Q := k
theorem and_ {Q : Bool → Hp → Prop} (k : tc σ H fun c H1 => if c = true then td σ H1 Q else Q false H1) : tAnd tc td σ H Q := k
theorem or_ {Q : Bool → Hp → Prop} (k : tc σ H fun c H1 => if c = true then Q true H1 else td σ H1 Q) : tOr tc td σ H Q := k
theorem not_ {Q : Bool → Hp → Prop} (k : tc σ H fun c H1 => Q (!c) H1) : tNot tc σ H Q := k
theorem seq (k : t ⟨u ⟨n, r, b, c⟩, r, b, c⟩ σ H) : tSeq t u ⟨n, r, b, c⟩ σ H := k
theorem asg {i : Nat} (k : te σ H fun x H1 => n (σ.set i (some x)) H1) : tAsg te (gName i) ⟨n, r, b, c⟩ σ H := k
theorem asgS {to ti : TE} {ts : TSet} (k : te σ H fun x H1 => to σ H1 fun o H2 => ti σ H2 fun i H3 => ts o i x H3 fun H4 => n σ H4) : tAsg te (gSub to ti ts) ⟨n, r, b, c⟩ σ H := k
theorem ret (k : te σ H r) : tRet te ⟨n, r, b, c⟩ σ H := k
theorem retN (k : r .non H) : tRetN ⟨n, r, b, c⟩ σ H := k
theorem drop (k : te σ H fun _ H1 => n σ H1) : tDrop te ⟨n, r, b, c⟩ σ H := k
theorem next (k : n σ H) : tNext ⟨n, r, b, c⟩ σ H := k
theorem brk (k : b σ H) : tBreak ⟨n, r, b, c⟩ σ H := k
theorem cont (k : c σ H) : tCont ⟨n, r, b, c⟩ σ H := k
theorem ifS (k : tc σ H fun x H1 => if x = true then t D σ H1 else u D σ H1) : tIfS tc t u D σ H := k
theorem aug {i : Nat} {ti : TIp} {x : V} (h : σ[i]? = some (some x)) (k : te σ H fun y H1 => ti x y H1 fun z H2 => n (σ.set i (some z)) H2) : tAug i te ti ⟨n, r, b, c⟩ σ H := ⟨x, h, k⟩
theorem augI {f : Int → Int → Int} {i j : Int} {Q : VK} (k : Q (.int (f i j)) H) : ipI f (.int i) (.int j) H Q := ⟨i, j, rfl, rfl, k⟩
theorem iteT {A B : Prop} (h : A) : if true = true then A else B := by rw [if_pos rfl]; exact h
theorem iteF {A B : Prop} (h : B) : if false = true then A else B := by rw [if_neg Bool.false_ne_true]; exact h
theorem iteD {p : Prop} [Decidable p] {A B : Prop} (h1 : p → A) (h2 : ¬ p → B) : if decide p = true then A else B := by
  by_cases h : p
  · rw [decide_eq_true h]; exact iteT (h1 h)
  · rw [decide_eq_false h]; exact iteF (h2 h)
theorem iteN {p : Prop} [Decidable p] {A B : Prop} (h1 : ¬ p → A) (h2 : p → B) : if (!decide p) = true then A else B := by
  by_cases h : p
  · rw [decide_eq_true h]; exact iteF (h2 h)
  · rw [decide_eq_false h]; exact iteT (h1 h)
theorem iteB {x : Bool} {A B : Prop} (h1 : x = true → A) (h2 : x = false → B) : if x = true then A else B := by
  cases x
  · exact iteF (h2 rfl)
  · exact iteT (h1 rfl)
/-- xs.append(v) -/
theorem app {K : PySem.W.Frag} {to : TE} {t : TA} {Q : VK} (k : to σ H fun x H1 => tyV K "list" x H1 ∧ t σ H1 fun xs H2 => rAppend x xs H2 Q) : tBM K "list" rAppend to t σ H Q := k
theorem tyL {K : PySem.W.Frag} {p : Addr} {xs : List V} {P : Prop} (h : H p = some (.lst xs)) (k : P) : tyV K "list" (.ref p) H ∧ P := ⟨.inl ⟨rfl, _, SqL.of h⟩, k⟩
theorem appd {l : Addr} {xs : List V} {v : V} {Q : VK} (h : H l = some (.lst xs)) (hz : xs.length < 100000) (k : Q .non (upd H l (.lst (xs ++ [v])))) : rAppend (.ref l) [v] H Q := ⟨l, xs, v, rfl, rfl, h, smallT hz, k⟩
theorem setL {p : Addr} {xs : List V} {i : Int} {j : Nat} {v : V} {Q : Hp → Prop} (h : H p = some (.lst xs)) (e : ixN xs.length i = some j) (k : Q (upd H p (.lst (xs.set j v)))) : rSetL (.ref p) (.int i) v H Q := ⟨p, xs, i, j, rfl, rfl, h, e, k⟩
theorem ixN_nat {n j : Nat} (hj : j < n) : ixN n (j : Int) = some j := by
  unfold ixN
  rw [if_pos (by omega), if_pos (by omega)]
  simp
theorem ixN_lit {n : Nat} {i : Int} (h0 : 0 ≤ i) (h : i < n) : ixN n i = some i.toNat := by
  have := @ixN_nat n i.toNat (by omega)
  rwa [Int.toNat_of_nonneg h0] at this
theorem atI_of {α : Type} {xs : List α} {i : Int} {v : α} (h0 : 0 ≤ i) (h : xs[i.toNat]? = some v) : atI xs i = some v := by
  have e := atI_nat (xs := xs) (j := i.toNat) h
  rwa [Int.toNat_of_nonneg h0] at e

theorem atI_ints {ns : List Int} {i : Int} (h0 : 0 ≤ i) (h : i < (ns.length : Int)) : atI (ns.map V.int) i = some (.int (ns.getD i.toNat 0)) := atI_of h0 (by
  have h1 : i.toNat < ns.length := by omega
  rw [List.getElem?_map, List.getD_eq_getElem?_getD, List.getElem?_eq_getElem h1]
  rfl)
theorem getD_bd {ns : List Int} {i : Nat} {lo hi : Int} (hb : ∀ x ∈ ns, lo ≤ x ∧ x < hi) (h : i < ns.length) : lo ≤ ns.getD i 0 ∧ ns.getD i 0 < hi := by
  rw [List.getD_eq_getElem?_getD, List.getElem?_eq_getElem h]
  exact hb _ (List.getElem_mem h)
theorem bd_app {ns : List Int} {x lo hi : Int} (hb : ∀ x ∈ ns, lo ≤ x ∧ x < hi) (hx : lo ≤ x ∧ x < hi) : ∀ y ∈ ns ++ [x], lo ≤ y ∧ y < hi := fun y hy => by
  rcases List.mem_append.mp hy with h | h
  · exact hb y h
  · rw [List.mem_singleton.mp h]; exact hx
theorem cxK {CX : CXT} {P : Program} {w : World} {K : PySem.W.Frag} {mg : Str → Option Value} {base : Heap} {N : List Str} {q : Str} {sc : Scope} {f : Addr} {cdv : Value} {A : Around} {outer : List Env} {s : Shared} {H : Hp} {E : XK} : (cxOf CX P w K mg base N q sc f cdv A outer s H E).K = K := rfl

theorem finT {p : Prop} [Decidable p] {Q : VK} {H : Hp} (k : Q (.bl true) H) (hp : p) : Q (.bl (decide p)) H := by rw [decide_eq_true hp]; exact k
theorem pushInts {H' : Hp} {p : Addr} {nums : List Int} {x : Int} : upd H' p (.lst (nums.map V.int ++ [.int x])) p = some (.lst ((nums ++ [x]).map V.int)) := by rw [upd_same, List.map_append]; rfl

/-! ### loops -/
/-- what a for asks of what it walks -/
def ForJ (g : TG) (tb : TS) (D : Ends) (σ : L2.St) (J : It) (H1 : Hp) : Prop := ∃ W : Nat → Nat → L2.St → Hp → Prop, (∃ m, W 0 m σ H1) ∧ ∀ i m σ H, W i m σ H →
  (J.stop i H ∧ D.nx σ H) ∨ (J.go i H ∧ ∃ N : L2.St → Hp → Prop, (∀ σ' H', N σ' H' → ∃ m', m' < m ∧ W (i + 1) m' σ' H') ∧ ∀ x H', J.yld i H x H' → g x σ H' fun σ2 H2 => tb { D with nx := N, ct := N, bk := D.nx } σ2 H2)
theorem for_ {wi : TI} {g : TG} {tb : TS} (k : wi σ H fun J H1 => ForJ g tb D σ J H1) : tFor wi g tb D σ H := k
theorem iR1 {tl : TA} {R : It → Hp → Prop} (k : tl σ H fun vs H1 => ∃ j : Int, vs = [.int j] ∧ -(2 ^ 62) ≤ j ∧ j < 2 ^ 62 ∧ R (Itr 0 j.toNat) H1) : iRng1 tl σ H R := k
theorem iR2 {tl : TA} {R : It → Hp → Prop} (k : tl σ H fun vs H1 => ∃ i j : Int, vs = [.int i, .int j] ∧ (-(2 ^ 62) ≤ i ∧ i < 2 ^ 62 ∧ -(2 ^ 62) ≤ j ∧ j < 2 ^ 62) ∧ R (Itr i (j - i).toNat) H1) : iRng2 tl σ H R := k
theorem iL {K : PySem.W.Frag} {tl : TE} {R : It → Hp → Prop} (k : tl σ H fun x H1 => ∃ a, x = .ref a ∧ (∃ xs, SqL K H1 a xs) ∧ R (Itl K a) H1) : iList K tl σ H R := k
theorem iT {K : PySem.W.Frag} {tl : TE} {R : It → Hp → Prop} (k : tl σ H fun x H1 => ∃ a, x = .ref a ∧ (∃ xs, SqT K H1 a xs) ∧ R (Itt K a) H1) : iTup K tl σ H R := k
/-- for name in range(m), the argument known -/
theorem rng1 {m : Int} {tb : TS} {j : Nat} (Pv : Nat → L2.St → Hp → Prop) (hb : -1000000 ≤ m ∧ m ≤ 1000000) (h0 : Pv 0 σ H)
    (hs : ∀ (i : Nat) (σ' : L2.St) (H' : Hp), (i : Int) < m → Pv i σ' H' → tb ⟨Pv (i + 1), r, n, Pv (i + 1)⟩ (σ'.set j (some (.int (i : Int)))) H') (hd : ∀ σ' H', Pv m.toNat σ' H' → n σ' H') :
    ∃ q : Int, [V.int m] = [V.int q] ∧ -(2 ^ 62) ≤ q ∧ q < 2 ^ 62 ∧ ForJ (gName j) tb ⟨n, r, b, c⟩ σ (Itr 0 q.toNat) H := by
  obtain ⟨hb1, hb2⟩ := hb
  have p62 : (2 : Int) ^ 62 = 4611686018427387904 := by decide
  refine ⟨m, rfl, by omega, by omega, for_range (lo := 0) (n := m.toNat) Pv h0 (fun i σ' H' hi p => ?_) hd⟩
  have e0 : (0 : Int) + (i : Int) = (i : Int) := Int.zero_add _
  show tb _ (σ'.set j (some (.int ((0 : Int) + (i : Int))))) H'
  rw [e0]
  exact hs i σ' H' (by omega) p
theorem rng2 {lo m : Int} {tb : TS} {j : Nat} (Pv : Nat → L2.St → Hp → Prop) (hb : -1000000 ≤ lo ∧ lo ≤ 1000000 ∧ -1000000 ≤ m ∧ m ≤ 1000000) (h0 : Pv 0 σ H)
    (hs : ∀ (i : Nat) (σ' : L2.St) (H' : Hp), lo + (i : Int) < m → Pv i σ' H' → tb ⟨Pv (i + 1), r, n, Pv (i + 1)⟩ (σ'.set j (some (.int (lo + (i : Int))))) H') (hd : ∀ σ' H', Pv (m - lo).toNat σ' H' → n σ' H') :
    ∃ p q : Int, [V.int lo, V.int m] = [V.int p, V.int q] ∧ (-(2 ^ 62) ≤ p ∧ p < 2 ^ 62 ∧ -(2 ^ 62) ≤ q ∧ q < 2 ^ 62) ∧ ForJ (gName j) tb ⟨n, r, b, c⟩ σ (Itr p (q - p).toNat) H := by
  obtain ⟨hb1, hb2, hb3, hb4⟩ := hb
  have p62 : (2 : Int) ^ 62 = 4611686018427387904 := by decide
  refine ⟨lo, m, rfl, ⟨by omega, by omega, by omega, by omega⟩, for_range (lo := lo) (n := (m - lo).toNat) Pv h0 (fun i σ' H' hi p => ?_) hd⟩
  exact hs i σ' H' (by omega) p
/-- for .. in a list, a tuple -/
theorem forL {K : PySem.W.Frag} {a : Addr} {xs : List V} {g : TG} {tb : TS} (Pv : Nat → L2.St → Hp → Prop) (h : SqL K H a xs) (h0 : Pv 0 σ H) (hl : ∀ i σ H, i ≤ xs.length → Pv i σ H → SqL K H a xs)
    (hs : ∀ (i : Nat) (x : V) (σ' : L2.St) (H' : Hp), xs[i]? = some x → Pv i σ' H' → g x σ' H' fun σ2 H2 => tb ⟨Pv (i + 1), r, n, Pv (i + 1)⟩ σ2 H2) (hd : ∀ σ' H', Pv xs.length σ' H' → n σ' H') :
    ∃ p, V.ref a = V.ref p ∧ (∃ ys, SqL K H p ys) ∧ ForJ g tb ⟨n, r, b, c⟩ σ (Itl K p) H := ⟨a, rfl, ⟨_, h⟩, for_list Pv h0 hl hs hd⟩
theorem forT {K : PySem.W.Frag} {a : Addr} {xs : List V} {g : TG} {tb : TS} (Pv : Nat → L2.St → Hp → Prop) (h : SqT K H a xs) (h0 : Pv 0 σ H) (hl : ∀ i σ H, i ≤ xs.length → Pv i σ H → SqT K H a xs)
    (hs : ∀ (i : Nat) (x : V) (σ' : L2.St) (H' : Hp), xs[i]? = some x → Pv i σ' H' → g x σ' H' fun σ2 H2 => tb ⟨Pv (i + 1), r, n, Pv (i + 1)⟩ σ2 H2) (hd : ∀ σ' H', Pv xs.length σ' H' → n σ' H') :
    ∃ p, V.ref a = V.ref p ∧ (∃ ys, SqT K H p ys) ∧ ForJ g tb ⟨n, r, b, c⟩ σ (Itt K p) H := ⟨a, rfl, ⟨_, h⟩, for_tup Pv h0 hl hs hd⟩
/-- what a list comprehension asks of what it walks -/
def LcJ (g : TG) (tt : TT) (te : TE) (vs : List Nat) (σ : L2.St) (Q : VK) (J : It) (H1 : Hp) : Prop := ∀ D, H1 D = none → ∃ W : Nat → Nat → Hp → Prop, (∃ m, W 0 m (upd H1 D (.lst []))) ∧ ∀ i m H, W i m H →
  (J.stop i H ∧ Q (.ref D) H) ∨ (J.go i H ∧ ∃ Nx : Hp → Prop, (∀ H', Nx H' → ∃ m', m' < m ∧ W (i + 1) m' H') ∧ ∀ x H', J.yld i H x H' → g x (wipe σ vs) H' fun σ2 H2 => wipe σ2 vs = wipe σ vs ∧ tt σ2 H2 fun b H3 =>
    if b = true then te σ2 H3 fun y H4 => ∃ acc, H4 D = some (.lst acc) ∧ acc.length < sizeLine ∧ Nx (upd H4 D (.lst (acc ++ [y]))) else Nx H3)
theorem lc_ {wi : TI} {g : TG} {tt : TT} {te : TE} {vs : List Nat} {Q : VK} (k : wi σ H fun J H1 => LcJ g tt te vs σ Q J H1) : tLc wi g tt te vs σ H Q := k
theorem itrLc {lo : Int} {k : Nat} {g : TG} {tt : TT} {te : TE} {vs : List Nat} {Q : VK} {D : Addr} (Pv : Nat → Hp → Prop) (h0 : Pv 0 (upd H D (.lst [])))
    (hs : ∀ i H, i < k → Pv i H → g (.int (lo + i)) (wipe σ vs) H fun σ2 H2 => wipe σ2 vs = wipe σ vs ∧ tt σ2 H2 fun b H3 =>
      if b = true then te σ2 H3 fun y H4 => ∃ acc, H4 D = some (.lst acc) ∧ acc.length < sizeLine ∧ Pv (i + 1) (upd H4 D (.lst (acc ++ [y]))) else Pv (i + 1) H3) (hd : ∀ H, Pv k H → Q (.ref D) H) :
    ∃ W : Nat → Nat → Hp → Prop, (∃ m, W 0 m (upd H D (.lst []))) ∧ ∀ i m H, W i m H →
      ((Itr lo k).stop i H ∧ Q (.ref D) H) ∨ ((Itr lo k).go i H ∧ ∃ Nx : Hp → Prop, (∀ H', Nx H' → ∃ m', m' < m ∧ W (i + 1) m' H') ∧ ∀ x H', (Itr lo k).yld i H x H' → g x (wipe σ vs) H' fun σ2 H2 => wipe σ2 vs = wipe σ vs ∧ tt σ2 H2 fun b H3 =>
        if b = true then te σ2 H3 fun y H4 => ∃ acc, H4 D = some (.lst acc) ∧ acc.length < sizeLine ∧ Nx (upd H4 D (.lst (acc ++ [y]))) else Nx H3) := by
  refine ⟨fun i m H => m = k - i ∧ i ≤ k ∧ Pv i H, ⟨k, by simp, Nat.zero_le _, h0⟩, ?_⟩
  rintro i m H ⟨rfl, hi, p⟩
  by_cases hlt : i < k
  · refine .inr ⟨hlt, Pv (i + 1), fun H' p' => ⟨k - (i + 1), by omega, rfl, hlt, p'⟩, fun x H' y => ?_⟩
    obtain ⟨e, rfl⟩ := y
    subst e
    exact hs i _ hlt p
  · have e : i = k := by omega
    subst e
    exact .inl ⟨Nat.le_refl _, hd H p⟩
/-- the end of a comprehension's turn: what is made so far, and the invariant -/
def LcE (H : Hp) (D : Addr) (i : Nat) (Pv : Addr → Nat → List V → Hp → Prop) : VK := fun y H4 => ∃ acc, H4 D = some (.lst acc) ∧ acc.length < sizeLine ∧
  ∃ ac, Same H (upd H4 D (.lst (acc ++ [y]))) ∧ ac.length = i + 1 ∧ upd H4 D (.lst (acc ++ [y])) D = some (.lst ac) ∧ Pv D (i + 1) ac (upd H4 D (.lst (acc ++ [y])))
theorem lcE {H H4 : Hp} {D : Addr} {i : Nat} {Pv : Addr → Nat → List V → Hp → Prop} {acc : List V} {y : V} (hD : H D = none) (h : H4 D = some (.lst acc)) (s : Same H H4) (e : acc.length = i) (hi : i < 100000) (k : Pv D (i + 1) (acc ++ [y]) (upd H4 D (.lst (acc ++ [y])))) : LcE H D i Pv y H4 :=
  ⟨acc, h, smallT (by omega), acc ++ [y], same_mut s hD, by simp [e], upd_same, k⟩
/-- [.. for name in range(m)] without a test: Pv i acc H: acc what is made -/
theorem lcR1 {m : Int} {j : Nat} {te : TE} {Q : VK} (Pv : Addr → Nat → List V → Hp → Prop) (hb : -100000 ≤ m ∧ m ≤ 100000) (h0 : ∀ D H', H D = none → Same H H' → H' D = some (.lst []) → Pv D 0 [] H')
    (hs : ∀ (i : Nat) (acc : List V) (D : Addr) (H' : Hp), H D = none → Same H H' → (i : Int) < m → acc.length = i → H' D = some (.lst acc) → Pv D i acc H' → te (σ.set j (some (.int (i : Int)))) H' (LcE H D i Pv))
    (hd : ∀ D acc H', H D = none → Same H H' → H' D = some (.lst acc) → acc.length = m.toNat → Pv D m.toNat acc H' → Q (.ref D) H') :
    ∃ q : Int, [V.int m] = [V.int q] ∧ -(2 ^ 62) ≤ q ∧ q < 2 ^ 62 ∧ LcJ (gName j) tYes te [j] σ Q (Itr 0 q.toNat) H := by
  obtain ⟨hb1, hb2⟩ := hb
  have p62 : (2 : Int) ^ 62 = 4611686018427387904 := by decide
  refine ⟨m, rfl, by omega, by omega, fun D hD => ?_⟩
  refine itrLc (fun i H' => ∃ acc, Same H H' ∧ acc.length = i ∧ H' D = some (.lst acc) ∧ Pv D i acc H') ⟨[], same_new hD, rfl, upd_same, h0 D _ hD (same_new hD) upd_same⟩ ?_ ?_
  · rintro i H' hi ⟨acc, s, e, hD', p⟩
    have e0 : (0 : Int) + (i : Int) = (i : Int) := Int.zero_add _
    rw [e0]
    refine ⟨show wipe ((wipe σ [j]).set j (some (.int (i : Int)))) [j] = wipe σ [j] by simp [wipe], ?_⟩
    show te ((wipe σ [j]).set j (some (.int (i : Int)))) H' (LcE H D i Pv)
    have ew : (wipe σ [j]).set j (some (.int (i : Int))) = σ.set j (some (.int (i : Int))) := by simp [wipe]
    rw [ew]
    exact hs i acc D H' hD s (by omega) e hD' p
  · rintro H' ⟨acc, s, e, hD', p⟩
    exact hd D acc H' hD s hD' e p
/-- [.. for name in a list] without a test -/
theorem lcL {K : PySem.W.Frag} {a : Addr} {xs : List V} {j : Nat} {te : TE} {Q : VK} (Pv : Addr → Nat → List V → Hp → Prop) (h : SqL K H a xs) (hl : xs.length ≤ 100000) (h0 : ∀ D H', H D = none → Same H H' → H' D = some (.lst []) → Pv D 0 [] H')
    (hs : ∀ (i : Nat) (x : V) (acc : List V) (D : Addr) (H' : Hp), H D = none → Same H H' → xs[i]? = some x → acc.length = i → H' D = some (.lst acc) → Pv D i acc H' → te (σ.set j (some x)) H' (LcE H D i Pv))
    (hd : ∀ D acc H', H D = none → Same H H' → H' D = some (.lst acc) → acc.length = xs.length → Pv D xs.length acc H' → Q (.ref D) H') :
    ∃ p, V.ref a = V.ref p ∧ (∃ ys, SqL K H p ys) ∧ LcJ (gName j) tYes te [j] σ Q (Itl K p) H := by
  refine ⟨a, rfl, ⟨_, h⟩, fun D hD => ?_⟩
  refine lc_list (xs := xs) (fun i H' => ∃ acc, Same H H' ∧ acc.length = i ∧ H' D = some (.lst acc) ∧ Pv D i acc H') ⟨[], same_new hD, rfl, upd_same, h0 D _ hD (same_new hD) upd_same⟩ (fun i H' _ ⟨acc, s, _⟩ => s.seq h) ?_ ?_
  · rintro i x H' hi ⟨acc, s, e, hD', p⟩
    refine ⟨show wipe ((wipe σ [j]).set j (some x)) [j] = wipe σ [j] by simp [wipe], ?_⟩
    show te ((wipe σ [j]).set j (some x)) H' (LcE H D i Pv)
    have ew : (wipe σ [j]).set j (some x) = σ.set j (some x) := by simp [wipe]
    rw [ew]
    exact hs i x acc D H' hD s hi e hD' p
  · rintro H' ⟨acc, s, e, hD', p⟩
    exact hd D acc H' hD s hD' e p
end
section
variable {X : Cx}
/-- // by a divisor of either sign below 2 ^ 9000 -/
def CDivX (_ j : Int) : Prop := j ≠ 0 ∧ j.natAbs.log2 < 9000
theorem op_fdivX : OpR X (binaryOp .FloorDiv) (rI CDivX fun i j => .int (i.fdiv j)) := L2.opI fun i j _ _ _ _ _ hc q =>
  floordiv_int hc.1 q (.inl (PyProof.noPylong_of_log2 hc.2))
end
theorem cdivX' {i j : Int} (h : j ≠ 0) (hb : -(2 ^ 64) < j ∧ j < 2 ^ 64) : CDivX i j := ⟨h, Nat.lt_of_lt_of_le (PySem.Flt.log2_lt_of (k := 64) (by decide) (by omega)) (by decide)⟩
theorem kb_int_int : kitB "int" "int" = some true := by decide +kernel
theorem kb_int_bool : kitB "int" "bool" = some false := by decide +kernel
theorem kb_int_str : kitB "int" "str" = some false := by decide +kernel
theorem kb_int_tuple : kitB "int" "tuple" = some false := by decide +kernel
theorem kb_int_list : kitB "int" "list" = some false := by decide +kernel
theorem kb_int_dict : kitB "int" "dict" = some false := by decide +kernel
theorem kb_bool_int : kitB "bool" "int" = some true := by decide +kernel
theorem kb_bool_bool : kitB "bool" "bool" = some true := by decide +kernel
theorem kb_bool_str : kitB "bool" "str" = some false := by decide +kernel
theorem kb_bool_tuple : kitB "bool" "tuple" = some false := by decide +kernel
theorem kb_bool_list : kitB "bool" "list" = some false := by decide +kernel
theorem kb_bool_dict : kitB "bool" "dict" = some false := by decide +kernel
theorem kb_str_int : kitB "str" "int" = some false := by decide +kernel
theorem kb_str_bool : kitB "str" "bool" = some false := by decide +kernel
theorem kb_str_str : kitB "str" "str" = some true := by decide +kernel
theorem kb_str_tuple : kitB "str" "tuple" = some false := by decide +kernel
theorem kb_str_list : kitB "str" "list" = some false := by decide +kernel
theorem kb_str_dict : kitB "str" "dict" = some false := by decide +kernel
theorem kb_tuple_int : kitB "tuple" "int" = some false := by decide +kernel
theorem kb_tuple_bool : kitB "tuple" "bool" = some false := by decide +kernel
theorem kb_tuple_str : kitB "tuple" "str" = some false := by decide +kernel
theorem kb_tuple_tuple : kitB "tuple" "tuple" = some true := by decide +kernel
theorem kb_tuple_list : kitB "tuple" "list" = some false := by decide +kernel
theorem kb_tuple_dict : kitB "tuple" "dict" = some false := by decide +kernel
theorem kb_list_int : kitB "list" "int" = some false := by decide +kernel
theorem kb_list_bool : kitB "list" "bool" = some false := by decide +kernel
theorem kb_list_str : kitB "list" "str" = some false := by decide +kernel
theorem kb_list_tuple : kitB "list" "tuple" = some false := by decide +kernel
theorem kb_list_list : kitB "list" "list" = some true := by decide +kernel
theorem kb_list_dict : kitB "list" "dict" = some false := by decide +kernel
theorem kb_NoneType_int : kitB "NoneType" "int" = some false := by decide +kernel
theorem kb_NoneType_bool : kitB "NoneType" "bool" = some false := by decide +kernel
theorem kb_NoneType_str : kitB "NoneType" "str" = some false := by decide +kernel
theorem kb_NoneType_tuple : kitB "NoneType" "tuple" = some false := by decide +kernel
theorem kb_NoneType_list : kitB "NoneType" "list" = some false := by decide +kernel
theorem kb_NoneType_dict : kitB "NoneType" "dict" = some false := by decide +kernel
theorem kb_dict_int : kitB "dict" "int" = some false := by decide +kernel
theorem kb_dict_bool : kitB "dict" "bool" = some false := by decide +kernel
theorem kb_dict_str : kitB "dict" "str" = some false := by decide +kernel
theorem kb_dict_tuple : kitB "dict" "tuple" = some false := by decide +kernel
theorem kb_dict_list : kitB "dict" "list" = some false := by decide +kernel
theorem kb_dict_dict : kitB "dict" "dict" = some true := by decide +kernel
section
variable {K : PySem.W.Frag} {H : Hp} {Q : VK} {b : String} {r : Bool}
theorem isiI {i : Int} (e : kitB "int" b = some r) (k : Q (.bl r) H) : rIsi K [.int i, .ty b] H Q := ⟨_, _, _, _, r, rfl, .ty b, .base (.int i), kit_ty e, k⟩
theorem isiB {i : Bool} (e : kitB "bool" b = some r) (k : Q (.bl r) H) : rIsi K [.bl i, .ty b] H Q := ⟨_, _, _, _, r, rfl, .ty b, .base (.bl i), kit_ty e, k⟩
theorem isiS {i : Str} (e : kitB "str" b = some r) (k : Q (.bl r) H) : rIsi K [.str i, .ty b] H Q := ⟨_, _, _, _, r, rfl, .ty b, .base (.str i), kit_ty e, k⟩
theorem isiN (e : kitB "NoneType" b = some r) (k : Q (.bl r) H) : rIsi K [.non, .ty b] H Q := ⟨_, _, _, _, r, rfl, .ty b, .base .non, kit_ty e, k⟩
theorem tyT {p : Addr} {xs : List V} (h : SqT K H p xs) : TyX K H (.ref p) (.type "tuple") := by
  rcases h with (h | ⟨o, h⟩) | h
  · exact .base (.tup h)
  · exact .fTuple h
  · obtain ⟨o, its, n, h1, h2, _⟩ := h
    exact .kTuple h1 h2
theorem tyL' {p : Addr} {xs : List V} (h : SqL K H p xs) : TyX K H (.ref p) (.type "list") := by
  rcases h with (h | ⟨o, h⟩) | h
  · exact .base (.lst h)
  · exact .base (.frz h)
  · obtain ⟨o, its, n, h1, h2, _⟩ := h
    exact .kList h1 h2
theorem isiT {p : Addr} {xs : List V} (h : SqT K H p xs) (e : kitB "tuple" b = some r) (k : Q (.bl r) H) : rIsi K [.ref p, .ty b] H Q := ⟨_, _, _, _, r, rfl, .ty b, tyT h, kit_ty e, k⟩
theorem isiL {p : Addr} {xs : List V} (h : SqL K H p xs) (e : kitB "list" b = some r) (k : Q (.bl r) H) : rIsi K [.ref p, .ty b] H Q := ⟨_, _, _, _, r, rfl, .ty b, tyL' h, kit_ty e, k⟩
theorem iteNT {A B : Prop} (h : B) : if (!true) = true then A else B := iteF h
theorem iteNF {A B : Prop} (h : A) : if (!false) = true then A else B := iteT h
end

/-! ### texts -/
/-- the text of these signs -/
def S (l : List Nat) : Str := ⟨l.toArray⟩
theorem S_len (l : List Nat) : (S l).length = l.length := by show l.toArray.size = l.length; simp
theorem S_tl (l : List Nat) : (S l).cps.toList = l := by show l.toArray.toList = l; simp
theorem S_inj {l m : List Nat} (h : S l = S m) : l = m := by have := congrArg (fun z : Str => z.cps.toList) h; simpa [S_tl] using this
theorem S_eq {l m : List Nat} : decide (S l = S m) = decide (l = m) := by
  by_cases h : l = m
  · rw [decide_eq_true h, decide_eq_true (by rw [h])]
  · rw [decide_eq_false h, decide_eq_false fun e => h (S_inj e)]
theorem S_app (l m : List Nat) : S l ++ S m = S (l ++ m) := by
  show (⟨l.toArray ++ m.toArray⟩ : Str) = ⟨(l ++ m).toArray⟩
  simp
theorem S_of (x : Str) : x = S x.cps.toList := by cases x; simp [S]
theorem S_one (c : Nat) : (⟨#[c]⟩ : Str) = S [c] := rfl
section
variable {σ : L2.St} {H : Hp} {Q : VK} {ta tb te : TE} {K : PySem.W.Frag}
theorem addS' {l m : List Nat} (h : l.length + m.length ≤ 100000) (k : Q (.str (S (l ++ m))) H) : AddSK (.str (S l)) (.str (S m)) H Q := ⟨_, _, rfl, rfl, small (by rw [S_len, S_len]; exact h), by rw [S_app]; exact k⟩
theorem lenS' {l : List Nat} (h : l.length ≤ 100000) (k : Q (.int l.length) H) : LenSK [.str (S l)] H Q := ⟨_, rfl, small (by rw [S_len]; exact h), by rw [S_len]; exact k⟩
theorem eqS' {l m : List Nat} (k : Q (.bl (decide (l = m))) H) : rEq (.str (S l)) (.str (S m)) H Q := eqS (by rw [S_eq]; exact k)
theorem neS' {l m : List Nat} (k : Q (.bl (!decide (l = m))) H) : rNe (.str (S l)) (.str (S m)) H Q := neS (by rw [S_eq]; exact k)
theorem ixS {l : List Nat} {i : Int} {c : Nat} (h : l.length ≤ 100000) (a : atI l i = some c) (k : Q (.str (S [c])) H) : rIxS (.str (S l)) (.int i) H Q := ⟨S l, i, c, rfl, rfl, small (by rw [S_len]; exact h), by rw [S_tl]; exact a, k⟩
def InSK (x y : V) (H : Hp) (Q : VK) : Prop := ∃ (c : Nat) (z : Str), x = .str ⟨#[c]⟩ ∧ y = .str z ∧ Q (.bl (decide (c ∈ z.cps.toList))) H
theorem opInS (k : ta σ H fun x H1 => tb σ H1 fun y H2 => InSK x y H2 Q) : tOp (fun x y H Q => ∃ (c : Nat) (z : Str), x = V.str ⟨#[c]⟩ ∧ y = V.str z ∧ Q (.bl (decide (c ∈ z.cps.toList))) H) ta tb σ H Q := k
theorem inS {c : Nat} {l : List Nat} (k : Q (.bl (decide (c ∈ l))) H) : InSK (.str (S [c])) (.str (S l)) H Q := ⟨c, S l, rfl, rfl, by rw [S_tl]; exact k⟩
theorem slS {l : List Nat} {a b : Nat} {i j : Int} (ha : i = a) (hb : j = b) (hl : l.length ≤ 100000) (hab : a ≤ l.length) (k : Q (.str (S ((l.drop a).take (b - a)))) H) : rSlS (.str (S l)) (some i) (some j) H Q := by
  subst ha hb
  refine ⟨S l, rfl, small (by rw [S_len]; exact hl), ?_⟩
  have e : cutS (S l) (some (a : Int)) (some (b : Int)) = S ((l.drop a).take (b - a)) := by
    unfold cutS
    rw [S_tl, S_len, HT.sIx_nat, HT.sIx_nat]
    show S _ = S _
    congr 1
    rw [Nat.min_eq_left hab]
    by_cases h : b ≤ l.length
    · rw [Nat.min_eq_left h]
    · rw [Nat.min_eq_right (by omega), List.take_of_length_le (by simp), List.take_of_length_le (by simp; omega)]
  rw [e]; exact k
def IntSK (xs : List V) (H : Hp) (Q : VK) : Prop := ∃ a n, xs = [.str a] ∧ PySem.intText? a = some n ∧ a.length ≤ 640 ∧ Q (.int n) H
theorem cbIntS {t : TA} (k : t σ H fun vs H1 => IntSK vs H1 Q) : tCB (fun xs H Q => ∃ a n, xs = [V.str a] ∧ PySem.intText? a = some n ∧ a.length ≤ 640 ∧ Q (.int n) H) t σ H Q := k
theorem intS {l : List Nat} {n : Int} (e : PySem.intText? (S l) = some n) (h : l.length ≤ 640) (k : Q (.int n) H) : IntSK [.str (S l)] H Q := ⟨_, n, rfl, e, by rw [S_len]; exact h, k⟩
theorem strI {i : Int} {l : List Nat} (h : i.natAbs.log2 < 1920) (e : (Str.ofString (toString i)) = S l) (k : Q (.str (S l)) H) : StrIK [.int i] H Q := ⟨i, rfl, h, by rw [e]; exact k⟩
/-- a text times a number -/
def MulSK (x y : V) (H : Hp) (Q : VK) : Prop := ∃ (z : Str) (n : Int), x = .str z ∧ y = .int n ∧ MulOk z n ∧ Q (.str (Txt.mul z n)) H
theorem op_mulS {X : Cx} : OpR X (binaryOp .Mult) MulSK := by
  intro pins s σ H x y v u Q I rx ry h
  obtain ⟨z, n, rfl, rfl, hc, q⟩ := h
  obtain ⟨t, rfl⟩ := rx
  obtain ⟨t', rfl⟩ := ry
  exact SB.mul hc fun t' k => ⟨.str (Txt.mul z n), H, I.tok _, ⟨_, rfl⟩, q⟩
theorem mulS1 {c : Nat} {n : Int} (h : 0 ≤ n ∧ n ≤ 100000) (k : Q (.str (S (List.replicate n.toNat c))) H) : MulSK (.str (S [c])) (.int n) H Q := by
  refine ⟨S [c], n, rfl, rfl, ⟨?_, ?_, ?_⟩, ?_⟩
  · have : ¬ n < -(2 ^ 63 : Int) := by omega
    have h2 : ¬ n ≥ 2 ^ 63 := by omega
    simp [this, h2]
    omega
  · intro h1 _
    show ¬ (((S [c]).length : Int) > (2 ^ 63 - 1) / n)
    have : ((S [c]).length : Int) = 1 := rfl
    rw [this]
    have h3 : (1 : Int) ≤ (2 ^ 63 - 1) / n := by
      rw [Int.le_ediv_iff_mul_le (by omega)]
      omega
    omega
  · intro h1 _
    have : (S [c]).length = 1 := rfl
    rw [this, Nat.one_mul]
    have : n.toNat ≤ sizeLine := small (by omega)
    exact decide_eq_false (by omega)
  · have e : Txt.mul (S [c]) n = S (List.replicate n.toNat c) := by
      unfold Txt.mul
      by_cases h1 : n < 1
      · rw [if_pos h1]
        have : n.toNat = 0 := by omega
        rw [this]; rfl
      · rw [if_neg h1]
        by_cases h2 : n = 1
        · subst h2; rfl
        · have : (n == 1 || (S [c]).length == 0) = false := by rw [beq_eq_false_iff_ne.mpr h2]; rfl
          rw [this]
          show (⟨(List.replicate n.toNat #[c]).foldl (· ++ ·) #[]⟩ : Str) = S (List.replicate n.toNat c)
          have e2 : ∀ (m : Nat) (acc : Array Nat), (List.replicate m #[c]).foldl (· ++ ·) acc = acc ++ (List.replicate m c).toArray := by
            intro m
            induction m with
            | zero => intro acc; simp
            | succ m ih =>
              intro acc
              rw [List.replicate_succ, List.foldl_cons, ih, List.replicate_succ]
              apply Array.toList_inj.mp
              simp
          rw [e2]
          simp [S]
    rw [e]; exact k
end
/-! ### more readings -/
section
variable {σ : L2.St} {H : Hp} {n b c : L2.St → Hp → Prop} {r : VK} {tc : TT} {tb : TS} {K : PySem.W.Frag}
/-- while: Pv m: m falls -/
theorem whl (Pv : Nat → L2.St → Hp → Prop) (h0 : ∃ m, Pv m σ H)
    (hs : ∀ m σ H, Pv m σ H → tc σ H fun x H1 => if x = true then ∃ N : L2.St → Hp → Prop, (∀ σ' H', N σ' H' → ∃ m', m' < m ∧ Pv m' σ' H') ∧ tb ⟨N, r, n, N⟩ σ H1 else n σ H1) : tWhile tc tb ⟨n, r, b, c⟩ σ H := ⟨Pv, h0, hs⟩
theorem whlN {Pv : Nat → L2.St → Hp → Prop} {m : Nat} (k : tb ⟨fun σ' H' => ∃ m', m' < m ∧ Pv m' σ' H', r, n, fun σ' H' => ∃ m', m' < m ∧ Pv m' σ' H'⟩ σ H) :
    ∃ N : L2.St → Hp → Prop, (∀ σ' H', N σ' H' → ∃ m', m' < m ∧ Pv m' σ' H') ∧ tb ⟨N, r, n, N⟩ σ H := ⟨_, fun _ _ h => h, k⟩
variable {Q : VK} {te : TE}
theorem revL (k : te σ H fun x H1 => ∃ a xs, x = .ref a ∧ SqL K H1 a xs ∧ ∀ p, H1 p = none → Q (.ref p) (upd H1 p (.lst xs.reverse))) : tRevL K te σ H Q := k
theorem revL' {a : Addr} {xs : List V} {P : List V → Prop} (h : SqL K H a xs) (k : P xs) : ∃ a' xs', V.ref a = V.ref a' ∧ SqL K H a' xs' ∧ P xs' := ⟨a, xs, rfl, h, k⟩
theorem slL' {a : Addr} {xs : List V} {lo hi : Option Int} (h : SqL K H a xs) (k : ∀ p, H p = none → Q (.ref p) (upd H p (.lst (cutV xs lo hi)))) : rSlL K (.ref a) lo hi H Q := ⟨a, xs, rfl, h, k⟩
theorem nopart {Q : Option Int → Hp → Prop} (k : Q none H) : tNoPart σ H Q := k
theorem part {te : TE} {Q : Option Int → Hp → Prop} (k : te σ H fun x H1 => ∃ i, x = .int i ∧ Q (some i) H1) : tPart te σ H Q := k
theorem part' {i : Int} {P : Int → Prop} (k : P i) : ∃ j, V.int i = V.int j ∧ P j := ⟨i, rfl, k⟩
theorem bm0 {T : String} {rr : V → List V → Hp → VK → Prop} {to : TE} (k : to σ H fun x H1 => tyV K T x H1 ∧ rr x [] H1 Q) : tBM0 K T rr to σ H Q := k
theorem pop {l : Addr} {xs : List V} {y : V} (h : H l = some (.lst xs)) (e : xs[xs.length - 1]? = some y) (k : Q y (upd H l (.lst xs.dropLast))) : rPop (.ref l) [] H Q := ⟨l, xs, y, rfl, rfl, h, e, k⟩
theorem catL {a b : Addr} {xs ys : List V} (ha : H a = some (.lst xs)) (hb : H b = some (.lst ys)) (hz : xs.length + ys.length ≤ 100000) (k : ∀ p, H p = none → Q (.ref p) (upd H p (.lst (xs ++ ys)))) : rCat (.ref a) (.ref b) H Q := ⟨a, b, xs, ys, rfl, rfl, ha, hb, small hz, k⟩
/-- a comprehension's turn whose heap changes -/
def LcF (D : Addr) (i : Nat) (Pv : Addr → Nat → List V → Hp → Prop) : VK := fun y H4 => ∃ acc, H4 D = some (.lst acc) ∧ acc.length < sizeLine ∧
  ∃ ac, ac.length = i + 1 ∧ upd H4 D (.lst (acc ++ [y])) D = some (.lst ac) ∧ Pv D (i + 1) ac (upd H4 D (.lst (acc ++ [y])))
theorem lcF {H4 : Hp} {D : Addr} {i : Nat} {Pv : Addr → Nat → List V → Hp → Prop} {acc : List V} {y : V} (h : H4 D = some (.lst acc)) (e : acc.length = i) (hi : i < 100000) (k : Pv D (i + 1) (acc ++ [y]) (upd H4 D (.lst (acc ++ [y])))) : LcF D i Pv y H4 :=
  ⟨acc, h, smallT (by omega), acc ++ [y], by simp [e], upd_same, k⟩
theorem lcR1F {m : Int} {j : Nat} (Pv : Addr → Nat → List V → Hp → Prop) (hb : -100000 ≤ m ∧ m ≤ 100000) (h0 : ∀ D, H D = none → Pv D 0 [] (upd H D (.lst [])))
    (hs : ∀ (i : Nat) (acc : List V) (D : Addr) (H' : Hp), H D = none → (i : Int) < m → acc.length = i → H' D = some (.lst acc) → Pv D i acc H' → te (σ.set j (some (.int (i : Int)))) H' (LcF D i Pv))
    (hd : ∀ D acc H', H D = none → H' D = some (.lst acc) → acc.length = m.toNat → Pv D m.toNat acc H' → Q (.ref D) H') :
    ∃ q : Int, [V.int m] = [V.int q] ∧ -(2 ^ 62) ≤ q ∧ q < 2 ^ 62 ∧ LcJ (gName j) tYes te [j] σ Q (Itr 0 q.toNat) H := by
  obtain ⟨hb1, hb2⟩ := hb
  have p62 : (2 : Int) ^ 62 = 4611686018427387904 := by decide
  refine ⟨m, rfl, by omega, by omega, fun D hD => ?_⟩
  refine itrLc (fun i H' => ∃ acc, acc.length = i ∧ H' D = some (.lst acc) ∧ Pv D i acc H') ⟨[], rfl, upd_same, h0 D hD⟩ ?_ ?_
  · rintro i H' hi ⟨acc, e, hD', p⟩
    have e0 : (0 : Int) + (i : Int) = (i : Int) := Int.zero_add _
    rw [e0]
    refine ⟨show wipe ((wipe σ [j]).set j (some (.int (i : Int)))) [j] = wipe σ [j] by simp [wipe], ?_⟩
    show te ((wipe σ [j]).set j (some (.int (i : Int)))) H' (LcF D i Pv)
    have ew : (wipe σ [j]).set j (some (.int (i : Int))) = σ.set j (some (.int (i : Int))) := by simp [wipe]
    rw [ew]
    exact hs i acc D H' hD (by omega) e hD' p
  · rintro H' ⟨acc, e, hD', p⟩
    exact hd D acc H' hD hD' e p
end
theorem cut_take {xs : List V} {m : Int} (h : 0 ≤ m) : cutV xs none (some m) = xs.take m.toNat := by
  unfold cutV
  obtain ⟨k, rfl⟩ : ∃ k : Nat, m = k := ⟨m.toNat, by omega⟩
  rw [HT.sIx_none, HT.sIx_nat, List.drop_zero, Nat.sub_zero, Int.toNat_natCast]
  by_cases h1 : k ≤ xs.length
  · rw [Nat.min_eq_left h1]
  · rw [Nat.min_eq_right (by omega), List.take_of_length_le (Nat.le_refl _), List.take_of_length_le (by omega)]
theorem atI_all {xs : List V} {p : V → Bool} {i : Int} (h : xs.all p = true) (h0 : 0 ≤ i) (h1 : i < (xs.length : Int)) : ∃ v, atI xs i = some v ∧ p v = true := by
  have h2 : i.toNat < xs.length := by omega
  exact ⟨xs[i.toNat], atI_of h0 (List.getElem?_eq_getElem h2), List.all_eq_true.mp h _ (List.getElem_mem h2)⟩
theorem ixLall {K : PySem.W.Frag} {H : Hp} {Q : VK} {l : Addr} {xs : List V} {i : Int} (p : V → Bool) (h : SqL K H l xs) (a : xs.all p = true) (h0 : 0 ≤ i) (h1 : i < (xs.length : Int)) (k : ∀ v, p v = true → Q v H) : rIxL K (.ref l) (.int i) H Q := by
  obtain ⟨v, e, q⟩ := atI_all a h0 h1
  exact ixL h e (k v q)
theorem ixSall {H : Hp} {Q : VK} {l : List Nat} {i : Int} (hl : l.length ≤ 100000) (h0 : 0 ≤ i) (h1 : i < (l.length : Int)) (k : ∀ c, c ∈ l → Q (.str (S [c])) H) : rIxS (.str (S l)) (.int i) H Q := by
  have h2 : i.toNat < l.length := by omega
  exact ixS hl (atI_of h0 (List.getElem?_eq_getElem h2)) (k _ (List.getElem_mem h2))
theorem dp_same {K : PySem.W.Frag} {H H' : Hp} (e : Same H H') : ∀ {x : V} {d : PyData}, Dp K H x d → Dp K H' x d
  | _, _, .non => .non
  | _, _, .bl b => .bl b
  | _, _, .int i => .int i
  | _, _, .str x => .str x
  | _, _, .lst h a => .lst (e.seq h) (go e a)
  | _, _, .tup h a => .tup (same_tup e h) (go e a)
where go {K : PySem.W.Frag} {H H' : Hp} (e : Same H H') : ∀ {xs : List V} {ds : List PyData}, DpAll K H xs ds → DpAll K H' xs ds
  | _, _, .nil => .nil
  | _, _, .cons h t => .cons (dp_same e h) (go e t)
theorem dpAll_len {K : PySem.W.Frag} {H : Hp} : ∀ {xs : List V} {ds : List PyData}, DpAll K H xs ds → xs.length = ds.length
  | _, _, .nil => rfl
  | _, _, .cons _ t => congrArg Nat.succ (dpAll_len t)
theorem dpAll_get {K : PySem.W.Frag} {H : Hp} : ∀ {xs : List V} {ds : List PyData}, DpAll K H xs ds → ∀ i, i < ds.length → ∃ x, xs[i]? = some x ∧ Dp K H x (ds.getD i .none)
  | _, _, .nil, i, h => absurd h (Nat.not_lt_zero i)
  | _, _, .cons h _, 0, _ => ⟨_, rfl, h⟩
  | _, _, .cons _ t, i + 1, hi => by
    obtain ⟨x, e, d⟩ := dpAll_get t i (Nat.lt_of_succ_lt_succ hi)
    exact ⟨x, e, d⟩
theorem depth_get : ∀ {ds : List PyData} {i : Nat}, i < ds.length → (ds.getD i .none).depth ≤ PyData.depthAll ds
  | [], i, h => absurd h (Nat.not_lt_zero i)
  | d :: ds, 0, _ => by simp only [PyData.depthAll]; exact Nat.le_max_left _ _
  | d :: ds, i + 1, h => by
    have := depth_get (ds := ds) (i := i) (Nat.lt_of_succ_lt_succ h)
    simp only [PyData.depthAll]
    exact Nat.le_trans this (Nat.le_max_right _ _)
theorem ixQL {K : PySem.W.Frag} {H : Hp} {Q : VK} {p : Addr} {xs : List V} {i : Int} {v : V} (h : SqL K H p xs) (a : atI xs i = some v) (k : Q v H) : rIx K (.ref p) (.int i) H Q := .inl (ixL h a k)
theorem ixQT {K : PySem.W.Frag} {H : Hp} {Q : VK} {p : Addr} {xs : List V} {i : Int} {v : V} (h : SqT K H p xs) (a : atI xs i = some v) (k : Q v H) : rIx K (.ref p) (.int i) H Q := .inr (.inl (ixT h a k))
theorem weight_get {ds : List PyData} {i : Nat} (h : i < ds.length) : (ds.getD i .none).weight ≤ PyData.weightAll ds := by
  refine PyData.weight_le_weightAll _ _ ?_
  rw [List.getD_eq_getElem?_getD, List.getElem?_eq_getElem h]
  exact List.getElem_mem h
theorem atI_last {α : Type} {xs : List α} {v : α} : atI (xs ++ [v]) (-1) = some v := by
  unfold atI ixN
  rw [if_neg (by decide), if_pos (by simp; omega)]
  show (xs ++ [v])[(-1 + ((xs ++ [v]).length : Int)).toNat]? = some v
  have : (-1 + ((xs ++ [v]).length : Int)).toNat = xs.length := by simp; omega
  rw [this]; simp
/-- two ways that come together: what holds where they meet -/
theorem join {σ : L2.St} {H : Hp} {t u : TS} {D : Ends} (J : L2.St → Hp → Prop) (h1 : ∀ N : L2.St → Hp → Prop, (∀ σ' H', J σ' H' → N σ' H') → t ⟨N, D.rt, D.bk, D.ct⟩ σ H) (h2 : ∀ σ' H', J σ' H' → u D σ' H') : tSeq t u D σ H := h1 _ h2
theorem ixLmem {K : PySem.W.Frag} {H : Hp} {Q : VK} {l : Addr} {xs : List V} {i : Int} (h : SqL K H l xs) (h0 : 0 ≤ i) (h1 : i < (xs.length : Int)) (k : ∀ v, v ∈ xs → Q v H) : rIxL K (.ref l) (.int i) H Q := by
  have h2 : i.toNat < xs.length := by omega
  exact ixL h (atI_of h0 (List.getElem?_eq_getElem h2)) (k _ (List.getElem_mem h2))
/-! ### a def that calls itself: nothing is asked with no call left -/
theorem none_left {P : Program} {w : World} {K : PySem.W.Frag} {mg : Str → Option Value} {base : Heap} {k : Nat} {f : Addr} {fd : FuncData} {ps : List Str} {sp : Sp} (no : ∀ vs H Q E, ¬ sp vs H Q E) : FnOk P w K mg base CX0 k f fd ps sp :=
  ⟨fun vs H Q E h => absurd h (no vs H Q E), fun A outer s H args us vs Q E _ _ _ _ h => absurd h (no vs H Q E)⟩
end Rd

set_option Elab.async false
set_option linter.all false
set_option maxRecDepth 100000
set_option maxHeartbeats 4000000
/-! Own operators of a class of one's own, by the text's defs. -/
namespace Bd
open PySem PySem.W PySem.Calls PyProof.Rows
section
variable {prog : Program} {w : World} {A : Around} {E : Value → Shared → Prop} {s : Shared} {K : Frag} {x y C L f : Addr} {h₀ : Heap} {m : Str → Option Value} {ox oy : Obj} {od od' : Option Obj}
/-- x op y, two instances of one class -/
theorem bin_one {op : Operator} {Q : Value → Shared → Prop} (F : Fr h₀ L s.heap m) (X₀ : K.In h₀) (I : InstAt s.heap x ox C od) (J : InstAt s.heap y oy C od') (hc : selfFirst K C = true)
    (hs : findIn K (.ref C) (PySem.dunder op.info.2) = some (some (.ref f))) (hf : isFn K (.ref f) = true)
    (h : wpAny (model prog w) A (call (.ref f) [.ref x, .ref y]) (PySem.W.CmpBack Q) E s) : wpAny (model prog w) A (binaryOp op (.ref x) (.ref y)) Q E s := by
  have X := X₀.keeps F.keep
  obtain ⟨cd, rest, hcd, hm⟩ := ksp_first hc
  rcases hi : op.info with ⟨sym, nm⟩
  rw [hi] at hs
  dsimp only at hs
  have one := ksp_try X I hs hf h
  obtain ⟨hh, g, d, tt, os⟩ := s
  have L1 : Looks (model prog w) hh (typeOf (.ref x)) (.ref C) := I.type
  have L2 : Looks (model prog w) hh (typeOf (.ref y)) (.ref C) := J.type
  have L3 : Looks (model prog w) hh (fillsNumberSlot (.ref C) nm) true := fills_K X hcd hm hs
  have heq : (Value.ref C == Value.ref C) = true := beq_self_eq_true _
  simp only [binaryOp, hi]
  refine wpAny_holding (wpAny_bind ?_)
  unfold binaryOp1
  refine wpAny_bind (L1.at (wpAny_bind (L2.at (wpAny_bind (L3.at ?_)))))
  simp only [heq, if_true]
  ksp_lk
  refine wpAny_mono one (fun r s' hr' => ?_) fun _ _ e => e
  obtain ⟨v, rfl, hq⟩ := hr'
  ksp_lk
  exact hq
end
end Bd
namespace Bd
open PySem PySem.Spec PyProof.Rows L2
theorem back_ep {X : Cx} {pins : List (Addr × Obj)} {σ : L2.St} {Q : VK} {u : Value} {s' : Shared} (h : EP X pins σ Q u s') : PySem.W.CmpBack (EP X pins σ Q) u s' := by
  cases u with
  | notImplemented =>
    obtain ⟨v, H', _, r, _⟩ := h
    cases v <;> first | (obtain ⟨_, r⟩ := r; exact nomatch r) | exact nomatch (show _ = _ from r)
  | _ => exact h
section
variable {X : Cx} {pins : List (Addr × Obj)} {σ : L2.St} {H : Hp} {s : Shared} {CT : CXT} {n : Nat} {C f : Addr} {fd : FuncData} {ps : List Str} {sp : Sp} {E : XK}
/-- a call of a def of one's own, by its value -/
theorem call_def {vs : List V} {us : List Value} {Q : VK} (F : FnOk X.prog X.w X.K X.mg X.base CT n f fd ps sp) (hb : Binds X.K fd ps []) (hx : Passes CT X E) (hr : Room n X.A) (I : Inv X pins σ H s) (r : Vals vs us) (hsp : sp vs H Q E) :
    wpAny (model X.prog X.w) X.A (call (.ref f) us) (EP X pins σ Q) X.xe s := by
  have hl := F.len _ _ _ _ hsp
  have hu : us.length = ps.length := by rw [← r.length]; exact hl
  refine wpAny_call (codeAny_mono (F.run X.A X.stack s H ⟨us, []⟩ us vs Q E hr I.env0 (by
    have := hb s us I.kIn (by simpa using hu)
    simpa using this) r hsp) fun z s' hq => ?_)
  cases z with
  | error e => exact hx pins σ H s e s' I hq
  | ok fl =>
    cases fl with
    | ret w => exact I.after hq
    | next => exact False.elim hq
    | brk => exact False.elim hq
    | cont => exact False.elim hq
/-- x op y, both of the class at C -/
def rOwn2 (C : Addr) (sp : Sp) (E : XK) : R2 := fun x y H Q => ∃ a b dx dy fs gs, x = .ref a ∧ y = .ref b ∧ H a = some (.ins C dx fs) ∧ H b = some (.ins C dy gs) ∧ sp [.ref a, .ref b] H Q E
theorem op_own {op : Operator} (F : FnOk X.prog X.w X.K X.mg X.base CT n f fd ps sp) (hc : PySem.W.selfFirst X.K C = true) (hs : PySem.W.findIn X.K (.ref C) (PySem.dunder op.info.2) = some (some (.ref f))) (hf : PySem.W.isFn X.K (.ref f) = true)
    (hb : Binds X.K fd ps []) (hx : Passes CT X E) (hr : Room n X.A) : OpR X (binaryOp op) (rOwn2 C sp E) := by
  intro pins s σ H x y v u Q I rx ry h
  obtain ⟨a, b, dx, dy, fs, gs, rfl, rfl, ha, hb', hsp⟩ := h
  obtain rfl : v = Value.ref a := rx
  obtain rfl : u = Value.ref b := ry
  obtain ⟨mA, J, _⟩ := ins_get I.hok ha
  obtain ⟨mB, J', _⟩ := ins_get I.hok hb'
  obtain ⟨od, J, _⟩ := J.look
  obtain ⟨od', J', _⟩ := J'.look
  obtain ⟨m, hF⟩ := I.fr
  refine bin_one hF I.ok.mod.kin J J' hc hs hf ?_
  exact wpAny_mono (call_def F hb hx hr I (vs := [.ref a, .ref b]) (.cons rfl (.cons rfl .nil)) hsp) (fun _ _ h => back_ep h) fun _ _ e => e
/-- -x -/
def rOwn1 (C : Addr) (sp : Sp) (E : XK) : V → Hp → VK → Prop := fun x H Q => ∃ a dx fs, x = .ref a ∧ H a = some (.ins C dx fs) ∧ sp [.ref a] H Q E
theorem un_own (F : FnOk X.prog X.w X.K X.mg X.base CT n f fd ps sp) (hs : PySem.W.findIn X.K (.ref C) "__neg__" = some (some (.ref f))) (hf : PySem.W.isFn X.K (.ref f) = true)
    (hb : Binds X.K fd ps []) (hx : Passes CT X E) (hr : Room n X.A) : UnR X (unaryOp .USub) (rOwn1 C sp E) := by
  intro pins s σ H x v Q I rx h
  obtain ⟨a, dx, fs, rfl, ha, hsp⟩ := h
  obtain rfl : v = Value.ref a := rx
  obtain ⟨mA, J, _⟩ := ins_get I.hok ha
  obtain ⟨od, J, _⟩ := J.look
  obtain ⟨m, hF⟩ := I.fr
  exact PySem.W.ksp_neg hF I.ok.mod.kin J hs hf (call_def F hb hx hr I (vs := [.ref a]) (.cons rfl .nil) hsp)
/-- x == y, both of the class at C, whatever __eq__ says -/
theorem op_eqOwn (F : FnOk X.prog X.w X.K X.mg X.base CT n f fd ps sp) (hs : PySem.W.findIn X.K (.ref C) "__eq__" = some (some (.ref f))) (hf : PySem.W.isFn X.K (.ref f) = true)
    (hb : Binds X.K fd ps []) (hx : Passes CT X E) (hr : Room n X.A) : OpR X (compareOp .Eq) (rOwn2 C sp E) := by
  intro pins s σ H x y v u Q I rx ry h
  obtain ⟨a, b, dx, dy, fs, gs, rfl, rfl, ha, hb', hsp⟩ := h
  obtain rfl : v = Value.ref a := rx
  obtain rfl : u = Value.ref b := ry
  obtain ⟨mA, J, _⟩ := ins_get I.hok ha
  obtain ⟨mB, J', _⟩ := ins_get I.hok hb'
  obtain ⟨od, J, _⟩ := J.look
  obtain ⟨od', J', _⟩ := J'.look
  obtain ⟨m, hF⟩ := I.fr
  show wpAny (model X.prog X.w) X.A (richCompare .Eq (.ref a) (.ref b)) _ _ _
  refine PySem.W.cmp_K (op := .Eq) (tb := .ref C) hr.units0 hF I.ok.mod.kin J J'.type (by simp [PySem.W.notFirst]) hs hf ?_
  exact wpAny_mono (call_def F hb hx hr I (vs := [.ref a, .ref b]) (.cons rfl (.cons rfl .nil)) hsp) (fun _ _ h => back_ep h) fun _ _ e => e
end
end Bd
namespace Bd
open PySem PySem.W PySem.Calls PyProof.Rows
/-- by the text, then by the number -/
def ltSI (p q : Str × Int) : Bool := if p.1 = q.1 then decide (p.2 < q.2) else decide (p.1.cps.toList < q.1.cps.toList)
theorem str_ext {x y : Str} (h : x.cps.toList = y.cps.toList) : x = y := by rw [Rd.S_of x, Rd.S_of y, h]
theorem ltSI_iff {p q : Str × Int} : ltSI p q = true ↔ p.1.cps.toList < q.1.cps.toList ∨ (p.1 = q.1 ∧ p.2 < q.2) := by
  unfold ltSI
  by_cases e : p.1 = q.1
  · rw [if_pos e, e]
    exact ⟨fun h => .inr ⟨rfl, of_decide_eq_true h⟩, fun h => h.elim (fun z => absurd z (List.lt_irrefl _)) fun z => decide_eq_true z.2⟩
  · rw [if_neg e]
    exact ⟨fun h => .inl (of_decide_eq_true h), fun h => h.elim decide_eq_true fun z => absurd z.1 e⟩
theorem ltSI_no {p q : Str × Int} : ltSI p q = false ↔ ¬ (p.1.cps.toList < q.1.cps.toList ∨ (p.1 = q.1 ∧ p.2 < q.2)) := by
  rw [← ltSI_iff]; simp
theorem swo_SI {α : Type} (k : α → Str × Int) : SrtO.Swo fun v u => ltSI (k v) (k u) := by
  refine ⟨fun x y h => ?_, fun x y z h1 h2 => ?_⟩
  · have a := ltSI_iff.mp h
    refine ltSI_no.mpr fun b => ?_
    rcases a with a | a
    · rcases b with b | b
      · exact List.lt_asymm a b
      · rw [b.1] at a; exact List.lt_irrefl _ a
    · rcases b with b | b
      · rw [a.1] at b; exact List.lt_irrefl _ b
      · omega
  · have a := ltSI_no.mp h1
    have b := ltSI_no.mp h2
    refine ltSI_no.mpr fun c => ?_
    rcases c with c | ⟨c1, c2⟩
    · have d : (k x).1.cps.toList ≤ (k y).1.cps.toList := List.not_lt.mp fun z => a (.inl z)
      have d2 : (k y).1.cps.toList ≤ (k z).1.cps.toList := List.not_lt.mp fun q => b (.inl q)
      exact List.not_lt.mpr (List.le_trans d d2) c
    · have d1 : (k x).1.cps.toList ≤ (k y).1.cps.toList := List.not_lt.mp fun z => a (.inl z)
      have d2 : (k y).1.cps.toList ≤ (k z).1.cps.toList := List.not_lt.mp fun z => b (.inl z)
      rw [c1] at d2
      have e : (k x).1 = (k y).1 := str_ext (List.le_antisymm d1 d2)
      refine a (.inr ⟨e.symm, ?_⟩)
      have e2 : ¬ (k z).2 < (k y).2 := fun z => b (.inr ⟨c1.trans e, z⟩)
      omega
/-- a pair of a text and a number -/
def IsSI (h : Heap) (v : Value) (p : Str × Int) : Prop := ∃ a o t u n, v = .ref a ∧ h.get? a = some o ∧ o.cls = .type "tuple" ∧ o.data = .seq #[.str p.1 t, .int p.2 u] n
theorem IsSI.keeps {h h' : Heap} {v : Value} {p : Str × Int} (x : IsSI h v p) (k : ∀ b o, h.get? b = some o → o.cls = .type "tuple" → h'.get? b = some o) : IsSI h' v p := by
  obtain ⟨a, o, t, u, n, e, ho, hc, hd⟩ := x
  exact ⟨a, o, t, u, n, e, k _ _ ho hc, hc, hd⟩
section
variable {prog : Program} {w : World} {A : Around} {s : Shared}
theorem si_cmp {vs : List Value} {k : Value → Str × Int} (hp : ∀ v ∈ vs, IsSI s.heap v (k v)) : SrtO.Cmp prog w A s (tuples' true) (fun p => p.1 ∈ vs) (SrtO.lt2 fun v u => ltSI (k v) (k u)) := by
  intro p q hm hm'
  have h1 := hp _ hm
  have h2 := hp _ hm'
  show wpAny (model prog w) A (keyLt' (tuples' true) p.1 q.1) (fun r s' => s' = s ∧ r = ltSI (k p.1) (k q.1)) (fun _ _ => False) s
  generalize k p.1 = x at h1 ⊢
  generalize k q.1 = y at h2 ⊢
  obtain ⟨a, o, t, u, n, e, ho, hc, hd⟩ := h1
  obtain ⟨a', o', t', u', n', e', ho', hc', hd'⟩ := h2
  rw [e, e']
  refine PySem.W.kat_lt ho hd ho' hd' ?_
  show PySem.W.KatLex prog w A true (decide (2 < 2)) _ [(.str x.1 t, .str y.1 t'), (.int x.2 u, .int y.2 u')] 0 s
  refine PySem.W.kat_cons (SeqAt.EqAt.str_str x.1 t y.1 t' prog w _ _ ?_)
  refine PySem.W.kat_go (fun e1 => ?_) (fun e1 => ?_)
  · have ex : x.1 = y.1 := by simpa using e1
    refine PySem.W.kat_yes (PySem.W.kat_cons (SeqAt.EqAt.int_int x.2 u y.2 u' prog w _ _ ?_))
    refine PySem.W.kat_go (fun e2 => ?_) (fun e2 => ?_)
    · have ey : x.2 = y.2 := by simpa using e2
      refine PySem.W.kat_yes (PySem.W.kat_nil ⟨rfl, ?_⟩)
      unfold ltSI
      rw [if_pos ex, ey]
      exact (decide_eq_false (Int.lt_irrefl _)).symm
    · refine PySem.W.kat_no (PySem.W.kat_one _ _ (PyProof.Rows.lt_int ?_))
      refine ⟨rfl, ?_⟩
      unfold ltSI
      rw [if_pos ex]
  · have ex : ¬ x.1 = y.1 := by simpa using e1
    refine PySem.W.kat_no (oneLt_str ⟨rfl, ?_⟩)
    unfold ltSI
    rw [if_neg ex]
theorem si_firsts {h : Heap} {k : Value → Str × Int} : ∀ {vs : List Value}, (∀ v ∈ vs, IsSI h v (k v)) → ∃ fs : List Value, PySem.W.KatTups h vs fs ∧ fs.length = vs.length ∧ ∀ f ∈ fs, ∃ x t, f = Value.str x t
  | [], _ => ⟨[], PySem.W.KatTups.nil, rfl, fun _ hm => by simp at hm⟩
  | v :: vs, hp => by
    obtain ⟨fs, h1, h2, h3⟩ := si_firsts (vs := vs) fun v' hm => hp v' (List.mem_cons_of_mem _ hm)
    obtain ⟨a, o, t, u, n, e, ho, hc, hd⟩ := hp v (List.mem_cons_self ..)
    subst e
    refine ⟨.str _ t :: fs, PySem.W.KatTups.cons ho hc hd rfl h1, by rw [List.length_cons, List.length_cons, h2], fun f hm => ?_⟩
    rcases List.mem_cons.mp hm with rfl | hm
    · exact ⟨_, _, rfl⟩
    · exact h3 f hm
theorem si_sortable {a : Addr} {vs : List Value} {k : Value → Str × Int} (h0 : 0 < vs.length) (hp : ∀ v ∈ vs, IsSI s.heap v (k v)) (ha : ∀ o, s.heap.get? a = some o → o.cls ≠ .type "tuple") :
    SrtO.SortableO prog w A s a vs fun v u => ltSI (k v) (k u) := by
  intro h' keep
  have hp' : ∀ v ∈ vs, IsSI h' v (k v) := fun v hm => (hp v hm).keeps fun b o e c => keep b o (fun z => by subst z; exact ha o e c) e
  obtain ⟨fs, h1, h2, h3⟩ := si_firsts hp'
  refine ⟨tuples' true, fun Q E hq => ?_, si_cmp hp'⟩
  refine PySem.W.kat_kind (T := .type "str") h1 (by omega) (fun f hm => ?_) (by rfl) ?_
  · obtain ⟨x, t, rfl⟩ := h3 f hm
    exact PySem.W.Looks.now
  · have e : (Value.type "str" != Value.type "tuple") = true := by first | decide +kernel | rfl | decide
    rw [e]
    exact hq
end
end Bd
namespace Bd
open PySem PySem.Spec PyProof.Rows L2
/-- the pair that a value stands for, read off the heap -/
def siOf (h : Heap) (v : Value) : Str × Int := match v with
  | .ref b => (match h.get? b with
    | some o => (match o.data with
      | .seq xs _ => (match xs.toList with
        | [.str x _, .int y _] => (x, y)
        | _ => (⟨#[]⟩, 0))
      | _ => (⟨#[]⟩, 0))
    | none => (⟨#[]⟩, 0))
  | _ => (⟨#[]⟩, 0)
theorem IsSI.of {h : Heap} {v : Value} {p : Str × Int} (x : IsSI h v p) : siOf h v = p := by
  obtain ⟨a, o, t, u, n, rfl, ho, hc, hd⟩ := x
  unfold siOf
  simp only [ho, hd]
/-- an asset as a dict's key -/
def eK (p : Str × Int) : List Key := [Sum.inr p.1, Sum.inl p.2]
/-- addresses of assets' tuples -/
def AsAt (H : Hp) (ps : List (Addr × (Str × Int))) : Prop := ∀ z ∈ ps, H z.1 = some (.tup [.str z.2.1, .int z.2.2])
theorem isSI_of {P : Program} {w : World} {H : Hp} {h : Heap} {b : Addr} {p : Str × Int} (ok : HOk P w H h) (e : H b = some (.tup [.str p.1, .int p.2])) : IsSI h (.ref b) p := by
  obtain ⟨_, its, r, o, ho, hc, n, hd⟩ := ok _ _ e
  obtain ⟨u1, u2, rfl, ri, rj⟩ := vals2 r
  obtain ⟨t1, rfl⟩ := ri
  obtain ⟨t2, rfl⟩ := rj
  exact ⟨b, o, t1, t2, n, rfl, ho, hc, hd⟩
theorem kt_as {H : Hp} : ∀ {m : List ((Str × Int) × V)} {ks : List (List Key × Addr × Value)}, KT H (m.map fun e => (eK e.1, e.2)) ks → ∃ ps : List (Addr × (Str × Int)), AsAt H ps ∧ ps.map (·.2) = m.map (·.1) ∧ ps.map (·.1) = ks.map fun x => x.2.1
  | [], _, r => by
    rw [List.map_nil] at r
    cases r
    exact ⟨[], fun _ h => absurd h List.not_mem_nil, rfl, rfl⟩
  | e :: m, _, r => by
    rw [List.map_cons] at r
    cases r with
    | @cons p q ps qs h t =>
      obtain ⟨ps', a1, a2, a3⟩ := kt_as t
      refine ⟨(q.2.1, e.1) :: ps', fun z hz => ?_, by rw [List.map_cons, List.map_cons, a2], by rw [List.map_cons, List.map_cons, a3]⟩
      rcases List.mem_cons.mp hz with rfl | hz
      · exact h.2.1
      · exact a1 z hz
section
variable {X : Cx}
/-- sorted(d), the keys of d pairs of a text and a number -/
def rSortedDT : List V → Hp → VK → Prop := fun xs H Q => ∃ (a : Addr) (m : List ((Str × Int) × V)), xs = [.ref a] ∧ Rd H a (.dT (m.map fun e => (eK e.1, e.2))) ∧
  ∀ (ps : List (Addr × (Str × Int))) (p : Addr), AsAt H ps → SrtO.Srtd ltSI (ps.map (·.2)) → (ps.map (·.2)).Perm (m.map (·.1)) → H p = none → Q (.ref p) (upd H p (.lst (ps.map fun z => V.ref z.1)))
theorem cr_sortedDT (hcalm : X.calm = true) : CallR X (.builtin "sorted") rSortedDT := by
  intro pins s σ H xs us Q I r q
  obtain ⟨a, m, rfl, hd, q⟩ := q
  obtain ⟨u, rfl, rx⟩ := vals1 r
  cases rx
  obtain ⟨z, hs, ks, pr, o, es, ep, ho, hx, hdt, he, hn⟩ := (show ObjOk X.prog X.w H s.heap a (.dT _) from hd.ok I.hok)
  have l1 : es.size = ks.length := size_of_entries he
  have l2 : (m.map fun e => (eK e.1, e.2)).length = ks.length := Paired.length pr
  have l3 : m.length = ks.length := by simpa using l2
  refine Calls.call_function_entry PyProof.Rows.kind_sorted PyProof.Rows.plain_sorted PyProof.Rows.entry_sorted (PyProof.Rows.args_sorted1 _) ?_
  unfold Builtin.«sorted»
  refine wpAny_bind (m := checkCount "sorted" 1 1 _) (wpAny_pure ?_)
  refine wpAny_bind (PySem.W.kdu_collect (A := X.A.in1) (kdl_raw hs hx hdt) (I.ok.hd hcalm) ho (by omega) fun h' tk acc hk it => ?_)
  have ea : acc.toList = (ks.map fun x => x.2.1).map Value.ref := by
    have hl : acc.toList.length = ks.length := by rw [Array.length_toList, it.1]; exact l1
    apply List.ext_getElem?
    intro j
    rw [List.map_map, List.getElem?_map]
    cases hj : acc.toList[j]? with
    | none =>
      have h1 := List.getElem?_eq_none_iff.mp hj
      rw [List.getElem?_eq_none (by omega)]
      rfl
    | some v =>
      obtain ⟨en, hen, hv⟩ := it.2 j v (by rw [← Array.getElem?_toList]; exact hj)
      have qe := entry_at he j
      rw [hen] at qe
      cases hb : ks[j]? with
      | none =>
        rw [hb] at qe
        exact nomatch (show some en = none from qe)
      | some b =>
        rw [hb] at qe
        have e2 : en = entryOfKey (tupleKind (mixKind X.prog X.w)) b := Option.some.inj qe
        rw [hv, e2]
        rfl
  have I1 : Inv X pins σ H { s with heap := h', toks := tk } := I.kept hk
  obtain ⟨ps0, a1, a2, a3⟩ := kt_as pr
  have eb : acc.toList = ps0.map fun z => Value.ref z.1 := by rw [ea, ← a3, List.map_map]; rfl
  have hal : acc.toList.length ≤ sizeLine := by
    rw [Array.length_toList, it.1]; omega
  refine wpAny_bind (wpAny_newList ?_ hal)
  have hoL : (h'.push (seqObj "list" acc.toList.toArray 0)).get? h'.objs.size = some (seqObj "list" acc.toList.toArray 0) := Heap.get?_push_size _ rfl
  have hsi : ∀ v ∈ acc.toList, IsSI (h'.push (seqObj "list" acc.toList.toArray 0)) v (siOf s.heap v) := fun v hv => by
    rw [eb] at hv
    obtain ⟨zz, hz, rfl⟩ := List.mem_map.mp hv
    have q := isSI_of I.hok (a1 zz hz)
    rw [q.of]
    exact (isSI_of I1.hok (a1 zz hz)).keeps fun b ob e _ => Heap.get?_push_of_some _ e
  show wpAny _ _ _ _ _ { s with heap := h'.push (seqObj "list" acc.toList.toArray 0), toks := tk }
  refine wpAny_bind (wpAny_holding (wpAny_call_entry PyProof.Rows.slot_list_sort ⟨_, hoL, rfl⟩ PyProof.Rows.entry_list_sort
    (SrtO.list_sort_ord (ltv := fun v u => ltSI (siOf s.heap v) (siOf s.heap u)) (s := { s with heap := h'.push (seqObj "list" acc.toList.toArray 0), toks := tk }) (swo_SI (siOf s.heap)) hoL hal (fun h2 => si_sortable (by omega) hsi fun ob e => by
      have e' := e.symm.trans hoL
      cases e'
      intro c
      exact absurd (Value.type.inj c) (by decide)) fun out h1 h2 => ⟨_, rfl, ?_⟩)
    (PyProof.Rows.args_list_sort _)))
  obtain ⟨ps, b1, b2⟩ := perm_lift (fun z : Addr × (Str × Int) => Value.ref z.1) h2.perm ps0 eb.symm
  have hAs : AsAt H ps := fun z hz => a1 z (b1.mem_iff.mp hz)
  have hk2 : ∀ z ∈ ps, siOf s.heap (Value.ref z.1) = z.2 := fun z hz => (isSI_of I.hok (hAs z hz)).of
  have hsr : SrtO.Srtd ltSI (ps.map (·.2)) := by
    rw [← b2] at h1
    have h1' := List.pairwise_map.mp h1
    refine List.pairwise_map.mpr (h1'.imp_of_mem fun {x y} hx hy hh => ?_)
    have hh' : ltSI (siOf s.heap (Value.ref y.1)) (siOf s.heap (Value.ref x.1)) = false := hh
    rw [hk2 x hx, hk2 y hy] at hh'
    exact hh'
  obtain ⟨e', he'⟩ := PyProof.Rows.sortedHeap_at (vs := acc.toList) (out := out.toArray) hoL
  have hlen : (ps.map fun z => V.ref z.1).length ≤ sizeLine := by
    rw [List.length_map, b1.length_eq]
    have : ps0.length = acc.toList.length := by rw [eb, List.length_map]
    omega
  refine wpAny_pure ⟨_, rfl, .ref h'.objs.size, upd H h'.objs.size (.lst (ps.map fun z => V.ref z.1)), I1.laid (t' := tk) (fun b u e => ?_) (Nat.le_refl _)
    (show ObjOk X.prog X.w _ _ _ (.lst _) from ⟨hlen, out, e', ?_, he'⟩), rfl, q ps _ hAs hsr ((b1.map _).trans (by rw [a2])) (I1.hok.fresh (Nat.le_refl _))⟩
  · have hb : b < h'.objs.size := Heap.lt_size e
    rw [PyProof.Rows.sortedHeap_old (Nat.ne_of_lt hb) (by rw [size_push']; exact Nat.lt_succ_of_lt hb)]
    exact Heap.get?_push_of_some _ e
  · rw [← b2]
    have := vals_refs (ps.map (·.1))
    rw [List.map_map, List.map_map] at this
    exact this
end
end Bd
namespace Bd
open PySem PySem.Spec PyProof.Rows
section
variable {prog : Program} {w : World} {A : Around} {E : Value → Shared → Prop} {s : Shared} {r d : Addr} {es : Array DictEntry} {ep : Nat}
theorem code_tuple_items {Q₁ : Value → Shared → Prop} (hh : A.handled = none) (hv : s.heap.IsItemsView r d) (hm : DT.Raw s.heap d es ep) (hn : es.size ≤ sizeLine)
    (h : ∀ (h' : Heap) (tk : Nat) (as : List Addr), (∀ b o, s.heap.get? b = some o → h'.get? b = some o) → s.heap.objs.size < h'.objs.size → as.length = es.size → DT.Made es s.heap.objs.size h' as →
      Q₁ (.ref h'.objs.size) { s with heap := h'.push { cls := .type "tuple", data := .seq (as.map Value.ref).toArray }, toks := tk }) :
    codeAny (model prog w) A (.call (.builtin "tuple.__new__") ⟨[.type "tuple", .ref r], []⟩) (wants Q₁ E) s := by
  refine codeAny_of_tree ?_
  show wpAny _ A.in1 (do checkBuiltinCall "tuple.__new__" ⟨[.type "tuple", .ref r], []⟩; again (.builtin "tuple.__new__" ⟨[.type "tuple", .ref r], []⟩)) _ _ s
  refine wpAny_bind (wpAny_of_eq (F.newCall_tuple_1 _) (wpAny_pure ⟨plainId_quiet F.plain_tuple_new _, codeAny_builtin F.entry_tuple_new ?_⟩))
  rw [Around.under_plainId F.plain_tuple_new _]
  have hsub := sub_tuple_self
  have hinit := init_tuple_lookup
  have hmh := madeHere_tuple
  have hTI : s.TypeIs (.ref r) "dict_items" := by
    obtain ⟨o, ho, hc, _⟩ := hv
    exact ⟨o, ho, hc⟩
  wp_walk using wpAny_typeOf hTI, DT.collectI (A := A.in1) (show A.in1.handled = none from hh) hv hm hn
  intro h' tk as hk hlt hl hG
  show wpAny _ _ (Builtin.Tuple.tupleExact (as.map Value.ref).toArray >>= fun v => ret v) _ _ _
  unfold Builtin.Tuple.tupleExact
  refine wpAny_bind (wpAny_newObj_type ?_ (by show (as.map Value.ref).toArray.size ≤ sizeLine; simp only [List.size_toArray, List.length_map]; omega))
  exact wpAny_pure (h h' tk as hk hlt hl hG)
theorem call_tuple_items {Q : Value → Shared → Prop} (hh : A.handled = none) (hv : s.heap.IsItemsView r d) (hm : DT.Raw s.heap d es ep) (hn : es.size ≤ sizeLine)
    (h : ∀ (h' : Heap) (tk : Nat) (as : List Addr), (∀ b o, s.heap.get? b = some o → h'.get? b = some o) → s.heap.objs.size < h'.objs.size → as.length = es.size → DT.Made es s.heap.objs.size h' as →
      Q (.ref h'.objs.size) { s with heap := h'.push { cls := .type "tuple", data := .seq (as.map Value.ref).toArray }, toks := tk }) :
    wpAny (model prog w) A (call (.type "tuple") [.ref r]) Q E s := by
  refine callType_codes (Q₁ := fun obj s₁ => s₁.TypeIs obj "tuple" ∧ Q obj s₁) F.called_tuple (F.typeCall_tuple_1 _) F.entry_object_init
    (code_tuple_items (A := A.in1) hh hv hm hn fun h' tk as hk hlt hl hG => ⟨⟨_, Heap.get?_push_size _ rfl, rfl⟩, h h' tk as hk hlt hl hG⟩) fun obj s₁ h₁ => ?_
  exact ⟨h₁.1, F.args_object_init_2 obj _, object_init_meets F.called_tuple.init.lookup F.called_tuple.made (by decide) prog w A.in1 _ s₁ ⟨h₁.1, rfl, h₁.2⟩⟩
end
end Bd
namespace Bd
open PySem PySem.Spec PyProof.Rows L2 L2.DX
section
variable {X : Cx}
/-- tuple(d.items()): a row of pairs (asset, value) -/
def rTupIt : List V → Hp → VK → Prop := fun vs H Q => ∃ (p a : Addr) (m : List ((Str × Int) × V)), vs = [.ref p] ∧ H p = some (itemsO p a) ∧ H a = some (.dT (m.map fun e => (eK e.1, e.2))) ∧
  ∀ (H' : Hp) (q : Addr) (zs : List (Addr × ((Str × Int) × V))), (∀ b o, H b = some o → H' b = some o) → H q = none → zs.map (·.2) = m → H' q = some (.tup (zs.map fun z => V.ref z.1)) →
    (∀ z ∈ zs, ∃ kq, H' z.1 = some (.tup [.ref kq, z.2.2]) ∧ H' kq = some (.tup [.str z.2.1.1, .int z.2.1.2])) → Q (.ref q) H'
theorem cr_tupIt (hc : X.calm = true) : CallR X (.type "tuple") rTupIt := by
  intro pins s σ H xs us Q I r h
  obtain ⟨p, a, m, rfl, hp, ha, q⟩ := h
  obtain ⟨u, rfl, ru⟩ := vals1 r
  obtain rfl : u = Value.ref p := ru
  have view : s.heap.IsItemsView p a := (show ObjOk X.prog X.w H s.heap p (itemsO p a) from I.hok p _ hp).1
  obtain ⟨z, hd, xs', rel, o, es, ep, ho, hx, hdat, hes, his, hn⟩ := dt_of I.hok ha
  have l1 : (m.map fun e => (eK e.1, e.2)).length = xs'.length := Paired.length rel
  rw [List.length_map] at l1 z
  have l2 : es.size = xs'.length := size_of_entries hes
  refine call_tuple_items (es := es) (ep := ep) (I.ok.hd hc) view ⟨o, ho, hx, hdat⟩ (by omega) fun h' tk as hk hlt hl hG => ?_
  have lam : as.length = m.length := by omega
  have nd : as.Nodup := List.Pairwise.imp (fun h => Nat.ne_of_lt h) hG.rise
  have hN : s.heap.objs.size < h'.objs.size := hlt
  generalize hh : h'.push { cls := .type "tuple", data := .seq (as.map Value.ref).toArray } = h2
  have ka : ∀ b o, h'.get? b = some o → h2.get? b = some o := fun b o e => by rw [← hh]; exact Heap.get?_push_of_some _ e
  have hob : h2.get? h'.objs.size = some { cls := .type "tuple", data := .seq (as.map Value.ref).toArray } := by rw [← hh]; exact Heap.get?_push_size _ rfl
  have I1 : Inv X pins σ H { s with heap := h2, toks := tk } := I.kept (t' := tk) fun b o e => ka _ _ (hk b o e)
  have hn0 : H h'.objs.size = none := I.hok.fresh (Nat.le_of_lt hN)
  have I2 : Inv X pins σ (upd H h'.objs.size (.tup (as.map V.ref))) { s with heap := h2, toks := tk } :=
    I1.take (h' := h2) (t' := tk) (fun b ob _ e => e) (I.fpOk (Nat.le_of_lt hN) hn0) ⟨by rw [List.length_map]; omega, as.map Value.ref, vals_refs as, ⟨_, hob, rfl, 0, rfl⟩⟩
  obtain ⟨H2, I3, g, qt⟩ := takeT (P := fun b vs => ∃ (j : Nat) (e : (Str × Int) × V) (kq : Addr), as[j]? = some b ∧ m[j]? = some e ∧ vs = [.ref kq, e.2] ∧ H kq = some (.tup [.str e.1.1, .int e.1.2])) I as _ I2 nd fun b hb => by
    obtain ⟨j, hj⟩ := List.mem_iff_getElem?.mp hb
    obtain ⟨en, he, hg⟩ := hG.pairs j b hj
    rw [entry_at hes j] at he
    cases hxj : xs'[j]? with
    | none =>
      rw [hxj] at he
      exact nomatch (show (none : Option DictEntry) = some en from he)
    | some x =>
      rw [hxj] at he
      have een : entryOfKey (tupleKind (mixKind X.prog X.w)) x = en := Option.some.inj he
      obtain ⟨e0, he0, r1, r2, r3⟩ := pget rel hxj
      rw [List.getElem?_map] at he0
      cases hkj : m[j]? with
      | none =>
        rw [hkj] at he0
        exact nomatch (show (none : Option (List L2.Key × V)) = some e0 from he0)
      | some e =>
        rw [hkj] at he0
        have ee : (eK e.1, e.2) = e0 := Option.some.inj he0
        rw [← ee] at r2 r3
        have hbl : s.heap.objs.size ≤ b := Nat.le_of_lt (hG.above b hb)
        have hbn : b ≠ h'.objs.size := Nat.ne_of_lt (Heap.lt_size hg)
        refine ⟨hbl, by rw [upd_ne hbn]; exact I.hok.fresh hbl, [.ref x.2.1, e.2], ⟨j, e, x.2.1, hj, hkj, rfl, r2⟩, fun H3 => ⟨by rw [sizeLine_eq]; show 2 ≤ 16777216; omega, [Value.ref x.2.1, x.2.2], .cons rfl (.cons r3 .nil), ⟨_, ka _ _ hg, rfl, 0, ?_⟩⟩⟩
        rw [← een]
        rfl
  have gr : ∀ b o, H b = some o → H2 b = some o := fun b o e => g b o (by rw [upd_ne (ne_of_none e hn0)]; exact e)
  refine ⟨.ref h'.objs.size, H2, I3, rfl, q H2 h'.objs.size (as.zip m) gr hn0 (List.map_snd_zip (by omega)) ?_ fun z' hz' => ?_⟩
  · have e1 : ((as.zip m).map fun z => V.ref z.1) = as.map V.ref := by
      have := List.map_fst_zip (l₁ := as) (l₂ := m) (by omega)
      conv => rhs; rw [← this]
      rw [List.map_map]; rfl
    rw [e1]
    exact g _ _ upd_same
  · obtain ⟨i, hi⟩ := List.mem_iff_getElem?.mp hz'
    obtain ⟨i1, i2⟩ := List.getElem?_zip_eq_some.mp hi
    obtain ⟨vs, ⟨j, e, kq, j1, j2, ev, hkq⟩, hH⟩ := qt z'.1 (List.mem_of_getElem? i1)
    have eij : i = j := (List.getElem?_inj (List.getElem?_eq_some_iff.mp i1).1 nd).mp (i1.trans j1.symm)
    subst eij
    have ee : e = z'.2 := Option.some.inj (j2.symm.trans i2)
    rw [ev, ee] at hH
    rw [ee] at hkq
    exact ⟨kq, hH, gr _ _ hkq⟩
end
end Bd
namespace Bd
open PySem PySem.Spec PyProof.Rows L2
section
/-- d[k] = v by a comprehension, keys tuples -/
theorem put_tup {X : Cx} {pins : List (Addr × Obj)} {σ : L2.St} {H : Hp} {s : Shared} {E : Value → Shared → Prop} {D b : Addr} {kvs : List (List Key × V)} {k : List Key} {v : V} {u r : Value} {Q : Unit → Shared → Prop} (hu : X.A.units + 1 < cLine) (I : Inv X pins σ H s)
    (hD : H D = some (.dT kvs)) (hb : H b = some (.tup (k.map kV))) (hz : kvs.length < sizeLine) (ru : u = Value.ref b) (rv : RelV v r) (h : ∀ s', Inv X pins σ (upd H D (.dT (putK kvs k v))) s' → Q () s') :
    wpAny (model X.prog X.w) X.A (dictSet D u r) Q E s := by
  subst ru
  obtain ⟨z, hd, xs, rel, dd⟩ := dt_of I.hok hD
  have hl : (putK kvs k v).length ≤ sizeLine := by have := length_putK kvs k v; omega
  refine wpAny_dictSet_heap (hsz := by rw [← Paired.length rel]; exact z) (show (tupleKind (mixKind X.prog X.w)).room X.A from (show X.A.units < cLine by omega)) (key_of I.hok hb) dd fun h' dd' hs => h _ ?_
  obtain ⟨q, es, ep, hq, h2, h3, h4, _, h5⟩ := dd'
  refine d_write I (by rw [hD]; exact True.intro) hs ⟨q, hq⟩ ⟨hl, hd, _, (rel.put k hb rv).keeps fun c ys ec => ?_, q, es, ep, hq, h2, h3, h4, h5⟩
  rw [upd_ne (ne_of ec hD (fun z => nomatch z))]
  exact ec
end
section
variable {X : Cx}
/-- what {k: v for ..} asks of what it walks, the keys tuples: D the new dict -/
def DcJ (g : TG) (tt : TT) (tk tv : TE) (vs : List Nat) (σ : L2.St) (Q : VK) (J : It) (H1 : Hp) : Prop := ∀ D, H1 D = none → ∃ W : Nat → Nat → Hp → Prop, (∃ m, W 0 m (upd H1 D (.dT []))) ∧ ∀ i m H, W i m H →
  (J.stop i H ∧ Q (.ref D) H) ∨ (J.go i H ∧ ∃ Nx : Hp → Prop, (∀ H', Nx H' → ∃ m', m' < m ∧ W (i + 1) m' H') ∧ ∀ x H', J.yld i H x H' → g x (wipe σ vs) H' fun σ2 H2 => wipe σ2 vs = wipe σ vs ∧ tt σ2 H2 fun t H3 =>
    if t = true then tk σ2 H3 fun y H4 => tv σ2 H4 fun z H5 => ∃ kvs k b, y = .ref b ∧ H5 b = some (.tup (k.map kV)) ∧ H5 D = some (.dT kvs) ∧ kvs.length < sizeLine ∧ Nx (upd H5 D (.dT (putK kvs k z))) else Nx H3)
def tDcT (wi : TI) (g : TG) (tt : TT) (tk tv : TE) (vs : List Nat) : TE := fun σ H Q => wi σ H fun J H1 => DcJ g tt tk tv vs σ Q J H1
theorem pe_dcT {kx vx tg iter : Expr} {ifs : List Expr} {scope : Scope} {own : List (Str × Nat)} {pos : Pos} {wi : TI} {g : TG} {tt : TT} {tk tv : TE} (hu : X.A.units + 1 < cLine) (hc : X.calm = true) (hN : X.N.Nodup) (hi : PI X tg iter wi) (ok : BlkOk X.N X.env.scope scope own)
    (hg : ∀ (s : Shared) (H : Hp) (C : Addr) (cl : List (Str × Addr)) (fp : List Addr), PG (X.blk s H scope (compEnvC scope cl C X.env) fp) tg g) (ht : ∀ (s : Shared) (H : Hp) (C : Addr) (cl : List (Str × Addr)) (fp : List Addr), PTs (X.blk s H scope (compEnvC scope cl C X.env) fp) ifs tt)
    (hk : ∀ (s : Shared) (H : Hp) (C : Addr) (cl : List (Str × Addr)) (fp : List Addr), PE (X.blk s H scope (compEnvC scope cl C X.env) fp) kx tk)
    (he : ∀ (s : Shared) (H : Hp) (C : Addr) (cl : List (Str × Addr)) (fp : List Addr), PE (X.blk s H scope (compEnvC scope cl C X.env) fp) vx tv) (hs : ∀ x, foldedSetIterable iter X.env x = pure x := by intro _; rfl) :
    PE X (.DictComp kx vx [⟨tg, iter, ifs, 0⟩] scope pos) (tDcT wi g tt tk tv (own.map (·.2))) := by
  refine ⟨fun pins s σ H Q I h => ?_⟩
  rw [arm_eval_DictComp]
  have free : ∀ y ∈ scope.names, y.2 = .free → ∃ c, X.env.cells.lookup y.1 = some c := fun y hy e => by
    rcases ok.free y hy e with k | k
    · exact I.ok.has _ (.inl k)
    · exact I.ok.has _ (.inr k)
  refine wpAny_comprehension_free rfl hs (closure_ok free) ok.kind (fun y hy e => by rw [ok.uniq y hy, e]) (thn (hi.run pins s σ H _ I h) fun xv s1 hx => thn hx fun itv s2 h2 => ?_)
  obtain ⟨it, fp, tn, J, H2, rfl, I2, T, st2, f2, q⟩ := h2
  -- the dict that is made, at D
  obtain ⟨D, hD⟩ : ∃ D : Addr, D = s2.heap.objs.size := ⟨_, rfl⟩
  have D0 : H2 D = none := I2.hok.fresh (Nat.le_of_eq hD.symm)
  obtain ⟨W, ⟨m0, w0⟩, turn⟩ := q D D0
  refine wpAny_newObj_type (newEnv_comp ?_)
  rw [← hD]
  obtain ⟨s3, e3⟩ : ∃ s3 : Shared, s3 = { s2 with heap := s2.heap.push { cls := .type "dict", data := .dict #[] } } := ⟨_, rfl⟩
  have p3 : ∀ b o, s2.heap.get? b = some o → s3.heap.get? b = some o := fun b o e => by rw [e3]; exact Heap.get?_push_of_some _ e
  have I3 : Inv X pins σ (upd H2 D (.dT [])) s3 := by
    rw [e3]
    exact I2.laid (t' := s2.toks) (fun b o e => Heap.get?_push_of_some _ e) (Nat.le_of_eq hD.symm) (by rw [hD]; exact dt_empty s2.heap I2.big)
  have f3 : ∀ b ∈ fp, FpOk X pins (upd H2 D (.dT [])) b ∧ b < s3.heap.objs.size := fun b hb => by
    obtain ⟨o, e, _⟩ := T.obj _ _ st2 b hb
    exact ⟨⟨by rw [upd_ne (by rw [hD]; exact Nat.ne_of_lt (Heap.lt_size e))]; exact (f2 b hb).1, (f2 b hb).2⟩, Heap.lt_size (p3 b o e)⟩
  have I4 := block_start I3 ok hN f3
  have pg := hg s3 (upd H2 D (.dT [])) s3.heap.objs.size (cellsFrom (s3.heap.objs.size + 1) scope.names (cloFrom X.env.cells scope.names [])) fp
  have pt := ht s3 (upd H2 D (.dT [])) s3.heap.objs.size (cellsFrom (s3.heap.objs.size + 1) scope.names (cloFrom X.env.cells scope.names [])) fp
  have pk := hk s3 (upd H2 D (.dT [])) s3.heap.objs.size (cellsFrom (s3.heap.objs.size + 1) scope.names (cloFrom X.env.cells scope.names [])) fp
  have pe := he s3 (upd H2 D (.dT [])) s3.heap.objs.size (cellsFrom (s3.heap.objs.size + 1) scope.names (cloFrom X.env.cells scope.names [])) fp
  rw [← e3]
  show codeAny _ _ (.compStart (.DictComp kx vx [⟨tg, iter, ifs, 0⟩] scope pos) 0 (.ref it) (.ref D) (compEnvC scope (cellsFrom (s3.heap.objs.size + 1) scope.names (cloFrom X.env.cells scope.names [])) s3.heap.objs.size X.env))
    (compPost (model X.prog X.w) X.A X.xe none (EP X pins σ Q) (.ref D) s3.heap.objs.size) { s3 with heap := pushCells (s3.heap.push { cls := .type "dict", data := .dict #[] }) scope.names }
  have nf : ∀ b ∈ fp, (upd H2 D (.dT [])) b = none := fun b hb => (f3 b hb).1.1
  have t4 : tn 0 (pushCells (s3.heap.push { cls := .type "dict", data := .dict #[] }) scope.names) := T.keep _ _ _ st2 fun b _ o e => pushCells_keeps _ _ _ _ (Heap.get?_push_of_some _ (p3 b o e))
  generalize hce : compEnvC scope (cellsFrom (s3.heap.objs.size + 1) scope.names (cloFrom X.env.cells scope.names [])) s3.heap.objs.size X.env = ce at I4 pg pt pk pe ⊢
  have cL : ce.locals = s3.heap.objs.size := by rw [← hce]; rfl
  generalize upd H2 D (.dT []) = H3 at I3 f3 I4 pg pt pk pe nf w0
  generalize hs4 : ({ s3 with heap := pushCells (s3.heap.push { cls := .type "dict", data := .dict #[] }) scope.names } : Shared) = s4 at I4 ⊢
  have t4' : tn 0 s4.heap := by rw [← hs4]; exact t4
  -- the iterator's objects stand outside of the block
  have outer : ∀ {σ' : L2.St} {H' : Hp} {s' : Shared}, Inv (X.blk s3 H3 scope ce fp) [] σ' H' s' → (∀ b ∈ fp, H' b = none) → ∀ b ∈ fp, FpOk (X.blk s3 H3 scope ce fp) [] H' b := fun {σ' H' s'} J n b hb =>
    ⟨n b hb, (J.ok.exf b hb).1, J.ok.exfs b hb, .inl hb, fun x c e => (J.ok.exf b hb).2 x c e, fun p hp => absurd (show p ∈ ([] : List (Addr × Obj)) ++ [] from hp) (by simp)⟩
  have loop : codeAny (model X.prog X.w) X.A (.compLoop (.DictComp kx vx [⟨tg, iter, ifs, 0⟩] scope pos) 0 (.ref it) (.ref D) ce) (compPost (model X.prog X.w) X.A X.xe none (EP X pins σ Q) (.ref D) s3.heap.objs.size) s4 := by
    refine compLoop_anyD (fun n s' => ∃ i H', Inv (X.blk s3 H3 scope ce fp) [] (wipe σ (own.map (·.2))) H' s' ∧ tn i s'.heap ∧ (∀ b ∈ fp, H' b = none) ∧ W i n H') ?_ m0 ⟨0, H3, I4, t4', nf, w0⟩
    rintro n s5 ⟨i, H5, I5, t5, n5, w5⟩
    rcases turn i n H5 w5 with ⟨stop, fin⟩ | ⟨go, Nx, hNx, step⟩
    · -- the walk is at its end: the def goes on
      refine thnF (T.done (X.blk s3 H3 scope ce fp) rfl rfl rfl hc i [] s5 _ H5 (fun _ _ => False) I5 (outer I5 n5) t5 stop) fun r s6 ⟨hr, I6⟩ => ?_
      subst hr
      have I7 : Inv X pins σ H5 s6 := I3.call' (ch := fp) I6.os I6.base I6.hok I6.bare fun b hb => ⟨(f3 b hb).1.2.2.2.1, (f3 b hb).1.2.1, (f3 b hb).1.2.2.2.2.1, (f3 b hb).1.2.2.2.2.2⟩
      have nC : H5 s3.heap.objs.size = none := by rw [← cL]; exact I6.free
      obtain ⟨m, hn, _⟩ := I6.loc
      have hn' : s6.heap.Ns s3.heap.objs.size m := by rw [← cL]; exact hn
      obtain ⟨g0, g1, g2, g3, g4, g5⟩ := I3.fpOk (Nat.le_refl _) nC
      exact ⟨m, hn', fun h'' sb => ⟨.ref D, H5, I7.turned (t' := s6.toks) (fun b o hb e => (sb.2 b hb).trans e) g0 g1 g3 g4 g5, rfl, fin⟩⟩
    · -- one more turn
      refine thnF (T.item (X.blk s3 H3 scope ce fp) rfl rfl rfl hc i [] s5 _ H5 (fun _ _ => False) I5 (outer I5 n5) t5 go) fun r s6 ⟨u, hr, h6⟩ => ?_
      subst hr
      refine thnF h6 fun _ s7 ⟨x, H7, I7, r7, y7, t7, n7⟩ => ?_
      have I7' := I7.pinned (outer I7 n7) (T.obj _ _ t7)
      refine thnF (pg.run _ s7 _ H7 x u _ I7' r7 (step x H7 y7)) fun _ s8 ⟨σ8, H8, I8, w8, q8⟩ => ?_
      refine thnF (pt.run _ s8 σ8 H8 _ I8 q8) fun b s9 ⟨H9, I9, q9⟩ => ?_
      have again : ∀ {s' : Shared} {H' : Hp}, Inv (X.blk s3 H3 scope ce fp) ([] ++ pinsAt fp s7.heap) σ8 H' s' → Nx H' → ∃ m, m < n ∧ ∃ i H', Inv (X.blk s3 H3 scope ce fp) [] (wipe σ (own.map (·.2))) H' s' ∧ tn i s'.heap ∧ (∀ b ∈ fp, H' b = none) ∧ W i m H' := by
        intro s' H' J nx
        obtain ⟨m', hm, w'⟩ := hNx H' nx
        have stay : ∀ b ∈ fp, ∀ o, s7.heap.get? b = some o → s'.heap.get? b = some o ∧ H' b = none := fun b hb o e => by
          have z := J.pin (b, o) (List.mem_append_right _ (List.mem_append_right _ (mem_pinsAt hb e)))
          exact ⟨z.1, z.2.1⟩
        refine ⟨m', hm, i + 1, H', (J.unpinned (pins := [])).weak (by rw [← w8, wipe_length]) (fun j v e => ?_), T.keep _ _ _ t7 fun b hb o e => (stay b hb o e).1, fun b hb => ?_, w'⟩
        · rw [← w8] at e; exact (wipe_some e).1
        · obtain ⟨o, e, _⟩ := T.obj _ _ t7 b hb
          exact (stay b hb o e).2
      cases b with
      | false =>
        simp only [Bool.false_eq_true, if_false] at q9 ⊢
        exact again I9 q9
      | true =>
        simp only [if_true] at q9 ⊢
        refine thnF (pk.run _ s9 σ8 H9 _ I9 q9) fun ky s10 ⟨yk, H10, I10, r10, q10⟩ => ?_
        refine thnF (pe.run _ s10 σ8 H10 _ I10 q10) fun vv s11 ⟨yv, H11, I11, r11, kvs, k, kb, ek, hkb, hD11, hz11, nx⟩ => ?_
        subst ek
        exact put_tup (X := X.blk s3 H3 scope ce fp) hu I11 hD11 hkb hz11 r10 r11 fun s12 I12 => again I12 nx
  exact codeAny_compStart_dict loop (T.self X.A 0 _ _ _ t4' loop)
end
end Bd
namespace Bd
open PySem PySem.Spec PyProof.Rows L2
/-- a list or a tuple is walked -/
def iLt (K : PySem.W.Frag) (tl : TE) : TI := fun σ H R => iList K tl σ H R ∨ iTup K tl σ H R
theorem pi_lt {X : Cx} {tg l : Expr} {tl : TE} (hl : PE X l tl) : PI X tg l (iLt X.K tl) := ⟨fun pins s σ H R I h => h.elim ((pi_list hl).run pins s σ H R I) ((pi_tup hl).run pins s σ H R I)⟩
end Bd

set_option Elab.async false
set_option linter.all false
set_option maxRecDepth 100000
set_option maxHeartbeats 4000000
/-! Bundles: sums of rows, normal forms. -/
namespace Bd
open PySem PySem.Spec PyProof.Rows L2
abbrev Ast := Str × Int
theorem ltSI_anti {p q : Ast} (h1 : ltSI p q = false) (h2 : ltSI q p = false) : p = q := by
  have a := ltSI_no.mp h1
  have b := ltSI_no.mp h2
  have c1 : q.1.cps.toList ≤ p.1.cps.toList := List.not_lt.mp fun z => a (.inl z)
  have c2 : p.1.cps.toList ≤ q.1.cps.toList := List.not_lt.mp fun z => b (.inl z)
  have e : p.1 = q.1 := str_ext (List.le_antisymm c2 c1)
  have d1 : ¬ p.2 < q.2 := fun z => a (.inr ⟨e, z⟩)
  have d2 : ¬ q.2 < p.2 := fun z => b (.inr ⟨e.symm, z⟩)
  exact Prod.ext e (by omega)
/-- the sum of the quantities of an asset -/
def tot : List (Ast × Int) → Ast → Int
  | [], _ => 0
  | e :: r, p => (if e.1 = p then e.2 else 0) + tot r p
theorem tot_append : ∀ (R S : List (Ast × Int)) (p : Ast), tot (R ++ S) p = tot R p + tot S p
  | [], S, p => by simp [tot]
  | e :: R, S, p => by rw [List.cons_append]; simp only [tot]; rw [tot_append R S p]; omega
theorem tot_neg : ∀ (R : List (Ast × Int)) (p : Ast), tot (R.map fun e => (e.1, -e.2)) p = - tot R p
  | [], p => by simp [tot]
  | e :: R, p => by
    rw [List.map_cons]; simp only [tot]; rw [tot_neg R p]
    split <;> omega
theorem tot_none {p : Ast} : ∀ {N : List (Ast × Int)}, p ∉ N.map (·.1) → tot N p = 0
  | [], _ => rfl
  | e :: N, h => by
    simp only [tot]
    rw [if_neg fun z => h (by rw [List.map_cons, z]; exact List.mem_cons_self ..), tot_none fun z => h (by rw [List.map_cons]; exact List.mem_cons_of_mem _ z)]
    omega
theorem tot_at {e : Ast × Int} : ∀ {N : List (Ast × Int)}, (N.map (·.1)).Nodup → e ∈ N → tot N e.1 = e.2
  | [], _, h => absurd h List.not_mem_nil
  | f :: N, hn, h => by
    rw [List.map_cons, List.nodup_cons] at hn
    simp only [tot]
    rcases List.mem_cons.mp h with rfl | h
    · rw [if_pos rfl, tot_none hn.1]; omega
    · rw [if_neg fun z => hn.1 (by rw [z]; exact List.mem_map_of_mem (f := (·.1)) h), tot_at hn.2 h]; omega
/-- rows in normal form -/
structure Nrm (N : List (Ast × Int)) : Prop where
  srt : N.Pairwise fun a b => ltSI b.1 a.1 = false
  nd : (N.map (·.1)).Nodup
  nz : ∀ e ∈ N, e.2 ≠ 0
theorem Nrm.nil : Nrm [] := ⟨List.Pairwise.nil, List.nodup_nil, fun _ h => absurd h List.not_mem_nil⟩
theorem Nrm.tail {e : Ast × Int} {N : List (Ast × Int)} (h : Nrm (e :: N)) : Nrm N := ⟨(List.pairwise_cons.mp h.srt).2, by have := h.nd; rw [List.map_cons, List.nodup_cons] at this; exact this.2, fun x hx => h.nz x (List.mem_cons_of_mem _ hx)⟩
theorem Nrm.key {N : List (Ast × Int)} (h : Nrm N) (p : Ast) : p ∈ N.map (·.1) ↔ tot N p ≠ 0 := by
  constructor
  · intro m
    obtain ⟨e, he, rfl⟩ := List.mem_map.mp m
    rw [tot_at h.nd he]; exact h.nz e he
  · intro m
    rcases Classical.em (p ∈ N.map (·.1)) with z | z
    · exact z
    · exact absurd (tot_none z) m
/-- one normal form for one sum -/
theorem Nrm.uniq : ∀ {N M : List (Ast × Int)}, Nrm N → Nrm M → (∀ p, tot N p = tot M p) → N = M
  | [], [], _, _, _ => rfl
  | [], e :: M, _, hm, h => absurd (h e.1) (by
      rw [tot_at hm.nd (List.mem_cons_self ..)]
      exact fun z => hm.nz e (List.mem_cons_self ..) z.symm)
  | e :: N, [], hn, _, h => absurd (h e.1) (by
      rw [tot_at hn.nd (List.mem_cons_self ..)]
      exact fun z => hn.nz e (List.mem_cons_self ..) z)
  | e :: N, f :: M, hn, hm, h => by
    have k1 : e.1 ∈ (f :: M).map (·.1) := (hm.key _).mpr (by rw [← h]; exact (hn.key _).mp (by rw [List.map_cons]; exact List.mem_cons_self ..))
    have k2 : f.1 ∈ (e :: N).map (·.1) := (hn.key _).mpr (by rw [h]; exact (hm.key _).mp (by rw [List.map_cons]; exact List.mem_cons_self ..))
    have e1 : e.1 = f.1 := by
      rw [List.map_cons] at k1 k2
      rcases List.mem_cons.mp k1 with z | z
      · exact z
      · rcases List.mem_cons.mp k2 with y | y
        · exact y.symm
        · obtain ⟨g, hg, eg⟩ := List.mem_map.mp z
          obtain ⟨g2, hg2, eg2⟩ := List.mem_map.mp y
          have q1 := (List.pairwise_cons.mp hm.srt).1 g hg
          have q2 := (List.pairwise_cons.mp hn.srt).1 g2 hg2
          rw [eg] at q1
          rw [eg2] at q2
          exact ltSI_anti q1 q2
    have e2 : e.2 = f.2 := by
      have a := tot_at hn.nd (List.mem_cons_self (a := e) (l := N))
      have b := tot_at hm.nd (List.mem_cons_self (a := f) (l := M))
      rw [h, e1] at a
      omega
    have ef : e = f := Prod.ext e1 e2
    subst ef
    rw [Nrm.uniq hn.tail hm.tail fun p => by
      have := h p
      simp only [tot] at this
      omega]
/-! ### dicts of sums -/
def eD (m : List (Ast × V)) : List (List Key × V) := m.map fun e => (eK e.1, e.2)
theorem eK_inj {p q : Ast} (h : eK p = eK q) : p = q := by
  have h1 := (List.cons.inj h).1
  have h2 := (List.cons.inj (List.cons.inj h).2).1
  exact Prod.ext (Sum.inr.inj h1) (Sum.inl.inj h2)
theorem valV_eD (p : Ast) : ∀ m : List (Ast × V), valV (eD m) (eK p) = valV m p
  | [] => rfl
  | e :: m => by
    by_cases h : e.1 = p
    · rw [valV_pos h, show eD (e :: m) = (eK e.1, e.2) :: eD m from rfl, valV_pos (p := (eK e.1, e.2)) (by rw [h])]
    · rw [valV_neg h, show eD (e :: m) = (eK e.1, e.2) :: eD m from rfl, valV_neg (p := (eK e.1, e.2)) (fun z => h (eK_inj z)), valV_eD p m]
theorem putK_eD (m : List (Ast × V)) (p : Ast) (v : V) : putK (eD m) (eK p) v = eD (putK m p v) := by
  unfold putK
  rw [valV_any, valV_any, valV_eD]
  split
  · unfold eD
    rw [List.map_map, List.map_map]
    refine List.map_congr_left fun e _ => ?_
    show (if eK e.1 = eK p then (eK e.1, v) else (eK e.1, e.2)) = _
    by_cases h : e.1 = p
    · rw [if_pos (by rw [h])]
      show _ = (fun e : Ast × V => (eK e.1, e.2)) (if e.1 = p then (e.1, v) else e)
      rw [if_pos h]
    · rw [if_neg fun z => h (eK_inj z)]
      show _ = (fun e : Ast × V => (eK e.1, e.2)) (if e.1 = p then (e.1, v) else e)
      rw [if_neg h]
  · unfold eD; rw [List.map_append]; rfl
theorem valV_key {m : List (Ast × V)} {p : Ast} : (valV m p).isSome = true ↔ p ∈ m.map (·.1) := by
  rw [← valV_any, List.any_eq_true]
  constructor
  · rintro ⟨e, he, h⟩
    rw [← of_decide_eq_true h]; exact List.mem_map_of_mem (f := (·.1)) he
  · intro h
    obtain ⟨e, he, h⟩ := List.mem_map.mp h
    exact ⟨e, he, decide_eq_true h⟩
theorem nodup_putK {m : List (Ast × V)} {p : Ast} {v : V} (h : (m.map (·.1)).Nodup) : ((putK m p v).map (·.1)).Nodup := by
  unfold putK
  split
  · rw [List.map_map]
    have : ((fun x : Ast × V => x.1) ∘ fun kv => if kv.1 = p then (kv.1, v) else kv) = fun x => x.1 := by
      funext x; show (if x.1 = p then (x.1, v) else x).1 = x.1; split <;> rfl
    rw [this]; exact h
  · rename_i hn
    rw [List.map_append, List.nodup_append]
    refine ⟨h, by simp, fun a ha b hb => ?_⟩
    have e : b = p := by simpa using hb
    rw [e]
    intro z
    rw [z] at ha
    rw [valV_any] at hn
    exact hn (valV_key.mpr ha)
/-- the sums so far -/
structure Sums (m : List (Ast × V)) (R : List (Ast × Int)) : Prop where
  nd : (m.map (·.1)).Nodup
  val : ∀ p, valV m p = if p ∈ R.map (·.1) then some (.int (tot R p)) else none
theorem Sums.nil : Sums [] [] := ⟨List.nodup_nil, fun p => rfl⟩
theorem Sums.get {m : List (Ast × V)} {R : List (Ast × Int)} (h : Sums m R) (p : Ast) : (valV m p).getD (.int 0) = .int (tot R p) := by
  rw [h.val]
  split
  · rfl
  · rename_i z; rw [tot_none z]; rfl
theorem Sums.put {m : List (Ast × V)} {R : List (Ast × Int)} (h : Sums m R) (e : Ast × Int) : Sums (putK m e.1 (.int (tot R e.1 + e.2))) (R ++ [e]) := by
  refine ⟨nodup_putK h.nd, fun p => ?_⟩
  rw [valV_put, h.val, tot_append]
  simp only [tot, List.map_append, List.map_cons, List.map_nil, List.mem_append, List.mem_singleton]
  by_cases q : p = e.1
  · subst q
    simp
  · have q' : ¬ e.1 = p := fun z => q z.symm
    rw [if_neg q, if_neg q']
    by_cases y : p ∈ R.map (·.1)
    · have y' : p ∈ R.map (·.1) ∨ p = e.1 := .inl y
      rw [if_pos y, if_pos y']; simp
    · have y' : ¬ (p ∈ R.map (·.1) ∨ p = e.1) := fun z => z.elim y q
      rw [if_neg y, if_neg y']
theorem Sums.keys {m : List (Ast × V)} {R : List (Ast × Int)} (h : Sums m R) (p : Ast) : p ∈ m.map (·.1) ↔ p ∈ R.map (·.1) := by
  rw [← valV_key, h.val]
  split <;> simp [*]
/-- what the sorted keys give -/
def nfOf (R : List (Ast × Int)) (S : List Ast) : List (Ast × Int) := (S.filter fun p => decide (tot R p ≠ 0)).map fun p => (p, tot R p)
theorem nf_nrm {R : List (Ast × Int)} {S : List Ast} (hs : SrtO.Srtd ltSI S) (hn : S.Nodup) : Nrm (nfOf R S) := by
  refine ⟨?_, ?_, ?_⟩
  · exact List.pairwise_map.mpr (List.Pairwise.filter _ hs)
  · unfold nfOf; rw [List.map_map]
    have : ((fun x : Ast × Int => x.1) ∘ fun p => (p, tot R p)) = id := rfl
    rw [this, List.map_id]
    exact List.Pairwise.filter _ hn
  · intro e he
    obtain ⟨p, hp, rfl⟩ := List.mem_map.mp he
    exact of_decide_eq_true (List.mem_filter.mp hp).2
theorem nf_tot {R : List (Ast × Int)} {S : List Ast} (hs : SrtO.Srtd ltSI S) (hn : S.Nodup) (hk : ∀ p, p ∈ R.map (·.1) → p ∈ S) (p : Ast) : tot (nfOf R S) p = tot R p := by
  by_cases h : tot R p = 0
  · rw [h]
    refine tot_none fun z => ?_
    obtain ⟨e, he, rfl⟩ := List.mem_map.mp z
    obtain ⟨q, hq, rfl⟩ := List.mem_map.mp he
    exact of_decide_eq_true (List.mem_filter.mp hq).2 h
  · have m : p ∈ S := hk p (by
      rcases Classical.em (p ∈ R.map (·.1)) with z | z
      · exact z
      · exact absurd (tot_none z) h)
    exact tot_at (nf_nrm hs hn).nd (e := (p, tot R p)) (List.mem_map.mpr ⟨p, List.mem_filter.mpr ⟨m, decide_eq_true h⟩, rfl⟩)
end Bd
namespace Bd
open PySem PySem.Spec PyProof.Rows L2
/-- rows as they stand in the heap -/
inductive RowL (H : Hp) : List V → List (Ast × Int) → Prop
  | nil : RowL H [] []
  | cons {z kq : Addr} {xs : List V} {p : Ast} {q : Int} {R : List (Ast × Int)} (h1 : H z = some (.tup [.ref kq, .int q])) (h2 : H kq = some (.tup [.str p.1, .int p.2])) (r : RowL H xs R) : RowL H (.ref z :: xs) ((p, q) :: R)
theorem RowL.keepT {H H' : Hp} (e : ∀ q t, H q = some (.tup t) → H' q = some (.tup t)) {xs : List V} {R : List (Ast × Int)} (h : RowL H xs R) : RowL H' xs R := by
  induction h with
  | nil => exact .nil
  | cons h1 h2 _ ih => exact .cons (e _ _ h1) (e _ _ h2) ih
theorem RowL.keep {H H' : Hp} (e : Same H H') {xs : List V} {R : List (Ast × Int)} (h : RowL H xs R) : RowL H' xs R := h.keepT fun _ _ => e _ _
theorem RowL.len {H : Hp} {xs : List V} {R : List (Ast × Int)} (h : RowL H xs R) : xs.length = R.length := by
  induction h with
  | nil => rfl
  | cons _ _ _ ih => exact congrArg Nat.succ ih
theorem RowL.append {H : Hp} {xs ys : List V} {R S : List (Ast × Int)} (h : RowL H xs R) (k : RowL H ys S) : RowL H (xs ++ ys) (R ++ S) := by
  induction h with
  | nil => exact k
  | cons h1 h2 _ ih => exact .cons h1 h2 ih
theorem RowL.get {H : Hp} {xs : List V} {R : List (Ast × Int)} (h : RowL H xs R) : ∀ {i : Nat} {x : V}, xs[i]? = some x → ∃ z kq p q, x = V.ref z ∧ R[i]? = some (p, q) ∧ H z = some (.tup [.ref kq, .int q]) ∧ H kq = some (.tup [.str p.1, .int p.2]) := by
  induction h with
  | nil => intro i x e; cases e
  | @cons z kq xs p q R h1 h2 _ ih =>
    intro i x e
    cases i with
    | zero => cases e; exact ⟨z, kq, p, q, rfl, rfl, h1, h2⟩
    | succ i => exact ih e
def encR (e : Ast × Int) : PyData := .tuple [.tuple [.str e.1.1, .int e.1.2], .int e.2]
theorem RowL.dp {K : PySem.W.Frag} {H : Hp} {xs : List V} {R : List (Ast × Int)} (h : RowL H xs R) : DpAll K H xs (R.map encR) := by
  induction h with
  | nil => exact .nil
  | cons h1 h2 _ ih => exact .cons (.tup (SqT.of h1) (.cons (.tup (SqT.of h2) (.cons (.str _) (.cons (.int _) .nil))) (.cons (.int _) .nil))) ih
theorem RowL.zs {H : Hp} : ∀ {zs : List (Addr × (Ast × V))} {R : List (Ast × Int)}, zs.map (·.2) = R.map (fun e => (e.1, V.int e.2)) →
    (∀ z ∈ zs, ∃ kq, H z.1 = some (.tup [.ref kq, z.2.2]) ∧ H kq = some (.tup [.str z.2.1.1, .int z.2.1.2])) → RowL H (zs.map fun z => V.ref z.1) R
  | [], [], _, _ => .nil
  | [], _ :: _, e, _ => by cases e
  | _ :: _, [], e, _ => by cases e
  | z :: zs, e :: R, h, k => by
    rw [List.map_cons, List.map_cons] at h
    have h1 := (List.cons.inj h).1
    obtain ⟨kq, a, b⟩ := k z (List.mem_cons_self ..)
    rw [h1] at a b
    exact .cons a b (RowL.zs (List.cons.inj h).2 fun y hy => k y (List.mem_cons_of_mem _ hy))
/-- the bundle at b has the rows N -/
def BdAt (K : PySem.W.Frag) (H : Hp) (b : Addr) (N : List (Ast × Int)) : Prop := ∃ dx r d xs, H b = some (.ins (He.ga K "Bundle") dx [("_quantities", .ref d), ("rows", .ref r)]) ∧ H r = some (.tup xs) ∧ RowL H xs N ∧ H d = some (.dT (eD (N.map fun e => (e.1, V.int e.2)))) ∧ Nrm N
theorem BdAt.nrm {K : PySem.W.Frag} {H : Hp} {b : Addr} {N : List (Ast × Int)} (h : BdAt K H b N) : Nrm N := by
  obtain ⟨_, _, _, _, _, _, _, _, h⟩ := h
  exact h
theorem Nrm.neg {N : List (Ast × Int)} (h : Nrm N) : Nrm (N.map fun e => (e.1, -e.2)) := by
  refine ⟨List.pairwise_map.mpr h.srt, ?_, ?_⟩
  · rw [List.map_map]; exact h.nd
  · intro e he
    obtain ⟨f, hf, rfl⟩ := List.mem_map.mp he
    have := h.nz f hf
    show -f.2 ≠ 0
    omega
theorem BdAt.keep {K : PySem.W.Frag} {H H' : Hp} {b : Addr} {N : List (Ast × Int)} (e : Same H H') (h : BdAt K H b N) : BdAt K H' b N := by
  obtain ⟨dx, r, d, xs, h1, h2, h3, h4, h5⟩ := h
  exact ⟨dx, r, d, xs, e _ _ h1, e _ _ h2, h3.keep e, e _ _ h4, h5⟩
/-- what is told of the class -/
structure BFacts (K : PySem.W.Frag) (mg : Str → Option Value) : Prop where
  m : mg "Bundle" = some (.ref (He.ga K "Bundle"))
  cls : Cls K (He.ga K "Bundle")
  n1 : NoAttr K (He.ga K "Bundle") "rows"
  n2 : NoAttr K (He.ga K "Bundle") "_quantities"
  mkr : Mk K (He.ga K "Bundle") (He.fAd K ("Bundle", some "__init__"))
  first : PySem.W.selfFirst K (He.ga K "Bundle") = true
  at_Bundle___add : PySem.W.findIn K (.ref (He.ga K "Bundle")) "__add__" = some (some (.ref (He.fAd K ("Bundle", some "__add__"))))
  fn_Bundle___add : PySem.W.isFn K (.ref (He.fAd K ("Bundle", some "__add__"))) = true
  at_Bundle___sub : PySem.W.findIn K (.ref (He.ga K "Bundle")) "__sub__" = some (some (.ref (He.fAd K ("Bundle", some "__sub__"))))
  fn_Bundle___sub : PySem.W.isFn K (.ref (He.fAd K ("Bundle", some "__sub__"))) = true
  at_Bundle___neg : PySem.W.findIn K (.ref (He.ga K "Bundle")) "__neg__" = some (some (.ref (He.fAd K ("Bundle", some "__neg__"))))
  fn_Bundle___neg : PySem.W.isFn K (.ref (He.fAd K ("Bundle", some "__neg__"))) = true
end Bd
namespace Rb
open PySem PySem.Spec PyProof.Rows L2 Bd
section
variable {K : PySem.W.Frag} {σ : L2.St} {H : Hp} {n b c : L2.St → Hp → Prop} {r : VK} {Q : VK} {td ty tv tx ta te : TE}
theorem dnewT (k : ∀ p, H p = none → Q (.ref p) (upd H p (.dT []))) : tDNewT σ H Q := k
theorem dget2 (k : td σ H fun x H1 => ∃ a, x = .ref a ∧ IsD H1 a ∧ ty σ H1 fun y H2 => tx σ H2 fun z H3 => ∃ o, DGet H3 a y o ∧ Q (o.getD z) H3) : tDGet2 td ty tx σ H Q := k
theorem dget (k : td σ H fun x H1 => ty σ H1 fun y H2 => ∃ a v, x = .ref a ∧ DGet H2 a y (some v) ∧ Q v H2) : tDGet td ty σ H Q := k
theorem isD {a : Addr} {kvs : List (List Key × V)} {P : Addr → Prop} (h : H a = some (.dT kvs)) (k : P a) : ∃ a', V.ref a = .ref a' ∧ IsD H a' ∧ P a' := ⟨a, rfl, .inr ⟨kvs, .inl h⟩, k⟩
theorem dgetO {a z : Addr} {m : List (Ast × V)} {p : Ast} {P : Option V → Prop} (h : H a = some (.dT (eD m))) (hz : H z = some (.tup [.str p.1, .int p.2])) (k : P (valV m p)) : ∃ o, DGet H a (.ref z) o ∧ P o :=
  ⟨_, DGet.t (k := eK p) h hz, by rw [valV_eD]; exact k⟩
theorem dgetS {a z : Addr} {m : List (Ast × V)} {p : Ast} {v : V} {P : V → Prop} (h : H a = some (.dT (eD m))) (hz : H z = some (.tup [.str p.1, .int p.2])) (e : valV m p = some v) (k : P v) : ∃ a' v', V.ref a = .ref a' ∧ DGet H a' (.ref z) (some v') ∧ P v' :=
  ⟨a, v, rfl, by rw [← e, ← valV_eD]; exact DGet.t (k := eK p) h hz, k⟩
theorem dput (k : tv σ H fun v H1 => td σ H1 fun x H2 => ty σ H2 fun y H3 => ∃ a H4, x = .ref a ∧ DPut H3 a y v H4 ∧ n σ H4) : sDPut td ty tv ⟨n, r, b, c⟩ σ H := k
theorem dputT {a z : Addr} {m : List (Ast × V)} {p : Ast} {v : V} {P : Hp → Prop} (h : H a = some (.dT (eD m))) (hz : H z = some (.tup [.str p.1, .int p.2])) (hl : m.length < 100000) (k : P (upd H a (.dT (eD (putK m p v))))) : ∃ a' H4, V.ref a = .ref a' ∧ DPut H a' (.ref z) v H4 ∧ P H4 :=
  ⟨a, _, rfl, DPut.t (k := eK p) h hz (Rd.smallT (by unfold eD; rw [List.length_map]; exact hl)), by rw [putK_eD]; exact k⟩
theorem pair2 {z : Addr} {x y : V} {i j : Nat} {Qd : L2.St → Hp → Prop} (h : SqT K H z [x, y]) (k : Qd ((σ.set i (some x)).set j (some y)) H) : gTup K 2 (gCons (gName i) (gCons (gName j) gNil)) (.ref z) σ H Qd :=
  ⟨z, _, rfl, h, rfl, x, [y], rfl, y, [], rfl, rfl, k⟩
/-- for .. in a list or a tuple, by its name -/
theorem forLt {i₀ : Nat} {H0 : Hp} {a : Addr} {xs : List V} {g : TG} {tb : TS} (Pv : Nat → L2.St → Hp → Prop) (hv : σ[i₀]? = some (some (.ref a))) (h : SqL K H0 a xs ∨ SqT K H0 a xs) (e0 : Same H0 H) (h0 : Pv 0 σ H)
    (hl : ∀ i σ H', i ≤ xs.length → Pv i σ H' → Same H0 H') (hs : ∀ (i : Nat) (x : V) (σ' : L2.St) (H' : Hp), xs[i]? = some x → Pv i σ' H' → g x σ' H' fun σ2 H2 => tb ⟨Pv (i + 1), r, n, Pv (i + 1)⟩ σ2 H2)
    (hd : ∀ σ' H', Pv xs.length σ' H' → n σ' H') : tFor (iLt K (tVar i₀)) g tb ⟨n, r, b, c⟩ σ H := by
  rcases h with h | h
  · exact .inl ⟨.ref a, hv, a, rfl, ⟨_, e0.seq h⟩, for_list Pv h0 (fun i σ' H' hi p => (hl i σ' H' hi p).seq h) hs hd⟩
  · exact .inr ⟨.ref a, hv, a, rfl, ⟨_, Rd.same_tup e0 h⟩, for_tup Pv h0 (fun i σ' H' hi p => Rd.same_tup (hl i σ' H' hi p) h) hs hd⟩
theorem fld {f : Str} (k : ta σ H fun x H1 => ∃ a C dx fs v, x = .ref a ∧ H1 a = some (.ins C dx fs) ∧ Cls K C ∧ NoAttr K C f ∧ fs.lookup f = some v ∧ Q v H1) : tFld K ta f σ H Q := k
theorem sfld {f : Str} (k : tv σ H fun y H1 => ta σ H1 fun x H2 => ∃ a C dx fs, x = .ref a ∧ H2 a = some (.ins C dx fs) ∧ Cls K C ∧ NoAttr K C f ∧ fs.length < 1000 ∧ n σ (upd H2 a (.ins C dx (putF f y fs)))) : sFld K ta tv f ⟨n, r, b, c⟩ σ H := k
theorem dcT {wi : TI} {g : TG} {tt : TT} {tk : TE} {vs : List Nat} (k : wi σ H fun J H1 => DcJ g tt tk tv vs σ Q J H1) : tDcT wi g tt tk tv vs σ H Q := k
/-- a dict comprehension over a list with a test -/
theorem dcL {a : Addr} {xs : List V} {g : TG} {tt : TT} {tk : TE} {vs : List Nat} {H1 : Hp} (Pv : Addr → Nat → Hp → Prop) (h : SqL K H1 a xs) (h0 : ∀ D, H1 D = none → Pv D 0 (upd H1 D (.dT [])))
    (hl : ∀ D i H, i ≤ xs.length → Pv D i H → SqL K H a xs)
    (hs : ∀ D i x H, H1 D = none → xs[i]? = some x → Pv D i H → g x (wipe σ vs) H fun σ2 H2 => wipe σ2 vs = wipe σ vs ∧ tt σ2 H2 fun t H3 =>
      if t = true then tk σ2 H3 fun y H4 => tv σ2 H4 fun z H5 => ∃ kvs k b, y = .ref b ∧ H5 b = some (.tup (k.map kV)) ∧ H5 D = some (.dT kvs) ∧ kvs.length < sizeLine ∧ Pv D (i + 1) (upd H5 D (.dT (putK kvs k z))) else Pv D (i + 1) H3)
    (hd : ∀ D H, H1 D = none → Pv D xs.length H → Q (.ref D) H) : ∃ p, V.ref a = .ref p ∧ (∃ ys, SqL K H1 p ys) ∧ DcJ g tt tk tv vs σ Q (Itl K p) H1 := by
  refine ⟨a, rfl, ⟨_, h⟩, fun D hD => ⟨fun i m H => m = xs.length - i ∧ i ≤ xs.length ∧ Pv D i H, ⟨xs.length, by simp, Nat.zero_le _, h0 D hD⟩, ?_⟩⟩
  rintro i m H ⟨rfl, hi, p⟩
  have q := hl D i H hi p
  by_cases hlt : i < xs.length
  · refine .inr ⟨⟨xs, xs[i], q, by simp [hlt]⟩, Pv D (i + 1), fun H' p' => ⟨xs.length - (i + 1), by omega, rfl, hlt, p'⟩, fun x H' y => ?_⟩
    obtain ⟨e, y⟩ := y
    subst e
    exact hs D i x _ hD (y xs q) p
  · have e : i = xs.length := by omega
    subst e
    exact .inl ⟨⟨xs, q, Nat.le_refl _⟩, hd D H hD p⟩
end
end Rb
namespace Bd
open PySem PySem.Spec PyProof.Rows L2
theorem nfOf_yes {R : List (Ast × Int)} {S : List Ast} {p : Ast} (h : tot R p ≠ 0) : nfOf R (S ++ [p]) = nfOf R S ++ [(p, tot R p)] := by
  unfold nfOf
  have e : List.filter (fun p => decide (tot R p ≠ 0)) [p] = [p] := by simp [h]
  rw [List.filter_append, List.map_append, e]
  rfl
theorem nfOf_no {R : List (Ast × Int)} {S : List Ast} {p : Ast} (h : tot R p = 0) : nfOf R (S ++ [p]) = nfOf R S := by
  unfold nfOf
  have e : List.filter (fun p => decide (tot R p ≠ 0)) [p] = [] := by simp [h]
  rw [List.filter_append, List.map_append, e]
  simp
theorem nfOf_mem {R : List (Ast × Int)} {S : List Ast} {p : Ast} (h : p ∈ (nfOf R S).map (·.1)) : p ∈ S := by
  obtain ⟨e, he, rfl⟩ := List.mem_map.mp h
  obtain ⟨q, hq, rfl⟩ := List.mem_map.mp he
  exact (List.mem_filter.mp hq).1
theorem nfOf_len (R : List (Ast × Int)) (S : List Ast) : (nfOf R S).length ≤ S.length := by
  unfold nfOf; rw [List.length_map]; exact List.length_filter_le _ _
/-- the next asset in order is put behind -/
theorem put_nf {R : List (Ast × Int)} {S : List Ast} {p : Ast} (h : tot R p ≠ 0) (hp : p ∉ S) : putK ((nfOf R S).map fun e => (e.1, V.int e.2)) p (.int (tot R p)) = (nfOf R (S ++ [p])).map fun e => (e.1, V.int e.2) := by
  rw [putK_new, nfOf_yes h, List.map_append]
  · rfl
  · cases q : valV ((nfOf R S).map fun e => (e.1, V.int e.2)) p with
    | none => rfl
    | some v =>
      have : p ∈ ((nfOf R S).map fun e => (e.1, V.int e.2)).map (·.1) := valV_key.mp (by rw [q]; rfl)
      rw [List.map_map] at this
      exact absurd (nfOf_mem this) hp
end Bd
namespace Rb
open PySem PySem.Spec PyProof.Rows L2 Bd
section
variable {K : PySem.W.Frag} {σ : L2.St} {H : Hp} {Q : VK} {E : XK}
theorem make {C : Addr} {sp : Sp} {dvs : List V} {t : TA} (k : t σ H fun vs H1 => ∀ x dx, H1 x = none → H1 dx = none → dx ≠ x → sp (.ref x :: (vs ++ dvs)) (upd (upd H1 dx (.own x)) x (.ins C dx [])) (fun v H2 => v = .non ∧ Q (.ref x) H2) E) : tMake C sp dvs E t σ H Q := k
theorem catA {a b : Addr} {xs ys : List V} (ha : SqT K H a xs) (hb : SqT K H b ys) (hl : xs.length + ys.length ≤ 100000) (k : ∀ p H', Same H H' → SqT K H' p (xs ++ ys) → Q (.ref p) H') : rCatA K (.ref a) (.ref b) H Q :=
  ⟨a, b, xs, ys, rfl, rfl, ha, hb, Rd.small hl, fun e => k b H (Same.refl H) (by rw [e]; exact hb), fun _ e => k a H (Same.refl H) (by rw [e, List.append_nil]; exact ha), fun _ _ p hp => k p _ (Rd.same_new hp) Rd.slT⟩
theorem own2 {C a b : Addr} {sp : Sp} (ha : ∃ dx fs, H a = some (.ins C dx fs)) (hb : ∃ dx fs, H b = some (.ins C dx fs)) (k : sp [.ref a, .ref b] H Q E) : rOwn2 C sp E (.ref a) (.ref b) H Q := by
  obtain ⟨dx, fs, ha⟩ := ha
  obtain ⟨dy, gs, hb⟩ := hb
  exact ⟨a, b, dx, dy, fs, gs, rfl, rfl, ha, hb, k⟩
theorem own1 {C a : Addr} {sp : Sp} (ha : ∃ dx fs, H a = some (.ins C dx fs)) (k : sp [.ref a] H Q E) : rOwn1 C sp E (.ref a) H Q := by
  obtain ⟨dx, fs, ha⟩ := ha
  exact ⟨a, dx, fs, rfl, ha, k⟩
theorem insOf {b : Addr} {N : List (Ast × Int)} (h : BdAt K H b N) : ∃ dx fs, H b = some (.ins (He.ga K "Bundle") dx fs) := by
  obtain ⟨dx, r, d, xs, h1, _⟩ := h
  exact ⟨dx, _, h1⟩
/-- b.rows where b's value is already there -/
theorem rowsP {P : V → Prop} {mg : Str → Option Value} {b : Addr} {N : List (Ast × Int)} (Bf : BFacts K mg) (h : BdAt K H b N) (k : ∀ r xs, H r = some (.tup xs) → RowL H xs N → P (.ref r)) :
    ∃ a C dx fs v, V.ref b = .ref a ∧ H a = some (.ins C dx fs) ∧ Cls K C ∧ NoAttr K C ("rows" : Str) ∧ fs.lookup ("rows" : Str) = some v ∧ P v := by
  obtain ⟨dx, r, d, xs, h1, h2, h3, h4, _⟩ := h
  exact ⟨b, _, dx, _, .ref r, rfl, h1, Bf.cls, Bf.n1, rfl, k r xs h2 h3⟩
end
end Rb
namespace Rb
open PySem PySem.Spec PyProof.Rows L2 Bd
section
variable {K : PySem.W.Frag} {σ : L2.St} {H : Hp} {Q : VK}
/-- [.. for target in a tuple] without a test -/
theorem lcT {a : Addr} {xs : List V} {g : TG} {te : TE} {vs : List Nat} (Pv : Addr → Nat → List V → Hp → Prop) (h : SqT K H a xs) (h0 : ∀ D H', H D = none → Same H H' → H' D = some (.lst []) → Pv D 0 [] H')
    (hs : ∀ (i : Nat) (x : V) (acc : List V) (D : Addr) (H' : Hp), H D = none → Same H H' → xs[i]? = some x → acc.length = i → H' D = some (.lst acc) → Pv D i acc H' → g x (wipe σ vs) H' fun σ2 H2 => wipe σ2 vs = wipe σ vs ∧ te σ2 H2 (Rd.LcE H D i Pv))
    (hd : ∀ D acc H', H D = none → Same H H' → H' D = some (.lst acc) → acc.length = xs.length → Pv D xs.length acc H' → Q (.ref D) H') :
    ∃ p, V.ref a = .ref p ∧ (∃ ys, SqT K H p ys) ∧ Rd.LcJ g tYes te vs σ Q (Itt K p) H := by
  refine ⟨a, rfl, ⟨_, h⟩, fun D hD => ?_⟩
  refine lc_tup (xs := xs) (fun i H' => ∃ acc, Same H H' ∧ acc.length = i ∧ H' D = some (.lst acc) ∧ Pv D i acc H') ⟨[], Rd.same_new hD, rfl, upd_same, h0 D _ hD (Rd.same_new hD) upd_same⟩ (fun i H' _ ⟨acc, s, _⟩ => Rd.same_tup s h) ?_ ?_
  · rintro i x H' hi ⟨acc, s, e, hD', p⟩
    exact hs i x acc D H' hD s hi e hD' p
  · rintro H' ⟨acc, s, e, hD', p⟩
    exact hd D acc H' hD s hD' e p
theorem lcL2 {a : Addr} {xs : List V} {g : TG} {te : TE} {vs : List Nat} (Pv : Addr → Nat → List V → Hp → Prop) (h : SqL K H a xs) (h0 : ∀ D H', H D = none → Same H H' → H' D = some (.lst []) → Pv D 0 [] H')
    (hs : ∀ (i : Nat) (x : V) (acc : List V) (D : Addr) (H' : Hp), H D = none → Same H H' → xs[i]? = some x → acc.length = i → H' D = some (.lst acc) → Pv D i acc H' → g x (wipe σ vs) H' fun σ2 H2 => wipe σ2 vs = wipe σ vs ∧ te σ2 H2 (Rd.LcE H D i Pv))
    (hd : ∀ D acc H', H D = none → Same H H' → H' D = some (.lst acc) → acc.length = xs.length → Pv D xs.length acc H' → Q (.ref D) H') :
    ∃ p, V.ref a = .ref p ∧ (∃ ys, SqL K H p ys) ∧ Rd.LcJ g tYes te vs σ Q (Itl K p) H := by
  refine ⟨a, rfl, ⟨_, h⟩, fun D hD => ?_⟩
  refine lc_list (xs := xs) (fun i H' => ∃ acc, Same H H' ∧ acc.length = i ∧ H' D = some (.lst acc) ∧ Pv D i acc H') ⟨[], Rd.same_new hD, rfl, upd_same, h0 D _ hD (Rd.same_new hD) upd_same⟩ (fun i H' _ ⟨acc, s, _⟩ => s.seq h) ?_ ?_
  · rintro i x H' hi ⟨acc, s, e, hD', p⟩
    exact hs i x acc D H' hD s hi e hD' p
  · rintro H' ⟨acc, s, e, hD', p⟩
    exact hd D acc H' hD s hD' e p
end
end Rb
namespace Bd
open PySem PySem.Spec PyProof.Rows L2
section
variable {X : Cx}
/-- sorted(xs), xs a list of assets -/
def rSortedSI (K : PySem.W.Frag) : List V → Hp → VK → Prop := fun xs H Q => ∃ (a : Addr) (ps0 : List (Addr × (Str × Int))), xs = [.ref a] ∧ SqL K H a (ps0.map fun z => V.ref z.1) ∧ AsAt H ps0 ∧
  ∀ (ps : List (Addr × (Str × Int))) (p : Addr), ps.Perm ps0 → SrtO.Srtd ltSI (ps.map (·.2)) → H p = none → Q (.ref p) (upd H p (.lst (ps.map fun z => V.ref z.1)))
theorem cr_sortedSI : CallR X (.builtin "sorted") (rSortedSI X.K) := by
  intro pins s σ H xs us Q I r q
  obtain ⟨a, ps0, rfl, hs, hA, q⟩ := q
  obtain ⟨its, rv, hl, hz⟩ := I.list hs
  obtain ⟨u, rfl, ru⟩ := vals1 r
  obtain rfl : u = Value.ref a := ru
  have eb : its = ps0.map fun z => Value.ref z.1 := by
    have h1 : ∀ {ps : List (Addr × (Str × Int))} {us : List Value}, Vals (ps.map fun z => V.ref z.1) us → us = ps.map fun z => Value.ref z.1 := by
      intro ps
      induction ps with
      | nil => intro us h; cases h; rfl
      | cons z ps ih =>
        intro us h
        rw [List.map_cons] at h
        cases h with
        | cons h t => rw [ih t, List.map_cons, show _ = Value.ref z.1 from h]
    exact h1 rv
  have hsi : ∀ v ∈ its, IsSI s.heap v (siOf s.heap v) := fun v hv => by
    rw [eb] at hv
    obtain ⟨zz, hz, rfl⟩ := List.mem_map.mp hv
    have q := isSI_of I.hok (hA zz hz)
    rw [q.of]; exact q
  refine SrtO.sorted_ord (ltv := fun v u => ltSI (siOf s.heap v) (siOf s.heap u)) (swo_SI (siOf s.heap)) hl.isList (by rw [← rv.length]; exact hz) (fun h2 h₁ a' ha' kk => ?_) fun out h1 h2 => ?_
  · refine si_sortable (s := { s with heap := h₁ }) (by omega) (fun v hm => (hsi v hm).keeps fun b o e _ => (kk b o e).2) fun o e => ?_
    have e' : some o = some (seqObj "list" its.toArray 0) := e.symm.trans ha'
    cases e'
    intro c
    exact absurd (Value.type.inj c) (by decide)
  · obtain ⟨ps, b1, b2⟩ := perm_lift (fun z : Addr × (Str × Int) => Value.ref z.1) h2.perm ps0 eb.symm
    have hk2 : ∀ z ∈ ps, siOf s.heap (Value.ref z.1) = z.2 := fun z hz => (isSI_of I.hok (hA z (b1.mem_iff.mp hz))).of
    have hsr : SrtO.Srtd ltSI (ps.map (·.2)) := by
      rw [← b2] at h1
      have h1' := List.pairwise_map.mp h1
      refine List.pairwise_map.mpr (h1'.imp_of_mem fun {x y} hx hy hh => ?_)
      have hh' : ltSI (siOf s.heap (Value.ref y.1)) (siOf s.heap (Value.ref x.1)) = false := hh
      rw [hk2 x hx, hk2 y hy] at hh'
      exact hh'
    have hd : s.heap.objs.size ≤ s.heap.objs.size + 1 := Nat.le_succ _
    obtain ⟨n, hn⟩ := sortedAll_at s.heap its out.toArray
    refine ⟨.ref (s.heap.objs.size + 1), upd H (s.heap.objs.size + 1) (.lst (ps.map fun z => V.ref z.1)), I.laid (t' := s.toks) (fun b o e => sortedAll_old e) hd ⟨?_, out, n, ?_, hn⟩, rfl, q ps _ b1 hsr (I.hok.fresh hd)⟩
    · rw [List.length_map] at hz ⊢; rw [b1.length_eq]; exact hz
    · rw [← b2]
      have := vals_refs (ps.map (·.1))
      rw [List.map_map, List.map_map] at this
      exact this
end
end Bd
namespace Rb
open PySem PySem.Spec PyProof.Rows L2 Bd
section
variable {X : Cx} {K : PySem.W.Frag}
theorem ix_listK (h : X.K = K) : IxR X (rIxL K) := h ▸ ix_list
theorem ix_tupK (h : X.K = K) : IxR X (rIxT K) := h ▸ ix_tup
theorem op_eqDK (h : X.K = K) (hu : X.A.units + 64 < cLine) : OpR X (compareOp .Eq) (rEqD K) := h ▸ op_eqD hu
end
end Rb
namespace Rb
theorem units65 {k : Nat} {A : PySem.Around} (hr : L2.Room k A) : A.units + 65 < PySem.cLine := by have := hr.un; omega
end Rb
namespace Bd
open PySem PySem.Spec PyProof.Rows L2
theorem encR_eqv (e : Ast × Int) : PyData.eqv (encR e) (encR e) = true := by simp [encR, PyData.eqv, PyData.eqvAll]
theorem encR_eqvAll : ∀ N : List (Ast × Int), PyData.eqvAll (N.map encR) (N.map encR) = true
  | [] => by simp [PyData.eqvAll]
  | e :: N => by simp [PyData.eqvAll, encR_eqv e, encR_eqvAll N]
def OkA (p : Ast) : Prop := PyData.strOk p.1 = true
def OkR (R : List (Ast × Int)) : Prop := ∀ e ∈ R, OkA e.1
theorem strOk_S {l : List Nat} (h : ∀ c ∈ l, c < 1114112) : PyData.strOk (Rd.S l) = true := by
  unfold PyData.strOk Rd.S
  simpa using h
theorem strOk_app {x y : Str} (h1 : PyData.strOk x = true) (h2 : PyData.strOk y = true) : PyData.strOk (x ++ y) = true := by
  rw [Rd.S_of x] at h1 ⊢
  rw [Rd.S_of y] at h2 ⊢
  rw [Rd.S_app]
  unfold PyData.strOk Rd.S at *
  simp only [List.all_toArray, List.all_append, Bool.and_eq_true] at *
  exact ⟨h1, h2⟩
theorem OkR.of_tot {R N : List (Ast × Int)} (h : OkR R) (hn : Nrm N) (ht : ∀ p, tot N p = tot R p) : OkR N := fun e he => by
  have h1 : e.1 ∈ R.map (·.1) := by
    rcases Classical.em (e.1 ∈ R.map (·.1)) with z | z
    · exact z
    · have := tot_at hn.nd he
      rw [ht, tot_none z] at this
      exact absurd this.symm (hn.nz e he)
  obtain ⟨f, hf, ef⟩ := List.mem_map.mp h1
  rw [← ef]; exact h f hf
theorem encR_lay : ∀ N : List (Ast × Int), OkR N → PyData.canLayAll0 (N.map encR) = true
  | [], _ => by simp [PyData.canLayAll0]
  | e :: N, h => by
    have h1 : PyData.strOk e.1.1 = true := h e (List.mem_cons_self ..)
    simp [PyData.canLayAll0, PyData.canLay0, encR, encR_lay N fun x hx => h x (List.mem_cons_of_mem _ hx), h1]
theorem encR_depth : ∀ N : List (Ast × Int), PyData.depthAll (N.map encR) ≤ 2
  | [] => by simp [PyData.depthAll]
  | e :: N => by
    have := encR_depth N
    simp only [List.map_cons, PyData.depthAll]
    refine Nat.max_le.mpr ⟨?_, this⟩
    simp [encR, PyData.depth, PyData.depthAll]
theorem encR_shaped {N : List (Ast × Int)} (h : OkR N) : SeqAt.shaped (.tuple (N.map encR)) = true := by
  have := encR_depth N
  unfold SeqAt.shaped
  simp only [PyData.canLay0, encR_lay N h, PyData.depth, Bool.true_and]
  exact decide_eq_true (by omega)
def encA (p : Ast) : PyData := .tuple [.str p.1, .int p.2]
theorem encA_eqv (p q : Ast) : PyData.eqv (encA p) (encA q) = decide (p = q) := by
  have : (p = q) ↔ (p.1 = q.1 ∧ p.2 = q.2) := ⟨fun h => by rw [h]; exact ⟨rfl, rfl⟩, fun h => Prod.ext h.1 h.2⟩
  simp only [encA, PyData.eqv, PyData.eqvAll, Bool.and_true]
  rw [Bool.eq_iff_iff]
  simp [this]
theorem encA_shaped {p : Ast} (h : OkA p) : SeqAt.shaped (encA p) = true := by
  have h' : PyData.strOk p.1 = true := h
  unfold SeqAt.shaped
  simp [encA, PyData.canLay0, PyData.canLayAll0, PyData.depth, PyData.depthAll, h']
theorem encA_lay : ∀ N : List Ast, (∀ p ∈ N, OkA p) → PyData.canLayAll0 (N.map encA) = true
  | [], _ => by simp [PyData.canLayAll0]
  | e :: N, h => by
    have h1 : PyData.strOk e.1 = true := h e (List.mem_cons_self ..)
    simp [PyData.canLayAll0, PyData.canLay0, encA, encA_lay N fun x hx => h x (List.mem_cons_of_mem _ hx), h1]
theorem encA_depth : ∀ N : List Ast, PyData.depthAll (N.map encA) ≤ 1
  | [] => by simp [PyData.depthAll]
  | e :: N => by
    have := encA_depth N
    simp only [List.map_cons, PyData.depthAll]
    refine Nat.max_le.mpr ⟨?_, this⟩
    simp [encA, PyData.depth, PyData.depthAll]
theorem encAs_shaped {N : List Ast} (h : ∀ p ∈ N, OkA p) : SeqAt.shaped (.list (N.map encA)) = true := by
  have := encA_depth N
  unfold SeqAt.shaped
  simp only [PyData.canLay0, encA_lay N h, PyData.depth, Bool.true_and]
  exact decide_eq_true (by omega)
theorem encA_any (N : List Ast) (p : Ast) : ((N.map encA).any fun z => PyData.eqv z (encA p)) = decide (p ∈ N) := by
  induction N with
  | nil => rfl
  | cons e N ih =>
    rw [List.map_cons, List.any_cons, ih, encA_eqv]
    by_cases h : e = p
    · subst h
      rw [decide_eq_true rfl, Bool.true_or]
      exact (decide_eq_true (List.mem_cons_self ..)).symm
    · rw [decide_eq_false h, Bool.false_or]
      by_cases y : p ∈ N
      · rw [decide_eq_true y, decide_eq_true (List.mem_cons_of_mem _ y)]
      · rw [decide_eq_false y, decide_eq_false fun z => (List.mem_cons.mp z).elim (fun q => h q.symm) y]
theorem asAt_dp {K : PySem.W.Frag} {H : Hp} : ∀ {ps : List (Addr × Ast)}, AsAt H ps → DpAll K H (ps.map fun z => V.ref z.1) ((ps.map (·.2)).map encA)
  | [], _ => .nil
  | z :: ps, h => .cons (.tup (SqT.of (h z (List.mem_cons_self ..))) (.cons (.str _) (.cons (.int _) .nil))) (asAt_dp fun y hy => h y (List.mem_cons_of_mem _ hy))
end Bd
namespace Bd
open PySem PySem.Spec PyProof.Rows L2
theorem tot_take {R : List (Ast × Int)} {i : Nat} {p' : Ast} {q : Int} (h : R[i]? = some (p', q)) (p : Ast) : tot (R.take (i + 1)) p = tot (R.take i) p + (if p' = p then q else 0) := by
  rw [List.take_add_one, h, tot_append]
  simp [tot]
end Bd
namespace Rb
open PySem PySem.Spec PyProof.Rows L2 Bd
section
variable {K : PySem.W.Frag} {σ : L2.St} {H : Hp} {Q : VK}
/-- [q for row in rows if row[0] == asset]: the quantities of one asset -/
theorem lcTest {a : Addr} {xs : List V} {g : TG} {tt : TT} {te : TE} {vs : List Nat} (Pv : Nat → List Int → Prop) (h : SqL K H a xs) (hz : xs.length ≤ 100000) (h0 : Pv 0 [])
    (hs : ∀ (i : Nat) (x : V) (qs : List Int) (D : Addr) (H' : Hp) (R : Hp → Prop), H D = none → Same H H' → xs[i]? = some x → qs.length ≤ i → H' D = some (.lst (qs.map V.int)) → Pv i qs → (∀ q, Pv (i + 1) (qs ++ [q]) → R (upd H' D (.lst (qs.map V.int ++ [.int q])))) → (Pv (i + 1) qs → R H') →
      g x (wipe σ vs) H' fun σ2 H2 => wipe σ2 vs = wipe σ vs ∧ tt σ2 H2 fun b H3 => if b = true then te σ2 H3 fun y H4 => ∃ acc, H4 D = some (.lst acc) ∧ acc.length < sizeLine ∧ R (upd H4 D (.lst (acc ++ [y]))) else R H3)
    (hd : ∀ D qs H', H D = none → Same H H' → H' D = some (.lst (qs.map V.int)) → Pv xs.length qs → Q (.ref D) H') :
    ∃ p, V.ref a = .ref p ∧ (∃ ys, SqL K H p ys) ∧ Rd.LcJ g tt te vs σ Q (Itl K p) H := by
  refine ⟨a, rfl, ⟨_, h⟩, fun D hD => ?_⟩
  refine lc_list (xs := xs) (fun i H' => ∃ qs : List Int, Same H H' ∧ qs.length ≤ i ∧ H' D = some (.lst (qs.map V.int)) ∧ Pv i qs) ⟨[], Rd.same_new hD, Nat.le_refl _, upd_same, h0⟩ (fun i H' _ ⟨_, s, _⟩ => s.seq h) ?_ ?_
  · rintro i x H' hi ⟨qs, s, e, hD', p⟩
    refine hs i x qs D H' _ hD s hi e hD' p (fun q pq => ⟨qs ++ [q], Rd.same_mut s hD, by rw [List.length_append]; simp; omega, by rw [upd_same, List.map_append]; rfl, pq⟩) fun p' => ⟨qs, s, by omega, hD', p'⟩
  · rintro H' ⟨qs, s, e, hD', p⟩
    exact hd D qs H' hD s hD' p
end
end Rb
namespace Bd
open PySem PySem.Spec PyProof.Rows L2
theorem nd_len : ∀ {A B : List Ast}, A.Nodup → (∀ x ∈ A, x ∈ B) → A.length ≤ B.length
  | [], _, _, _ => Nat.zero_le _
  | a :: A, B, h, s => by
    rw [List.nodup_cons] at h
    have ha := s a (List.mem_cons_self ..)
    have h2 := nd_len (A := A) (B := B.erase a) h.2 fun x hx => (List.mem_erase_of_ne fun e => h.1 (by rw [← e]; exact hx)).mpr (s x (List.mem_cons_of_mem _ hx))
    have h3 := List.length_erase_of_mem ha
    have h4 : 0 < B.length := List.length_pos_of_mem ha
    rw [List.length_cons]
    omega
theorem Nrm.len {N R : List (Ast × Int)} (h : Nrm N) (ht : ∀ p, tot N p = tot R p) : N.length ≤ R.length := by
  have := nd_len h.nd (B := R.map (·.1)) fun x hx => by
    rcases Classical.em (x ∈ R.map (·.1)) with z | z
    · exact z
    · exact absurd (by rw [ht, tot_none z]) ((h.key x).mp hx)
  simpa using this
theorem OkR.append {R S : List (Ast × Int)} (h : OkR R) (k : OkR S) : OkR (R ++ S) := fun e he => (List.mem_append.mp he).elim (h e) (k e)
theorem OkR.neg {R : List (Ast × Int)} (h : OkR R) : OkR (R.map fun e => (e.1, -e.2)) := fun e he => by
  obtain ⟨f, hf, rfl⟩ := List.mem_map.mp he
  exact h f hf
end Bd

set_option Elab.async false
set_option linter.all false
set_option maxRecDepth 100000
set_option maxHeartbeats 4000000
/-! x != y by the object's own __ne__, which asks an own __eq__. -/
namespace Bd
open PySem PySem.W PySem.Calls PyProof.Rows
section
variable {prog : Program} {w : World} {A : Around} {E : Value → Shared → Prop} {s : Shared} {K : Frag} {x y C L f : Addr} {h₀ : Heap} {m : Str → Option Value} {ox oy : Obj} {od od' : Option Obj}
theorem ne_check {M : Model} {rest : List Value} {Q : Unit → Shared → Prop} (X : K.In s.heap) (I : InstAt s.heap x ox C od) (hso : subIn K (.ref C) (.type "object") = some true) (ha : argsOk "object.__ne__" ⟨.ref x :: rest, []⟩) (hq : Q () s) :
    wpAny M A (checkBuiltinCall "object.__ne__" ⟨.ref x :: rest, []⟩) Q E s := by
  simp only [checkBuiltinCall, PySem.F.cmpKind_ne, PySem.F.cmpSplit_ne]
  refine wpAny_bind ?_
  unfold isInstance
  refine wpAny_bind (I.type.here ?_)
  refine (looks_subIn X hso).here ?_
  cases hsig : Manifest.signature? "object.__ne__" with
  | none => 
    repeat (first | exact hq | wp_step)
  | some sig =>
    simp only [argsOk, hsig] at ha
    have h2 : Bind.checkArgs "object.__ne__" sig ⟨.ref x :: rest, []⟩ = pure () := ha
    simp only [if_true]
    rw [h2]
    repeat (first | exact hq | exact wpAny_pure hq | wp_step)
theorem ne_entry {Q : Fin → Shared → Prop} (X : K.In s.heap) (I : InstAt s.heap x ox C od) (hu : A.units < cLine) (hs : findIn K (.ref C) "__eq__" = some (some (.ref f))) (hf : isFn K (.ref f) = true)
    (hcall : wpAny (model prog w) A (call (.ref f) [.ref x, .ref y]) (fun v s' => ∃ b, v = .bool b ∧ Q (.done (.ret (.bool (!b)))) s') E s) :
    wpAny (model prog w) A (Builtin.«object.__ne__» ⟨[.ref x, .ref y], []⟩) Q E s := by
  unfold Builtin.«object.__ne__»
  repeat (first
    | with_reducible refine wpAny_cRoomFor hu ?_
    | (refine wpAny_bind (m := callSpecialIfBound? (.ref x) (Str.ofString "__eq__") [.ref y])
        (ifBound_K X I hs hf (wpAny_mono hcall (fun r s' hr => by
          obtain ⟨b, rfl, hq⟩ := hr
          repeat (first | exact hq | exact wpAny_pure hq | exact wpAny_truthy_bool hq | (refine wpAny_bind (m := truthy (.bool _)) (wpAny_truthy_bool ?_)) | wp_step)) fun _ _ e => e)))
    | wp_step)
theorem ne_K {Q : Value → Shared → Prop} (hu : A.units + 1 < cLine) (F : Fr h₀ L s.heap m) (X₀ : K.In h₀) (I : InstAt s.heap x ox C od) (J : InstAt s.heap y oy C od')
    (hne : findIn K (.ref C) "__ne__" = some (some (.builtin "object.__ne__"))) (hso : subIn K (.ref C) (.type "object") = some true)
    (hs : findIn K (.ref C) "__eq__" = some (some (.ref f))) (hf : isFn K (.ref f) = true)
    (h : wpAny (model prog w) A.in1 (call (.ref f) [.ref x, .ref y]) (fun v s' => ∃ b, v = .bool b ∧ Q (.bool (!b)) s') E s) :
    wpAny (model prog w) A (richCompare .NotEq (.ref x) (.ref y)) Q E s := by
  have X := X₀.keeps F.keep
  have bd : bindSpecial (.builtin "object.__ne__") (.ref x) = pure (.builtin "object.__ne__", [.ref x]) := PySem.F.cmp_object.ne.bind _
  have cl : wpAny (model prog w) A (call (.builtin "object.__ne__") [.ref x, .ref y]) (fun v s' => ∃ b, v = .bool b ∧ Q (.bool b) s') E s := by
    refine wpAny_call (codeAny_call_builtin PySem.F.cmp_object.ne.plain PySem.F.cmpEntry_ne (ne_check X I hso (PySem.F.cmpArgs_ne _ _) (ne_entry (A := A.in1) X I hu hs hf (wpAny_mono h (fun v s' hv => ?_) fun _ _ e => e))))
    obtain ⟨b, rfl, hq⟩ := hv
    exact ⟨b, rfl, _, rfl, hq⟩
  have one : wpAny (model prog w) A (tryCompare (.ref x) "__ne__" (.ref y)) (fun r s' => ∃ v, r = some v ∧ Q v s') E s := by
    unfold tryCompare
    refine wpAny_bind (Q := _) ?_
    simp only [callSpecialIfBound?, bindSpecialIfBound?]
    refine wpAny_holding (wpAny_bind (wpAny_bind (wpAny_bind (I.type.here ((looks_findIn X hne).here ?_)))))
    simp only [bd]
    refine wpAny_bind (wpAny_askSetting (wpAny_ite ?_))
    have fin : wpAny (model prog w) A (call (.builtin "object.__ne__") ([.ref x] ++ [.ref y]) >>= fun v => pure (some v)) (fun r s' => wpAny (model prog w) A (match r with | some .notImplemented | none => pure none | some r => pure (some r)) (fun r s' => ∃ v, r = some v ∧ Q v s') E s') E s :=
      wpAny_bind (wpAny_mono cl (fun v s' h' => by
        obtain ⟨b, rfl, hq⟩ := h'
        exact wpAny_pure (wpAny_pure ⟨_, rfl, hq⟩)) fun _ _ h' => h')
    split
    · exact wpAny_bind (wpAny_pure (wpAny_pure fin))
    · exact wpAny_tryCatch (wpAny_bind (wpAny_pure (wpAny_pure fin)))
  unfold richCompare
  simp only [oneThing_ref]
  refine wpAny_holding (wpAny_bind (wpAny_cRoomFor (Nat.lt_of_succ_lt hu) ?_))
  rw [cmpInfo_NotEq]
  dsimp only
  refine wpAny_bind (I.type.here (wpAny_bind (J.type.here ?_)))
  rw [show (Value.ref C != Value.ref C) = false from by simp]
  simp only [Bool.false_eq_true, if_false]
  refine wpAny_bind (wpAny_pure ?_)
  simp only [Bool.false_eq_true, if_false]
  refine wpAny_bind (wpAny_mono one (fun r s' z => ?_) fun _ _ e => e)
  obtain ⟨v, rfl, hq⟩ := z
  exact wpAny_pure hq
end
end Bd
namespace Bd
open PySem PySem.Spec PyProof.Rows L2
section
variable {X : Cx} {pins : List (Addr × Obj)} {σ : L2.St} {H : Hp} {s : Shared} {CT : CXT} {n : Nat} {C f : Addr} {fd : FuncData} {ps : List Str} {sp : Sp} {E : XK}
theorem call_def1 {vs : List V} {us : List Value} {Q : VK} (F : FnOk X.prog X.w X.K X.mg X.base CT n f fd ps sp) (hb : Binds X.K fd ps []) (hx : Passes CT X E) (hr : Room n X.A.in1) (I : Inv X pins σ H s) (r : Vals vs us) (hsp : sp vs H Q E) :
    wpAny (model X.prog X.w) X.A.in1 (call (.ref f) us) (EP X pins σ Q) X.xe s := by
  have hl := F.len _ _ _ _ hsp
  have hu : us.length = ps.length := by rw [← r.length]; exact hl
  refine wpAny_call (codeAny_mono (F.run X.A.in1 X.stack s H ⟨us, []⟩ us vs Q E hr I.env0.in1 (by
    have := hb s us I.kIn (by simpa using hu)
    simpa using this) r hsp) fun z s' hq => ?_)
  cases z with
  | error e => exact hx pins σ H s e s' I hq
  | ok fl =>
    cases fl with
    | ret w => exact I.after hq
    | next => exact False.elim hq
    | brk => exact False.elim hq
    | cont => exact False.elim hq
/-- x != y, both of the class at C -/
def rNeOwn (C : Addr) (sp : Sp) (E : XK) : R2 := fun x y H Q => ∃ a b dx dy fs gs, x = .ref a ∧ y = .ref b ∧ H a = some (.ins C dx fs) ∧ H b = some (.ins C dy gs) ∧ sp [.ref a, .ref b] H (fun v H' => ∃ t, v = .bl t ∧ Q (.bl (!t)) H') E
theorem op_neOwn (F : FnOk X.prog X.w X.K X.mg X.base CT n f fd ps sp) (hne : PySem.W.findIn X.K (.ref C) "__ne__" = some (some (.builtin "object.__ne__"))) (hso : PySem.W.subIn X.K (.ref C) (.type "object") = some true)
    (hs : PySem.W.findIn X.K (.ref C) "__eq__" = some (some (.ref f))) (hf : PySem.W.isFn X.K (.ref f) = true)
    (hb : Binds X.K fd ps []) (hx : Passes CT X E) (hr : Room (n + 1) X.A) : OpR X (compareOp .NotEq) (rNeOwn C sp E) := by
  intro pins s σ H x y v u Q I rx ry h
  obtain ⟨a, b, dx, dy, fs, gs, rfl, rfl, ha, hb', hsp⟩ := h
  obtain rfl : v = Value.ref a := rx
  obtain rfl : u = Value.ref b := ry
  obtain ⟨mA, J, _⟩ := ins_get I.hok ha
  obtain ⟨mB, J', _⟩ := ins_get I.hok hb'
  obtain ⟨od, J, _⟩ := J.look
  obtain ⟨od', J', _⟩ := J'.look
  obtain ⟨m, hF⟩ := I.fr
  show wpAny (model X.prog X.w) X.A (richCompare .NotEq (.ref a) (.ref b)) _ _ _
  refine ne_K (by have := hr.un; omega) hF I.ok.mod.kin J J' hne hso hs hf ?_
  refine wpAny_mono (call_def1 F hb hx hr.in1 I (vs := [.ref a, .ref b]) (.cons rfl (.cons rfl .nil)) hsp) (fun z s' q => ?_) fun _ _ e => e
  obtain ⟨v, H', I', r, t, rfl, q⟩ := q
  exact ⟨t, r, .bl (!t), H', I', rfl, q⟩
end
end Bd
namespace Rb
open PySem PySem.Spec PyProof.Rows L2 Bd
section
variable {K : PySem.W.Frag} {H : Hp} {Q : VK} {E : XK}
theorem own3 {C a b : Addr} {sp : Sp} (ha : ∃ dx fs, H a = some (.ins C dx fs)) (hb : ∃ dx fs, H b = some (.ins C dx fs)) (k : sp [.ref a, .ref b] H (fun v H' => ∃ t, v = .bl t ∧ Q (.bl (!t)) H') E) : rNeOwn C sp E (.ref a) (.ref b) H Q := by
  obtain ⟨dx, fs, ha⟩ := ha
  obtain ⟨dy, gs, hb⟩ := hb
  exact ⟨a, b, dx, dy, fs, gs, rfl, rfl, ha, hb, k⟩
end
end Rb
namespace Bd
open PySem PySem.Spec PyProof.Rows L2
/-- an empty tuple that stands with the classes -/
def emptyT (K : PySem.W.Frag) (a : Addr) : Bool := match K.lookup a with
  | some o => decide (o.cls = .type "tuple") && (o.dict.isNone && (match o.data with
    | .seq its _ => its.isEmpty
    | _ => false))
  | none => false
theorem emptyT_ok {K : PySem.W.Frag} {a : Addr} (h : emptyT K a = true) (H : Hp) : SqT K H a [] := by
  unfold emptyT at h
  split at h
  · rename_i o e
    rw [Bool.and_eq_true, Bool.and_eq_true] at h
    obtain ⟨h1, h2, h3⟩ := h
    split at h3
    · rename_i its n hd
      have e0 : its = #[] := by simpa using h3
      subst e0
      exact .inr ⟨o, #[], n, e, of_decide_eq_true h1, hd, by decide, .nil⟩
    · cases h3
  · cases h
def clsN : Str := "__class__"
def exE (K : PySem.W.Frag) (C : Addr) : Bool :=
  He.eqO (PySem.W.findIn K (.ref C) "__class__") (some (some (.builtin "object.__class__"))) &&
  (decide (PySem.W.specialIn K (.builtin "object.__class__") "__get__" = some (some (.builtin "getset_descriptor.__get__"))) &&
  (decide (PySem.W.takesIn K (.builtin "object.__class__") = some true) &&
  (decide (PySem.W.mroIn K C (.type "object") = some true) &&
  (decide (PySem.W.kitOne K (.ref C) (.ref C) = some true) &&
  (He.eqO (PySem.W.findIn K (.ref C) "__ne__") (some (some (.builtin "object.__ne__"))) &&
  (decide (PySem.W.subIn K (.ref C) (.type "object") = some true)))))))
/-- more of what is told of the class -/
structure BQ (K : PySem.W.Frag) (mg : Str → Option Value) : Prop where
  b : BFacts K mg
  isc : C8.InsC K (He.ga K "Bundle")
  ne : PySem.W.findIn K (.ref (He.ga K "Bundle")) "__ne__" = some (some (.builtin "object.__ne__"))
  ob : PySem.W.subIn K (.ref (He.ga K "Bundle")) (.type "object") = some true
  at_Bundle___eq : PySem.W.findIn K (.ref (He.ga K "Bundle")) "__eq__" = some (some (.ref (He.fAd K ("Bundle", some "__eq__"))))
  fn_Bundle___eq : PySem.W.isFn K (.ref (He.fAd K ("Bundle", some "__eq__"))) = true
  dfl : ∀ H, SqT K H (He.dflAt ("Bundle", some "__init__") 0 K) []
theorem BQ.mk' {K : PySem.W.Frag} {mg : Str → Option Value} (b : BFacts K mg) (h : exE K (He.ga K "Bundle") = true) (ha : PySem.W.findIn K (.ref (He.ga K "Bundle")) "__eq__" = some (some (.ref (He.fAd K ("Bundle", some "__eq__")))))
    (hf : PySem.W.isFn K (.ref (He.fAd K ("Bundle", some "__eq__"))) = true) (hd : emptyT K (He.dflAt ("Bundle", some "__init__") 0 K) = true) : BQ K mg := by
  unfold exE at h
  simp only [Bool.and_eq_true] at h
  obtain ⟨h1, h2, h3, h4, h5, h6, h7⟩ := h
  exact ⟨b, ⟨b.cls, He.eqO_ok h1, of_decide_eq_true h2, of_decide_eq_true h3, of_decide_eq_true h4, of_decide_eq_true h5⟩, He.eqO_ok h6, of_decide_eq_true h7, ha, hf, emptyT_ok hd⟩
theorem cut_drop {xs : List V} {k : Nat} (h : k ≤ xs.length) : cutV xs (some (k : Int)) none = xs.drop k := by
  unfold cutV
  have e1 : HT.sIx xs.length 0 (some (k : Int)) = k := by rw [HT.sIx_nat]; exact Nat.min_eq_left h
  have e2 : HT.sIx xs.length xs.length none = xs.length := by simp [HT.sIx]
  rw [e1, e2]
  exact List.take_of_length_le (by rw [List.length_drop]; omega)
end Bd

set_option Elab.async false
set_option linter.all false
set_option maxRecDepth 100000
set_option maxHeartbeats 4000000
/-! The rows of a bundle that are above nothing. -/
namespace Bd
open PySem PySem.Spec PyProof.Rows L2
def posF (D : List (Ast × Int)) : List (Ast × Int) := D.filter fun e => decide (0 < e.2)
variable {D : List (Ast × Int)}
theorem posF_nrm (h : Nrm D) : Nrm (posF D) := ⟨List.Pairwise.filter _ h.srt, (List.filter_sublist.map _).nodup h.nd, fun e he => h.nz e (List.mem_filter.mp he).1⟩
theorem posF_tot (h : Nrm D) (p : Ast) : tot (posF D) p = if 0 < tot D p then tot D p else 0 := by
  by_cases m : p ∈ (posF D).map (·.1)
  · obtain ⟨e, he, rfl⟩ := List.mem_map.mp m
    have h1 := List.mem_filter.mp he
    have h2 := of_decide_eq_true h1.2
    rw [tot_at (posF_nrm h).nd he, tot_at h.nd h1.1, if_pos h2]
  · rw [tot_none m]
    split
    · rename_i q
      have : p ∈ D.map (·.1) := (h.key p).mpr (by omega)
      obtain ⟨e, he, rfl⟩ := List.mem_map.mp this
      rw [tot_at h.nd he] at q
      exact absurd (List.mem_map_of_mem (f := (·.1)) (List.mem_filter.mpr ⟨he, decide_eq_true q⟩)) m
    · rfl
theorem posF_take {i : Nat} {e : Ast × Int} (h : D[i]? = some e) : posF (D.take (i + 1)) = posF (D.take i) ++ (if 0 < e.2 then [e] else []) := by
  unfold posF
  rw [List.take_add_one, h, List.filter_append]
  by_cases q : 0 < e.2 <;> simp [q]
theorem posF_len (D : List (Ast × Int)) : (posF D).length ≤ D.length := List.length_filter_le _ _
theorem posF_ok (h : OkR D) : OkR (posF D) := fun e he => h e (List.mem_filter.mp he).1
theorem posF_nil (h : Nrm D) : posF D = [] ↔ ∀ p, tot D p ≤ 0 := by
  constructor
  · intro e p
    have := posF_tot h p
    rw [e, show tot [] p = 0 from rfl] at this
    split at this <;> omega
  · intro q
    refine List.filter_eq_nil_iff.mpr fun e he => ?_
    have := q e.1
    rw [tot_at h.nd he] at this
    simp; omega
theorem allPos {L N M : List (Ast × Int)} (nm : Nrm L) (ht : ∀ p, tot L p = tot N p - tot M p) : (L.map fun e => decide (e.2 > 0)).all id = true ↔ ∀ p, tot M p ≤ tot N p := by
  rw [List.all_eq_true]
  constructor
  · intro h p
    have := ht p
    by_cases m : p ∈ L.map (·.1)
    · obtain ⟨e, he, rfl⟩ := List.mem_map.mp m
      have h1 := of_decide_eq_true (h _ (List.mem_map_of_mem (f := fun e : Ast × Int => decide (e.2 > 0)) he))
      rw [tot_at nm.nd he] at this
      omega
    · rw [tot_none m] at this; omega
  · intro h b hb
    obtain ⟨e, he, rfl⟩ := List.mem_map.mp hb
    have h1 := ht e.1
    rw [tot_at nm.nd he] at h1
    have h2 := nm.nz e he
    have h3 := h e.1
    exact decide_eq_true (by omega)
end Bd
namespace Rb
open PySem PySem.Spec PyProof.Rows L2 Bd
section
variable {K : PySem.W.Frag} {σ : L2.St} {H : Hp} {Q : VK}
theorem asgG {te : TE} {g : TG} {n b c : L2.St → Hp → Prop} {r : VK} (k : te σ H fun x H1 => g x σ H1 n) : tAsg te g ⟨n, r, b, c⟩ σ H := k
/-- [.. for target in a tuple if ..] -/
theorem lcTestT {a : Addr} {xs : List V} {g : TG} {tt : TT} {te : TE} {vs : List Nat} (Pv : Addr → Nat → List V → Hp → Prop) (h : SqT K H a xs) (h0 : ∀ D H', H D = none → Same H H' → H' D = some (.lst []) → Pv D 0 [] H')
    (hs : ∀ (i : Nat) (x : V) (acc : List V) (D : Addr) (H' : Hp), H D = none → Same H H' → xs[i]? = some x → acc.length ≤ i → H' D = some (.lst acc) → Pv D i acc H' →
      g x (wipe σ vs) H' fun σ2 H2 => wipe σ2 vs = wipe σ vs ∧ tt σ2 H2 fun b H3 => if b = true then te σ2 H3 fun y H4 => ∃ acc, H4 D = some (.lst acc) ∧ acc.length < sizeLine ∧ (fun H5 => ∃ acc, Same H H5 ∧ acc.length ≤ i + 1 ∧ H5 D = some (.lst acc) ∧ Pv D (i + 1) acc H5) (upd H4 D (.lst (acc ++ [y])))
        else (fun H5 => ∃ acc, Same H H5 ∧ acc.length ≤ i + 1 ∧ H5 D = some (.lst acc) ∧ Pv D (i + 1) acc H5) H3)
    (hd : ∀ D acc H', H D = none → Same H H' → H' D = some (.lst acc) → acc.length ≤ xs.length → Pv D xs.length acc H' → Q (.ref D) H') :
    ∃ p, V.ref a = .ref p ∧ (∃ ys, SqT K H p ys) ∧ Rd.LcJ g tt te vs σ Q (Itt K p) H := by
  refine ⟨a, rfl, ⟨_, h⟩, fun D hD => ?_⟩
  refine lc_tup (xs := xs) (fun i H' => ∃ acc, Same H H' ∧ acc.length ≤ i ∧ H' D = some (.lst acc) ∧ Pv D i acc H') ⟨[], Rd.same_new hD, Nat.le_refl _, upd_same, h0 D _ hD (Rd.same_new hD) upd_same⟩ (fun i H' _ ⟨acc, s, _⟩ => Rd.same_tup s h) ?_ ?_
  · rintro i x H' hi ⟨acc, s, e, hD', p⟩
    exact hs i x acc D H' hD s hi e hD' p
  · rintro H' ⟨acc, s, e, hD', p⟩
    exact hd D acc H' hD s hD' e p
/-- one more row at the end of the list that is made -/
theorem rowE {H0 H' : Hp} {Dd t kq : Addr} {i : Nat} {acc : List V} {R : List (Ast × Int)} {p : Ast} {q : Int} (hD : H0 Dd = none) (hs : Same H0 H') (hDl : H' Dd = some (.lst acc)) (ht : H' t = none) (hl : acc.length ≤ i) (hi : i < 100000)
    (hrow : RowL H' acc R) (hk : H' kq = some (.tup [.str p.1, .int p.2])) (Pv : Addr → Nat → List V → Hp → Prop) (hp : ∀ acc' H5, RowL H5 acc' (R ++ [(p, q)]) → Pv Dd (i + 1) acc' H5) :
    ∃ acc', (upd H' t (.tup [.ref kq, .int q])) Dd = some (.lst acc') ∧ acc'.length < sizeLine ∧ (fun H5 => ∃ acc, Same H0 H5 ∧ acc.length ≤ i + 1 ∧ H5 Dd = some (.lst acc) ∧ Pv Dd (i + 1) acc H5) (upd (upd H' t (.tup [.ref kq, .int q])) Dd (.lst (acc' ++ [.ref t]))) := by
  have nDt : Dd ≠ t := fun y => by rw [← y, hDl] at ht; cases ht
  refine ⟨acc, (upd_ne nDt).trans hDl, Rd.smallT (by omega), acc ++ [.ref t], Rd.same_mut (hs.trans (Rd.same_new ht)) hD, by rw [List.length_append]; simp; omega, upd_same, hp _ _ ?_⟩
  refine (hrow.keepT fun y w hy => ?_).append (.cons (kq := kq) ?_ ?_ .nil)
  · exact (upd_ne fun e => by rw [e, hDl] at hy; cases hy).trans (Rd.same_new ht _ _ hy)
  · exact (upd_ne (Ne.symm nDt)).trans upd_same
  · exact (upd_ne fun e => by rw [e, hDl] at hk; cases hk).trans (Rd.same_new ht _ _ hk)
end
end Rb
namespace Rb
open PySem PySem.Spec PyProof.Rows L2 Bd
section
variable {K : PySem.W.Frag} {σ : L2.St} {H : Hp} {Q : VK} {E : XK}
theorem meth {C : Addr} {m : Str} {sp : Sp} {ta : TE} {t : TA} (k : ta σ H fun x H1 => ∃ a dx fs, x = .ref a ∧ H1 a = some (.ins C dx fs) ∧ fs.lookup m = none ∧ t σ H1 fun vs H2 => sp (x :: (vs ++ [])) H2 Q E) : tMeth C m sp [] E ta t σ H Q := k
theorem mth {b : Addr} {N : List (Ast × Int)} {R : Prop} (h : BdAt K H b N) (k : R) : ∃ a dx fs, V.ref b = .ref a ∧ H a = some (.ins (He.ga K "Bundle") dx fs) ∧ fs.lookup ("covers" : Str) = none ∧ R := by
  obtain ⟨dx, r, d, xs, h1, _⟩ := h
  exact ⟨b, dx, _, rfl, h1, rfl, k⟩
end
end Rb
namespace Bd
open PySem PySem.Spec PyProof.Rows L2
theorem encRl_shaped {N : List (Ast × Int)} (h : OkR N) : SeqAt.shaped (.list (N.map encR)) = true := by
  have := encR_depth N
  unfold SeqAt.shaped
  simp only [PyData.canLay0, encR_lay N h, PyData.depth, Bool.true_and]
  exact decide_eq_true (by omega)
theorem eqv_nil {N : List (Ast × Int)} {t : Bool} (h : t = true ↔ N = []) : PyData.eqv (.bool t) (.bool (PyData.eqv (.list (N.map encR)) (.list []))) = true := by
  cases N with
  | nil => rw [h.mpr rfl]; simp [PyData.eqv, PyData.eqvAll]
  | cons e N =>
    have : t = false := by cases t; rfl; exact absurd (h.mp rfl) (by simp)
    rw [this]; simp [PyData.eqv, PyData.eqvAll]
end Bd

set_option Elab.async false
set_option linter.all false
set_option maxRecDepth 100000
set_option maxHeartbeats 4000000
/-! xs.extend of a tuple; x == a tuple, by an own __eq__. -/
namespace Bd
open PySem PySem.SeqAt
open AutoSeq1 MeetsSeq MeetsSeq2 MeetsSeq3 SeqRoads2
theorem ext_tup (l : Addr) (items : Array Value) (n : Nat) (b : Addr) (o : Obj) (items2 : Array Value) (n2 : Nat) (hc : o.cls = .type "tuple") (hd : o.data = .seq items2 n2) (hs0 : ¬(!items.isEmpty && Builtin.List.listTooLong (items.size + items2.size)) = true) (hs1 : items.size ≤ sizeLine) (hs2 : items.size + items2.size ≤ sizeLine + 1) :
    Meets (Builtin.«list.extend» ⟨[.ref l, .ref b], []⟩) (fun _ R s => s.heap.get? l = some { cls := .type "list", dict := none, data := .seq items n, slots := #[] } ∧ s.heap.get? b = some o ∧ R (.ok (.ret Value.none)) { s with heap := s.heap.update l (Obj.mapSeq fun x => x ++ items2), toks := s.toks }) :=
  .of_wp fun prog w A R s h => by
    obtain ⟨oc, od, dt, sl⟩ := o
    cases hc
    cases hd
    obtain ⟨hp, g, d, tk, os⟩ := s; obtain ⟨hl, hb, h⟩ := h; have f1 := idx_int; have f2 := sub_tuple_tuple; have f3 := sub_list_list; have f4 := sub_tuple_list; have f5 := sub_list_tuple;
    have hz' : (items ++ items2).size ≤ sizeLine + 1 := by rw [Array.size_append]; exact hs2
    wp_walk using (wpAny_updateSeq hl rfl (hz := hs1) (_hz' := hz')), wpAny_loadPart' hl, wpAny_loadPart' hb; exact ⟨_, rfl, h⟩
end Bd
namespace Bd
open PySem PySem.Spec PyProof.Rows L2
section
variable {X : Cx}
/-- xs.extend(t), t a tuple of the heap -/
def rExtendT : V → List V → Hp → VK → Prop := fun x vs H Q => ∃ l b xs zs, x = .ref l ∧ vs = [.ref b] ∧ H l = some (.lst xs) ∧ H b = some (.tup zs) ∧ xs.length + zs.length ≤ sizeLine ∧ Q .non (upd H l (.lst (xs ++ zs)))
theorem mt_extendT : MtM X "list.extend" rExtendT := by
  intro pins s σ H x vs v us Q I rx rv h
  obtain ⟨l, b, xs, zs, rfl, rfl, hH, hB, hz, q⟩ := h
  cases rx
  obtain ⟨u, rfl, ru⟩ := rv.one
  cases ru
  obtain ⟨z, its, n, r, hl, e⟩ := I.lstM hH
  obtain ⟨_, its2, r2, o, ho, hc, n2, hd⟩ := (show ObjOk X.prog X.w H s.heap b (.tup zs) from I.hok b _ hB)
  have l2 := r2.length
  have hsz : its.toArray.size + its2.toArray.size ≤ sizeLine := by rw [List.size_toArray, List.size_toArray]; omega
  have hlong : ¬ (!its.toArray.isEmpty && Builtin.List.listTooLong (its.toArray.size + its2.toArray.size)) = true := by
    rw [notLongL hsz, Bool.and_false]
    exact Bool.false_ne_true
  refine call_meets F.slot_list_extend ⟨_, e, rfl⟩ F.entry_list_extend (F.args_list_extend_2 _ _)
    (ext_tup l its.toArray n b o its2.toArray n2 hc hd hlong (by rw [List.size_toArray]; omega) (by omega)) ⟨e, ho, ?_⟩
  refine ⟨.non, _, I.lset (its' := its ++ its2) hH e (by simp) (r.append r2) ?_, rfl, q⟩
  rw [List.length_append]
  omega
end
section
variable {X : Cx} {CT : CXT} {n : Nat} {C f : Addr} {fd : FuncData} {ps : List Str} {sp : Sp} {E : XK}
/-- x == t, x of the class at C, t a tuple of the heap -/
def rEqTup (C : Addr) (sp : Sp) (E : XK) : R2 := fun x y H Q => ∃ a b dx fs ys, x = .ref a ∧ y = .ref b ∧ H a = some (.ins C dx fs) ∧ H b = some (.tup ys) ∧ sp [.ref a, .ref b] H Q E
theorem op_eqTup (F : FnOk X.prog X.w X.K X.mg X.base CT n f fd ps sp) (hs : PySem.W.findIn X.K (.ref C) "__eq__" = some (some (.ref f))) (hf : PySem.W.isFn X.K (.ref f) = true) (hsub : PySem.W.subIn X.K (.type "tuple") (.ref C) = some false)
    (hb : Binds X.K fd ps []) (hx : Passes CT X E) (hr : Room n X.A) : OpR X (compareOp .Eq) (rEqTup C sp E) := by
  intro pins s σ H x y v u Q I rx ry h
  obtain ⟨a, b, dx, fs, ys, rfl, rfl, ha, hb', hsp⟩ := h
  obtain rfl : v = Value.ref a := rx
  obtain rfl : u = Value.ref b := ry
  obtain ⟨mA, J, _⟩ := ins_get I.hok ha
  obtain ⟨od, J, _⟩ := J.look
  obtain ⟨_, its, r, o, ho, hc, n, hd⟩ := (show ObjOk X.prog X.w H s.heap b (.tup ys) from I.hok b _ hb')
  obtain ⟨m, hF⟩ := I.fr
  show wpAny (model X.prog X.w) X.A (richCompare .Eq (.ref a) (.ref b)) _ _ _
  refine PySem.W.cmp_K (op := .Eq) (tb := .type "tuple") hr.units0 hF I.ok.mod.kin J (hc ▸ (PySem.W.Looks.ld ho).andThen .now) (by simp [PySem.W.notFirst, hsub]) hs hf ?_
  exact wpAny_mono (call_def F hb hx hr I (vs := [.ref a, .ref b]) (.cons rfl (.cons rfl .nil)) hsp) (fun _ _ h => back_ep h) fun _ _ e => e
end
end Bd
namespace Bd
open PySem PySem.Spec PyProof.Rows L2
theorem encR_eqv2 (e f : Ast × Int) : PyData.eqv (encR e) (encR f) = decide (e = f) := by
  have : (e = f) ↔ ((e.1.1 = f.1.1 ∧ e.1.2 = f.1.2) ∧ e.2 = f.2) := ⟨fun h => by rw [h]; exact ⟨⟨rfl, rfl⟩, rfl⟩, fun h => Prod.ext (Prod.ext h.1.1 h.1.2) h.2⟩
  simp only [encR, PyData.eqv, PyData.eqvAll, Bool.and_true]
  rw [Bool.eq_iff_iff]
  simp [this]
theorem encRs_eqv : ∀ (N M : List (Ast × Int)), PyData.eqv (.tuple (N.map encR)) (.tuple (M.map encR)) = decide (N = M)
  | [], [] => by simp [PyData.eqv, PyData.eqvAll]
  | [], f :: M => by simp [PyData.eqv, PyData.eqvAll]
  | e :: N, [] => by simp [PyData.eqv, PyData.eqvAll]
  | e :: N, f :: M => by
    have h := encRs_eqv N M
    simp only [PyData.eqv] at h ⊢
    simp only [List.map_cons, PyData.eqvAll, encR_eqv2, h]
    rw [Bool.eq_iff_iff]
    simp
end Bd
namespace Rb
open PySem PySem.Spec PyProof.Rows L2 Bd
theorem ext {K : PySem.W.Frag} {σ : L2.St} {H : Hp} {to : TE} {t : TA} {Q : VK} (k : to σ H fun x H1 => tyV K "list" x H1 ∧ t σ H1 fun xs H2 => rExtendT x xs H2 Q) : tBM K "list" rExtendT to t σ H Q := k
end Rb

set_option Elab.async false
set_option linter.all false
set_option maxRecDepth 100000
/-! Data: values that are trees of ints, texts, tuples; comprehensions and loops over them. -/
namespace Dj
open PySem PySem.Spec PyProof.Rows L2
mutual
/-- no list and no dict anywhere -/
def nl : PyData → Bool
  | .none | .bool _ | .int _ | .str _ => true
  | .tuple ds => nlAll ds
  | .list _ | .dict _ => false
def nlAll : List PyData → Bool
  | [] => true
  | d :: ds => nl d && nlAll ds
end
theorem nlAll_mem : ∀ {ds : List PyData}, nlAll ds = true ↔ ∀ d ∈ ds, nl d = true
  | [] => by simp [nlAll]
  | d :: ds => by simp only [nlAll, Bool.and_eq_true, List.mem_cons, forall_eq_or_imp, nlAll_mem (ds := ds)]
/-- what is no list stays -/
def SameT (H H' : Hp) : Prop := ∀ a o, H a = some o → (∀ l, o ≠ .lst l) → H' a = some o
theorem SameT.refl (H : Hp) : SameT H H := fun _ _ h _ => h
theorem SameT.of {H H' : Hp} (e : Same H H') : SameT H H' := fun a o h _ => e a o h
theorem SameT.trans {H H1 H2 : Hp} (a : SameT H H1) (b : SameT H1 H2) : SameT H H2 := fun c o h n => b c o (a c o h n) n
theorem SameT.put {H : Hp} {p : Addr} {l : List V} {o : HO} (h : H p = some (.lst l)) : SameT H (L2.upd H p o) := fun a u ha n => by
  rw [upd_ne fun e => by subst e; rw [h] at ha; exact n l (Option.some.inj ha).symm]
  exact ha
theorem SameT.new {H : Hp} {p : Addr} {o : HO} (h : H p = none) : SameT H (upd H p o) := .of (Rd.same_new h)
theorem sqT_keep {K : PySem.W.Frag} {H H' : Hp} {a : Addr} {xs : List V} (e : SameT H H') (h : SqT K H a xs) : SqT K H' a xs := by
  rcases h with (h | ⟨o, h⟩) | h
  · exact .inl (.inl (e _ _ h fun l => by simp))
  · exact .inl (.inr ⟨o, e _ _ h fun l => by simp⟩)
  · exact .inr h
theorem dp_keep {K : PySem.W.Frag} {H H' : Hp} (e : SameT H H') : ∀ {x : V} {d : PyData}, nl d = true → Dp K H x d → Dp K H' x d
  | _, _, _, .non => .non
  | _, _, _, .bl b => .bl b
  | _, _, _, .int i => .int i
  | _, _, _, .str x => .str x
  | _, _, n, .lst h a => by simp [nl] at n
  | _, _, n, .tup h a => .tup (sqT_keep e h) (go e (by simpa [nl] using n) a)
where go {K : PySem.W.Frag} {H H' : Hp} (e : SameT H H') : ∀ {xs : List V} {ds : List PyData}, nlAll ds = true → DpAll K H xs ds → DpAll K H' xs ds
  | _, _, _, .nil => .nil
  | _, _, n, .cons h t => .cons (dp_keep e (by simp only [nlAll, Bool.and_eq_true] at n; exact n.1) h) (go e (by simp only [nlAll, Bool.and_eq_true] at n; exact n.2) t)
theorem dpAll_keep {K : PySem.W.Frag} {H H' : Hp} (e : SameT H H') {xs : List V} {ds : List PyData} (n : nlAll ds = true) (h : DpAll K H xs ds) : DpAll K H' xs ds := dp_keep.go e n h
theorem dpAll_same {K : PySem.W.Frag} {H H' : Hp} (e : Same H H') {xs : List V} {ds : List PyData} (h : DpAll K H xs ds) : DpAll K H' xs ds := Rd.dp_same.go e h
theorem dpAll_app {K : PySem.W.Frag} {H : Hp} : ∀ {xs ys : List V} {ds es : List PyData}, DpAll K H xs ds → DpAll K H ys es → DpAll K H (xs ++ ys) (ds ++ es)
  | _, _, _, _, .nil, k => k
  | _, _, _, _, .cons h t, k => .cons h (dpAll_app t k)
theorem dpAll_one {K : PySem.W.Frag} {H : Hp} {x : V} {d : PyData} (h : Dp K H x d) : DpAll K H [x] [d] := .cons h .nil
theorem dpAll_at {K : PySem.W.Frag} {H : Hp} : ∀ {xs : List V} {ds : List PyData}, DpAll K H xs ds → ∀ {i : Nat} {x : V}, xs[i]? = some x → ∃ d, ds[i]? = some d ∧ Dp K H x d
  | _, _, .nil, i, x, h => by simp at h
  | _, _, .cons h t, 0, x, e => by simp only [List.getElem?_cons_zero, Option.some.injEq] at e; subst e; exact ⟨_, rfl, h⟩
  | _, _, .cons h t, i + 1, x, e => by simp only [List.getElem?_cons_succ] at e ⊢; exact dpAll_at t e
theorem dpAll_ints {K : PySem.W.Frag} {H : Hp} : ∀ {xs : List V} {ns : List Int}, DpAll K H xs (ns.map PyData.int) → xs = ns.map V.int
  | _, [], .nil => rfl
  | _, n :: ns, .cons h t => by cases h; rw [dpAll_ints t]; rfl
theorem dp_ints {K : PySem.W.Frag} {H : Hp} : ∀ {ns : List Int}, DpAll K H (ns.map V.int) (ns.map PyData.int)
  | [] => .nil
  | n :: ns => .cons (.int n) dp_ints
theorem dp_pair {K : PySem.W.Frag} {H : Hp} {x : V} {d e : PyData} (h : Dp K H x (.tuple [d, e])) : ∃ z u v, x = .ref z ∧ SqT K H z [u, v] ∧ Dp K H u d ∧ Dp K H v e := by
  cases h with
  | tup h a => cases a with | cons h1 t => cases t with | cons h2 t2 => cases t2; exact ⟨_, _, _, rfl, h, h1, h2⟩
theorem dp_triple {K : PySem.W.Frag} {H : Hp} {x : V} {d e f : PyData} (h : Dp K H x (.tuple [d, e, f])) : ∃ z u v y, x = .ref z ∧ SqT K H z [u, v, y] ∧ Dp K H u d ∧ Dp K H v e ∧ Dp K H y f := by
  cases h with
  | tup h a => cases a with | cons h1 t => cases t with | cons h2 t2 => cases t2 with | cons h3 t3 => cases t3; exact ⟨_, _, _, _, rfl, h, h1, h2, h3⟩
theorem dp_tup {K : PySem.W.Frag} {H : Hp} {x : V} {ds : List PyData} (h : Dp K H x (.tuple ds)) : ∃ z us, x = .ref z ∧ SqT K H z us ∧ DpAll K H us ds := by
  cases h with | tup h a => exact ⟨_, _, rfl, h, a⟩
theorem dp_lst {K : PySem.W.Frag} {H : Hp} {x : V} {ds : List PyData} (h : Dp K H x (.list ds)) : ∃ z us, x = .ref z ∧ SqL K H z us ∧ DpAll K H us ds := by
  cases h with | lst h a => exact ⟨_, _, rfl, h, a⟩
theorem dp_int {K : PySem.W.Frag} {H : Hp} {x : V} {i : Int} (h : Dp K H x (.int i)) : x = .int i := by cases h; rfl
theorem dp_str {K : PySem.W.Frag} {H : Hp} {x : V} {i : Str} (h : Dp K H x (.str i)) : x = .str i := by cases h; rfl
theorem dp_bool {K : PySem.W.Frag} {H : Hp} {x : V} {i : Bool} (h : Dp K H x (.bool i)) : x = .bl i := by cases h; rfl
theorem dp_none {K : PySem.W.Frag} {H : Hp} {x : V} (h : Dp K H x .none) : x = .non := by cases h; rfl
theorem push {K : PySem.W.Frag} {H H4 : Hp} {r : Addr} {xs ys : List V} {ds : List PyData} {v : V} {d : PyData} {o : HO} (hx : DpAll K H xs ds) (n : nlAll ds = true) (s : Same H H4) (hr : H4 r = some (.lst ys)) (hv : Dp K H4 v d) (nd : nl d = true) : DpAll K (L2.upd H4 r o) (xs ++ [v]) (ds ++ [d]) :=
  dpAll_app (dpAll_keep (SameT.trans (.of s) (.put hr)) n hx) (dpAll_one (dp_keep (.put hr) nd hv))
theorem nlMap {α : Type} {R : List α} {f : α → PyData} (h : ∀ e, nl (f e) = true) : nlAll (R.map f) = true := nlAll_mem.mpr fun d hd => by
  obtain ⟨e, _, rfl⟩ := List.mem_map.mp hd
  exact h e
/-! equality -/
mutual
/-- no truth and no dict anywhere: equal are the same ones alone -/
def nb : PyData → Bool
  | .none | .int _ | .str _ => true
  | .tuple ds | .list ds => nbAll ds
  | .bool _ | .dict _ => false
def nbAll : List PyData → Bool
  | [] => true
  | d :: ds => nb d && nbAll ds
end
theorem nbAll_mem : ∀ {ds : List PyData}, nbAll ds = true ↔ ∀ d ∈ ds, nb d = true
  | [] => by simp [nbAll]
  | d :: ds => by simp only [nbAll, Bool.and_eq_true, List.mem_cons, forall_eq_or_imp, nbAll_mem (ds := ds)]
mutual
theorem eqv_nb : ∀ (d e : PyData), nb d = true → nb e = true → (PyData.eqv d e = true ↔ d = e)
  | .none, e, _, h => by cases e <;> simp_all [PyData.eqv, nb]
  | .int i, e, _, h => by cases e <;> simp_all [PyData.eqv, nb]
  | .str i, e, _, h => by cases e <;> simp_all [PyData.eqv, nb]
  | .bool _, _, h, _ => by simp [nb] at h
  | .dict _, _, h, _ => by simp [nb] at h
  | .list xs, e, h, k => by
    cases e with
    | list ys => simp only [nb] at h k; simp only [PyData.eqv, eqv_nbAll xs ys h k, PyData.list.injEq]
    | _ => simp_all [PyData.eqv, nb]
  | .tuple xs, e, h, k => by
    cases e with
    | tuple ys => simp only [nb] at h k; simp only [PyData.eqv, eqv_nbAll xs ys h k, PyData.tuple.injEq]
    | _ => simp_all [PyData.eqv, nb]
theorem eqv_nbAll : ∀ (xs ys : List PyData), nbAll xs = true → nbAll ys = true → (PyData.eqvAll xs ys = true ↔ xs = ys)
  | [], [], _, _ => by simp [PyData.eqvAll]
  | [], _ :: _, _, _ => by simp [PyData.eqvAll]
  | _ :: _, [], _, _ => by simp [PyData.eqvAll]
  | x :: xs, y :: ys, h, k => by
    simp only [nbAll, Bool.and_eq_true] at h k
    simp only [PyData.eqvAll, Bool.and_eq_true, eqv_nb x y h.1 k.1, eqv_nbAll xs ys h.2 k.2, List.cons.injEq]
end
mutual
/-- no dict anywhere: each is equal to itself -/
def nd : PyData → Bool
  | .none | .int _ | .str _ | .bool _ => true
  | .tuple ds | .list ds => ndAll ds
  | .dict _ => false
def ndAll : List PyData → Bool
  | [] => true
  | d :: ds => nd d && ndAll ds
end
mutual
theorem eqv_self : ∀ (d : PyData), nd d = true → PyData.eqv d d = true
  | .none, _ => by simp [PyData.eqv]
  | .int i, _ => by simp [PyData.eqv]
  | .str i, _ => by simp [PyData.eqv]
  | .bool _, h => by simp [PyData.eqv]
  | .dict _, h => by simp [nd] at h
  | .list xs, h => by simp only [nd] at h; simp only [PyData.eqv, eqv_selfAll xs h]
  | .tuple xs, h => by simp only [nd] at h; simp only [PyData.eqv, eqv_selfAll xs h]
theorem eqv_selfAll : ∀ (xs : List PyData), ndAll xs = true → PyData.eqvAll xs xs = true
  | [], _ => by simp [PyData.eqvAll]
  | x :: xs, h => by
    simp only [ndAll, Bool.and_eq_true] at h
    simp only [PyData.eqvAll, eqv_self x h.1, eqv_selfAll xs h.2, Bool.and_self]
end
/-! shape -/
theorem lay_mem : ∀ {ds : List PyData}, PyData.canLayAll0 ds = true ↔ ∀ d ∈ ds, PyData.canLay0 d = true
  | [] => by simp [PyData.canLayAll0]
  | d :: ds => by simp only [PyData.canLayAll0, Bool.and_eq_true, List.mem_cons, forall_eq_or_imp, lay_mem (ds := ds)]
theorem depth_mem {n : Nat} : ∀ {ds : List PyData}, PyData.depthAll ds ≤ n ↔ ∀ d ∈ ds, PyData.depth d ≤ n
  | [] => by simp [PyData.depthAll]
  | d :: ds => by simp only [PyData.depthAll, Nat.max_le, List.mem_cons, forall_eq_or_imp, depth_mem (ds := ds)]
/-- good and at most so deep -/
def Sh (n : Nat) (d : PyData) : Prop := PyData.canLay0 d = true ∧ PyData.depth d ≤ n
theorem Sh.shaped {n : Nat} {d : PyData} (h : Sh n d) (hn : n ≤ 64) : SeqAt.shaped d = true := by
  unfold SeqAt.shaped
  rw [h.1, Bool.true_and]
  exact decide_eq_true (Nat.le_trans h.2 hn)
theorem Sh.int (i : Int) (n : Nat) : Sh n (.int i) := ⟨by simp [PyData.canLay0], by simp [PyData.depth]⟩
theorem Sh.bool (i : Bool) (n : Nat) : Sh n (.bool i) := ⟨by simp [PyData.canLay0], by simp [PyData.depth]⟩
theorem Sh.none (n : Nat) : Sh n .none := ⟨by simp [PyData.canLay0], by simp [PyData.depth]⟩
theorem Sh.str {x : Str} (n : Nat) (h : PyData.strOk x = true) : Sh n (.str x) := ⟨by simpa [PyData.canLay0] using h, by simp [PyData.depth]⟩
theorem Sh.tuple {n : Nat} {ds : List PyData} (h : ∀ d ∈ ds, Sh n d) : Sh (n + 1) (.tuple ds) := ⟨by simp only [PyData.canLay0]; exact lay_mem.mpr fun d hd => (h d hd).1, by simp only [PyData.depth]; exact Nat.succ_le_succ (depth_mem.mpr fun d hd => (h d hd).2)⟩
theorem Sh.list {n : Nat} {ds : List PyData} (h : ∀ d ∈ ds, Sh n d) : Sh (n + 1) (.list ds) := ⟨by simp only [PyData.canLay0]; exact lay_mem.mpr fun d hd => (h d hd).1, by simp only [PyData.depth]; exact Nat.succ_le_succ (depth_mem.mpr fun d hd => (h d hd).2)⟩
theorem Sh.mono {n m : Nat} {d : PyData} (h : Sh n d) (hm : n ≤ m) : Sh m d := ⟨h.1, Nat.le_trans h.2 hm⟩
theorem gN {σ : L2.St} {H : Hp} {i : Nat} {x : V} {Qd : L2.St → Hp → Prop} (k : Qd (σ.set i (some x)) H) : gName i x σ H Qd := k
theorem dpS {K : PySem.W.Frag} {H H' : Hp} {xs : List V} {ds : List PyData} (h : DpAll K H xs ds) (e : Same H H') : DpAll K H' xs ds := dpAll_same e h
theorem dpS1 {K : PySem.W.Frag} {H H' : Hp} {x : V} {d : PyData} (h : Dp K H x d) (e : Same H H') : Dp K H' x d := Rd.dp_same e h
theorem sat {H0 H : Hp} {a : Addr} {o : HO} (s : Same H0 H) (h : H0 a = some o) : H a = some o := s _ _ h
theorem satL {K : PySem.W.Frag} {H0 H : Hp} {a : Addr} {xs : List V} (s : Same H0 H) (h : SqL K H0 a xs) : SqL K H a xs := s.seq h
theorem satT {K : PySem.W.Frag} {H0 H : Hp} {a : Addr} {xs : List V} (s : Same H0 H) (h : SqT K H0 a xs) : SqT K H a xs := Rd.same_tup s h
theorem fldK {K : PySem.W.Frag} {H : Hp} {Q : VK} {a C dx : Addr} {fs : List (Str × V)} {f : Str} {v : V} (h : H a = some (.ins C dx fs)) (c : Cls K C) (n : NoAttr K C f) (l : fs.lookup f = some v) (k : Q v H) :
    ∃ a' C' dx' fs' v', V.ref a = .ref a' ∧ H a' = some (.ins C' dx' fs') ∧ Cls K C' ∧ NoAttr K C' f ∧ fs'.lookup f = some v' ∧ Q v' H := ⟨a, C, dx, fs, v, rfl, h, c, n, l, k⟩
/-! tests whose outcome is known -/
theorem iteDt {p : Prop} [Decidable p] {A B : Prop} (h : p) (k : A) : if decide p = true then A else B := by rw [decide_eq_true h]; exact Rd.iteT k
theorem iteDf {p : Prop} [Decidable p] {A B : Prop} (h : ¬ p) (k : B) : if decide p = true then A else B := by rw [decide_eq_false h]; exact Rd.iteF k
theorem iteNt {p : Prop} [Decidable p] {A B : Prop} (h : ¬ p) (k : A) : if (!decide p) = true then A else B := by rw [decide_eq_false h]; exact Rd.iteT k
theorem iteNf {p : Prop} [Decidable p] {A B : Prop} (h : p) (k : B) : if (!decide p) = true then A else B := by rw [decide_eq_true h]; exact Rd.iteF k
/-! drawn numbers -/
def B3 (ns : List Int) : Prop := ∀ x ∈ ns, 0 ≤ x ∧ x < 1000
theorem B3.app {ns ms : List Int} (h : B3 ns) (k : B3 ms) : B3 (ns ++ ms) := fun x hx => (List.mem_append.mp hx).elim (h x) (k x)
theorem B3.drop {ns : List Int} (h : B3 ns) (n : Nat) : B3 (ns.drop n) := fun x hx => h x (List.mem_of_mem_drop hx)
theorem B3.take {ns : List Int} (h : B3 ns) (n : Nat) : B3 (ns.take n) := fun x hx => h x (List.mem_of_mem_take hx)
theorem B3.nil : B3 [] := fun _ h => absurd h List.not_mem_nil
theorem B3.push {ns : List Int} {x : Int} (h : B3 ns) (hx : 0 ≤ x ∧ x < 1000) : B3 (ns ++ [x]) := h.app fun y hy => by rw [List.mem_singleton.mp hy]; exact hx
section
variable {K : PySem.W.Frag} {H : Hp} {Q : VK} {l : Addr} {ns : List Int} {i : Int}
theorem ixB (h : SqL K H l (ns.map V.int)) (hb : B3 ns) (h0 : 0 ≤ i) (h1 : i < (ns.length : Int)) (k : ∀ v : Int, 0 ≤ v → v < 1000 → Q (.int v) H) : rIxL K (.ref l) (.int i) H Q := by
  have hg := hb (ns.getD i.toNat 0) (by
    have h2 : i.toNat < ns.length := by omega
    rw [List.getD_eq_getElem?_getD, List.getElem?_eq_getElem h2]
    exact List.getElem_mem h2)
  exact Rd.ixL h (Rd.atI_ints h0 h1) (k _ hg.1 hg.2)
theorem ixBm (h : SqL K H l (ns.map V.int)) (hb : B3 ns) (hn : 0 < ns.length) (k : ∀ v : Int, 0 ≤ v → v < 1000 → Q (.int v) H) : rIxL K (.ref l) (.int (i % (ns.length : Int))) H Q :=
  ixB h hb (Int.emod_nonneg _ (by omega)) (Int.emod_lt_of_pos i (by omega)) k
theorem ixAll {xs : List V} (P : V → Prop) (h : SqL K H l xs) (h0 : 0 ≤ i) (h1 : i < (xs.length : Int)) (hp : ∀ v ∈ xs, P v) (k : ∀ v, P v → Q v H) : rIxL K (.ref l) (.int i) H Q := Rd.ixLmem h h0 h1 fun v hv => k v (hp v hv)
theorem modBd {a lo hi : Int} (h : lo ≤ hi) : lo ≤ lo + a % (hi - lo + 1) ∧ lo + a % (hi - lo + 1) ≤ hi := by
  have h1 := Int.emod_nonneg a (b := hi - lo + 1) (by omega)
  have h2 := Int.emod_lt_of_pos a (b := hi - lo + 1) (by omega)
  omega
/-- an item of a list of ints, only that it is an int -/
theorem ixI (h : SqL K H l (ns.map V.int)) (h0 : 0 ≤ i) (h1 : i < (ns.length : Int)) (k : ∀ v : Int, Q (.int v) H) : rIxL K (.ref l) (.int i) H Q := Rd.ixL h (Rd.atI_ints h0 h1) (k _)
theorem lenI {n : Nat} (h : SqL K H l (ns.map V.int)) (e : ns.length = n) (k : Q (.int n) H) : Rd.LenK K [.ref l] H Q := Rd.lenL h (by rw [List.length_map]; exact e) k
end
section
variable {K : PySem.W.Frag} {H : Hp} {Q : VK} {x y : V} {d : PyData}
theorem neSame (h1 : Dp K H x d) (h2 : Dp K H y d) (n : nd d = true) (s : SeqAt.shaped d = true) (k : Q (.bl false) H) : rNeD K x y H Q := ⟨d, d, h1, h2, s, s, by rw [eqv_self d n]; exact k⟩
theorem eqSame (h1 : Dp K H x d) (h2 : Dp K H y d) (n : nd d = true) (s : SeqAt.shaped d = true) (k : Q (.bl true) H) : rEqD K x y H Q := ⟨d, d, h1, h2, s, s, by rw [eqv_self d n]; exact k⟩
end
theorem ndAll_mem : ∀ {ds : List PyData}, ndAll ds = true ↔ ∀ d ∈ ds, nd d = true
  | [] => by simp [ndAll]
  | d :: ds => by simp only [ndAll, Bool.and_eq_true, List.mem_cons, forall_eq_or_imp, ndAll_mem (ds := ds)]
theorem ndMap {α : Type} {R : List α} {f : α → PyData} (h : ∀ e, nd (f e) = true) : ndAll (R.map f) = true := ndAll_mem.mpr fun d hd => by
  obtain ⟨e, _, rfl⟩ := List.mem_map.mp hd
  exact h e
/-! comprehensions over data -/
section
variable {K : PySem.W.Frag} {σ : L2.St} {H : Hp} {Q : VK} {α : Type}
theorem map_at {R : List α} {f : α → PyData} {i : Nat} {d : PyData} (h : (R.map f)[i]? = some d) : ∃ e, R[i]? = some e ∧ f e = d := by
  rw [List.getElem?_map] at h
  cases q : R[i]? with
  | none => rw [q] at h; cases h
  | some e => rw [q] at h; exact ⟨e, rfl, Option.some.inj h⟩
theorem take_map {β : Type} {R : List α} {f : α → β} {i : Nat} {e : α} (h : R[i]? = some e) : (R.take (i + 1)).map f = (R.take i).map f ++ [f e] := by
  rw [List.take_add_one, h, List.map_append]; rfl
theorem lcD {a : Addr} {xs : List V} {g : TG} {te : TE} {vs : List Nat} {R : List α} (enc : α → PyData) (F : α → PyData) (h : SqL K H a xs) (hx : DpAll K H xs (R.map enc)) (hl : xs.length ≤ 100000) (hn : ∀ e ∈ R, nl (F e) = true)
    (hs : ∀ (e : α) (x : V) (D : Addr) (acc : List V) (H' : Hp) (C : VK), H D = none → Same H H' → e ∈ R → Dp K H' x (enc e) → H' D = some (.lst acc) → (∀ y H3, Same H' H3 → Dp K H3 y (F e) → C y H3) →
      g x (wipe σ vs) H' fun σ2 H2 => wipe σ2 vs = wipe σ vs ∧ te σ2 H2 C)
    (hd : ∀ D acc H', H D = none → Same H H' → H' D = some (.lst acc) → DpAll K H' acc (R.map F) → Q (.ref D) H') :
    ∃ p, V.ref a = .ref p ∧ (∃ ys, SqL K H p ys) ∧ Rd.LcJ g tYes te vs σ Q (Itl K p) H := by
  have hxl := Rd.dpAll_len hx
  rw [List.length_map] at hxl
  refine Rb.lcL2 (fun D i acc H' => DpAll K H' acc ((R.take i).map F)) h (fun D H' _ _ _ => .nil) ?_ ?_
  · intro i x acc D H' hD s hi hl2 hDl hacc
    obtain ⟨d, hd2, hdp⟩ := dpAll_at hx hi
    obtain ⟨e, he, rfl⟩ := map_at hd2
    have hi2 : i < xs.length := (List.getElem?_eq_some_iff.mp hi).1
    refine hs e x D acc H' _ hD s (List.mem_of_getElem? he) (Rd.dp_same s hdp) hDl fun y H3 s3 hy => ?_
    refine Rd.lcE hD (s3 _ _ hDl) (s.trans s3) hl2 (by omega) ?_
    have st : SameT H3 (upd H3 D (.lst (acc ++ [y]))) := .put (s3 _ _ hDl)
    rw [take_map he]
    refine dpAll_app (dpAll_keep (SameT.trans (.of s3) st) ?_ hacc) (dpAll_one (dp_keep st (hn e (List.mem_of_getElem? he)) hy))
    refine nlAll_mem.mpr fun d hd => ?_
    obtain ⟨e', he', rfl⟩ := List.mem_map.mp hd
    exact hn e' (List.mem_of_mem_take he')
  · intro D acc H' hD s hDl hal hacc
    rw [hxl, List.take_length] at hacc
    exact hd D acc H' hD s hDl hacc
theorem lcDT {a : Addr} {xs : List V} {g : TG} {te : TE} {vs : List Nat} {R : List α} (enc : α → PyData) (F : α → PyData) (h : SqT K H a xs) (hx : DpAll K H xs (R.map enc)) (hl : xs.length ≤ 100000) (hn : ∀ e ∈ R, nl (F e) = true)
    (hs : ∀ (e : α) (x : V) (D : Addr) (acc : List V) (H' : Hp) (C : VK), H D = none → Same H H' → e ∈ R → Dp K H' x (enc e) → H' D = some (.lst acc) → (∀ y H3, Same H' H3 → Dp K H3 y (F e) → C y H3) →
      g x (wipe σ vs) H' fun σ2 H2 => wipe σ2 vs = wipe σ vs ∧ te σ2 H2 C)
    (hd : ∀ D acc H', H D = none → Same H H' → H' D = some (.lst acc) → DpAll K H' acc (R.map F) → Q (.ref D) H') :
    ∃ p, V.ref a = .ref p ∧ (∃ ys, SqT K H p ys) ∧ Rd.LcJ g tYes te vs σ Q (Itt K p) H := by
  have hxl := Rd.dpAll_len hx
  rw [List.length_map] at hxl
  refine Rb.lcT (fun D i acc H' => DpAll K H' acc ((R.take i).map F)) h (fun D H' _ _ _ => .nil) ?_ ?_
  · intro i x acc D H' hD s hi hl2 hDl hacc
    obtain ⟨d, hd2, hdp⟩ := dpAll_at hx hi
    obtain ⟨e, he, rfl⟩ := map_at hd2
    have hi2 : i < xs.length := (List.getElem?_eq_some_iff.mp hi).1
    refine hs e x D acc H' _ hD s (List.mem_of_getElem? he) (Rd.dp_same s hdp) hDl fun y H3 s3 hy => ?_
    refine Rd.lcE hD (s3 _ _ hDl) (s.trans s3) hl2 (by omega) ?_
    have st : SameT H3 (upd H3 D (.lst (acc ++ [y]))) := .put (s3 _ _ hDl)
    rw [take_map he]
    refine dpAll_app (dpAll_keep (SameT.trans (.of s3) st) ?_ hacc) (dpAll_one (dp_keep st (hn e (List.mem_of_getElem? he)) hy))
    refine nlAll_mem.mpr fun d hd => ?_
    obtain ⟨e', he', rfl⟩ := List.mem_map.mp hd
    exact hn e' (List.mem_of_mem_take he')
  · intro D acc H' hD s hDl hal hacc
    rw [hxl, List.take_length] at hacc
    exact hd D acc H' hD s hDl hacc
/-- [e for target in xs if test]: F none where the test fails -/
theorem lcDF {a : Addr} {xs : List V} {g : TG} {tt : TT} {te : TE} {vs : List Nat} {R : List α} (enc : α → PyData) (F : α → Option PyData) (h : SqL K H a xs) (hx : DpAll K H xs (R.map enc)) (hl : xs.length ≤ 100000) (hn : ∀ e ∈ R, ∀ d, F e = some d → nl d = true)
    (hs : ∀ (e : α) (x : V) (D : Addr) (acc : List V) (H' : Hp) (C : VK) (N : Hp → Prop), H D = none → Same H H' → e ∈ R → Dp K H' x (enc e) → H' D = some (.lst acc) → (∀ y H3 d, Same H' H3 → F e = some d → Dp K H3 y d → C y H3) → (∀ H3, Same H' H3 → F e = none → N H3) →
      g x (wipe σ vs) H' fun σ2 H2 => wipe σ2 vs = wipe σ vs ∧ tt σ2 H2 fun b H3 => if b = true then te σ2 H3 C else N H3)
    (hd : ∀ D acc H', H D = none → Same H H' → H' D = some (.lst acc) → DpAll K H' acc (R.filterMap F) → Q (.ref D) H') :
    ∃ p, V.ref a = .ref p ∧ (∃ ys, SqL K H p ys) ∧ Rd.LcJ g tt te vs σ Q (Itl K p) H := by
  have hxl := Rd.dpAll_len hx
  rw [List.length_map] at hxl
  refine ⟨a, rfl, ⟨_, h⟩, fun D hD => ?_⟩
  refine lc_list (xs := xs) (fun i H' => ∃ acc, Same H H' ∧ acc.length ≤ i ∧ H' D = some (.lst acc) ∧ DpAll K H' acc ((R.take i).filterMap F)) ⟨[], Rd.same_new hD, Nat.le_refl _, upd_same, .nil⟩ (fun i H' _ ⟨_, s, _⟩ => s.seq h) ?_ ?_
  · rintro i x H' hi ⟨acc, s, hal, hDl, hacc⟩
    obtain ⟨d, hd2, hdp⟩ := dpAll_at hx hi
    obtain ⟨e, he, rfl⟩ := map_at hd2
    have hi2 : i < xs.length := (List.getElem?_eq_some_iff.mp hi).1
    have hnA : nlAll ((R.take i).filterMap F) = true := nlAll_mem.mpr fun d hd => by
      obtain ⟨e', he', q⟩ := List.mem_filterMap.mp hd
      exact hn e' (List.mem_of_mem_take he') d q
    refine hs e x D acc H' _ _ hD s (List.mem_of_getElem? he) (Rd.dp_same s hdp) hDl (fun y H3 d s3 hF hy => ?_) (fun H3 s3 hF => ?_)
    · have st : SameT H3 (upd H3 D (.lst (acc ++ [y]))) := .put (s3 _ _ hDl)
      refine ⟨acc, s3 _ _ hDl, Rd.smallT (by omega), acc ++ [y], Rd.same_mut (s.trans s3) hD, by rw [List.length_append]; simp; omega, upd_same, ?_⟩
      rw [List.take_add_one, he, List.filterMap_append]
      refine dpAll_app (dpAll_keep (SameT.trans (.of s3) st) hnA hacc) ?_
      simp only [Option.toList, List.filterMap_cons, hF, List.filterMap_nil]
      exact dpAll_one (dp_keep st (hn e (List.mem_of_getElem? he) d hF) hy)
    · refine ⟨acc, s.trans s3, by omega, s3 _ _ hDl, ?_⟩
      rw [List.take_add_one, he, List.filterMap_append]
      simp only [Option.toList, List.filterMap_cons, hF, List.filterMap_nil, List.append_nil]
      exact dpAll_same s3 hacc
  · rintro H' ⟨acc, s, hal, hDl, hacc⟩
    rw [hxl, List.take_length] at hacc
    exact hd D acc H' hD s hDl hacc
/-- [e for target in xs if test]: F none where the test fails -/
theorem lcDTF {a : Addr} {xs : List V} {g : TG} {tt : TT} {te : TE} {vs : List Nat} {R : List α} (enc : α → PyData) (F : α → Option PyData) (h : SqT K H a xs) (hx : DpAll K H xs (R.map enc)) (hl : xs.length ≤ 100000) (hn : ∀ e ∈ R, ∀ d, F e = some d → nl d = true)
    (hs : ∀ (e : α) (x : V) (D : Addr) (acc : List V) (H' : Hp) (C : VK) (N : Hp → Prop), H D = none → Same H H' → e ∈ R → Dp K H' x (enc e) → H' D = some (.lst acc) → (∀ y H3 d, Same H' H3 → F e = some d → Dp K H3 y d → C y H3) → (∀ H3, Same H' H3 → F e = none → N H3) →
      g x (wipe σ vs) H' fun σ2 H2 => wipe σ2 vs = wipe σ vs ∧ tt σ2 H2 fun b H3 => if b = true then te σ2 H3 C else N H3)
    (hd : ∀ D acc H', H D = none → Same H H' → H' D = some (.lst acc) → DpAll K H' acc (R.filterMap F) → Q (.ref D) H') :
    ∃ p, V.ref a = .ref p ∧ (∃ ys, SqT K H p ys) ∧ Rd.LcJ g tt te vs σ Q (Itt K p) H := by
  have hxl := Rd.dpAll_len hx
  rw [List.length_map] at hxl
  refine ⟨a, rfl, ⟨_, h⟩, fun D hD => ?_⟩
  refine lc_tup (xs := xs) (fun i H' => ∃ acc, Same H H' ∧ acc.length ≤ i ∧ H' D = some (.lst acc) ∧ DpAll K H' acc ((R.take i).filterMap F)) ⟨[], Rd.same_new hD, Nat.le_refl _, upd_same, .nil⟩ (fun i H' _ ⟨_, s, _⟩ => Rd.same_tup s h) ?_ ?_
  · rintro i x H' hi ⟨acc, s, hal, hDl, hacc⟩
    obtain ⟨d, hd2, hdp⟩ := dpAll_at hx hi
    obtain ⟨e, he, rfl⟩ := map_at hd2
    have hi2 : i < xs.length := (List.getElem?_eq_some_iff.mp hi).1
    have hnA : nlAll ((R.take i).filterMap F) = true := nlAll_mem.mpr fun d hd => by
      obtain ⟨e', he', q⟩ := List.mem_filterMap.mp hd
      exact hn e' (List.mem_of_mem_take he') d q
    refine hs e x D acc H' _ _ hD s (List.mem_of_getElem? he) (Rd.dp_same s hdp) hDl (fun y H3 d s3 hF hy => ?_) (fun H3 s3 hF => ?_)
    · have st : SameT H3 (upd H3 D (.lst (acc ++ [y]))) := .put (s3 _ _ hDl)
      refine ⟨acc, s3 _ _ hDl, Rd.smallT (by omega), acc ++ [y], Rd.same_mut (s.trans s3) hD, by rw [List.length_append]; simp; omega, upd_same, ?_⟩
      rw [List.take_add_one, he, List.filterMap_append]
      refine dpAll_app (dpAll_keep (SameT.trans (.of s3) st) hnA hacc) ?_
      simp only [Option.toList, List.filterMap_cons, hF, List.filterMap_nil]
      exact dpAll_one (dp_keep st (hn e (List.mem_of_getElem? he) d hF) hy)
    · refine ⟨acc, s.trans s3, by omega, s3 _ _ hDl, ?_⟩
      rw [List.take_add_one, he, List.filterMap_append]
      simp only [Option.toList, List.filterMap_cons, hF, List.filterMap_nil, List.append_nil]
      exact dpAll_same s3 hacc
  · rintro H' ⟨acc, s, hal, hDl, hacc⟩
    rw [hxl, List.take_length] at hacc
    exact hd D acc H' hD s hDl hacc
theorem lcDTJ {a : Addr} {xs : List V} {g : TG} {te : TE} {vs : List Nat} {R : List α} (enc : α → PyData) (F : α → PyData) (h : SqT K H a xs) (hx : DpAll K H xs (R.map enc)) (hl : xs.length ≤ 100000) (hn : ∀ e ∈ R, nl (F e) = true)
    (hs : ∀ (e : α) (x : V) (D : Addr) (acc : List V) (H' : Hp) (C : VK), H D = none → Same H H' → e ∈ R → Dp K H' x (enc e) → H' D = some (.lst acc) → (∀ y H3, Same H' H3 → Dp K H3 y (F e) → C y H3) →
      g x (wipe σ vs) H' fun σ2 H2 => wipe σ2 vs = wipe σ vs ∧ te σ2 H2 C)
    (hd : ∀ D acc H', H D = none → Same H H' → H' D = some (.lst acc) → DpAll K H' acc (R.map F) → Q (.ref D) H') : Rd.LcJ g tYes te vs σ Q (Itt K a) H := by
  obtain ⟨p, e, _, hL⟩ := lcDT (σ := σ) (Q := Q) (g := g) (te := te) (vs := vs) enc F h hx hl hn hs hd
  cases e
  exact hL
theorem pair_of {z : Addr} {x y : V} {i j : Nat} {Qd : L2.St → Hp → Prop} (h : SqT K H z [x, y]) (k : Qd ((σ.set i (some x)).set j (some y)) H) : gTup K 2 (gCons (gName i) (gCons (gName j) gNil)) (.ref z) σ H Qd :=
  ⟨z, _, rfl, h, rfl, x, [y], rfl, y, [], rfl, rfl, k⟩
theorem lcDI {a : Addr} {xs : List V} {g : TG} {te : TE} {vs : List Nat} {R : List α} (enc : α → PyData) (F : α → Int) (h : SqL K H a xs) (hx : DpAll K H xs (R.map enc)) (hl : xs.length ≤ 100000)
    (hs : ∀ (e : α) (x : V) (D : Addr) (acc : List V) (H' : Hp) (C : VK), H D = none → Same H H' → e ∈ R → Dp K H' x (enc e) → H' D = some (.lst acc) → (∀ H3, Same H' H3 → C (.int (F e)) H3) →
      g x (wipe σ vs) H' fun σ2 H2 => wipe σ2 vs = wipe σ vs ∧ te σ2 H2 C)
    (hd : ∀ D H', H D = none → Same H H' → H' D = some (.lst ((R.map F).map V.int)) → Q (.ref D) H') :
    ∃ p, V.ref a = .ref p ∧ (∃ ys, SqL K H p ys) ∧ Rd.LcJ g tYes te vs σ Q (Itl K p) H := by
  refine lcD enc (fun e => .int (F e)) h hx hl (fun _ _ => rfl) (fun e x D acc H' C hD s he hx hDl hC => hs e x D acc H' C hD s he hx hDl fun H3 s3 => hC _ _ s3 (.int _)) ?_
  intro D acc H' hD s hDl hacc
  have e : R.map (fun e => PyData.int (F e)) = (R.map F).map PyData.int := by rw [List.map_map]; rfl
  rw [e] at hacc
  rw [dpAll_ints hacc] at hDl
  exact hd D H' hD s hDl
theorem lcDFI {a : Addr} {xs : List V} {g : TG} {tt : TT} {te : TE} {vs : List Nat} {R : List α} (enc : α → PyData) (F : α → Option Int) (h : SqL K H a xs) (hx : DpAll K H xs (R.map enc)) (hl : xs.length ≤ 100000)
    (hs : ∀ (e : α) (x : V) (D : Addr) (acc : List V) (H' : Hp) (C : VK) (N : Hp → Prop), H D = none → Same H H' → e ∈ R → Dp K H' x (enc e) → H' D = some (.lst acc) → (∀ H3 d, Same H' H3 → F e = some d → C (.int d) H3) → (∀ H3, Same H' H3 → F e = none → N H3) →
      g x (wipe σ vs) H' fun σ2 H2 => wipe σ2 vs = wipe σ vs ∧ tt σ2 H2 fun b H3 => if b = true then te σ2 H3 C else N H3)
    (hd : ∀ D H', H D = none → Same H H' → H' D = some (.lst ((R.filterMap F).map V.int)) → Q (.ref D) H') :
    ∃ p, V.ref a = .ref p ∧ (∃ ys, SqL K H p ys) ∧ Rd.LcJ g tt te vs σ Q (Itl K p) H := by
  refine lcDF enc (fun e => (F e).map PyData.int) h hx hl (fun e _ d q => by cases hF : F e with | none => rw [hF] at q; cases q | some i => rw [hF] at q; cases q; rfl) (fun e x D acc H' C N hD s he hx hDl hC hN => hs e x D acc H' C N hD s he hx hDl (fun H3 d s3 q => hC _ _ (.int d) s3 (by rw [q]; rfl) (.int _)) (fun H3 s3 q => hN H3 s3 (by rw [q]; rfl))) ?_
  intro D acc H' hD s hDl hacc
  have e : R.filterMap (fun e => (F e).map PyData.int) = (R.filterMap F).map PyData.int := by rw [List.map_filterMap]
  rw [e] at hacc
  rw [dpAll_ints hacc] at hDl
  exact hd D H' hD s hDl
end
end Dj
namespace Rb
open PySem PySem.Spec PyProof.Rows L2
theorem call_lenK {X : Cx} {K : PySem.W.Frag} (h : X.K = K) : CallR X (.builtin "len") (fun xs H Q => ∃ p ys, xs = [V.ref p] ∧ (SqL K H p ys ∨ SqT K H p ys) ∧ Q (.int ys.length) H) := by
  subst h; exact call_len_seq
end Rb

set_option Elab.async false
set_option linter.all false
set_option maxRecDepth 100000
set_option maxHeartbeats 4000000
/-! Dicts whose keys are tuples, tracked ones or constants of the module: the dict's own entries stand in dX, its keys are told by SqT. -/
namespace Es
open PySem PySem.Spec PyProof.Rows L2 Bd
/-- tuples stay when something else is written -/
theorem sqT_upd {K : PySem.W.Frag} {H : Hp} {a p : Addr} {xs : List V} {o o' : HO} (hp : H p = some o) (h1 : ∀ ys, o ≠ .tup ys) (h2 : ∀ z u, o ≠ .frz z u) (h : SqT K H a xs) : SqT K (upd H p o') a xs := by
  rcases h with (h | ⟨z, h⟩) | h
  · exact .inl (.inl ((upd_ne fun e => by rw [e, hp] at h; exact h1 _ (Option.some.inj h)).trans h))
  · exact .inl (.inr ⟨z, (upd_ne fun e => by rw [e, hp] at h; exact h2 _ _ (Option.some.inj h)).trans h⟩)
  · exact .inr h
/-- keys (where their tuples stand) and values -/
abbrev KTS (K : PySem.W.Frag) (H : Hp) : List (List Key × V) → List (List Key × Addr × Value) → Prop := Paired fun p q => p.1 = q.1 ∧ SqT K H q.2.1 (p.1.map kV) ∧ RelV p.2 q.2.2
theorem KTS.val {K : PySem.W.Frag} {H : Hp} {kvs : List (List Key × V)} {xs : List (List Key × Addr × Value)} (r : KTS K H kvs xs) (k : List Key) : RelO (valV kvs k) ((atKey xs k).map (·.2)) := by
  induction r with
  | nil => exact True.intro
  | @cons p q ps qs h t ih =>
    obtain ⟨z1, _, z2⟩ := h
    by_cases e : p.1 = k
    · rw [valV_pos e, show atKey (q :: qs) k = some q.2 by simp [atKey, List.find?_cons, z1.symm.trans e]]; exact z2
    · rw [valV_neg e, show atKey (q :: qs) k = atKey qs k by simp [atKey, List.find?_cons, show ¬ q.1 = k from fun y => e (z1.trans y)]]; exact ih
theorem KTS.repl {K : PySem.W.Frag} {H : Hp} {kvs : List (List Key × V)} {xs : List (List Key × Addr × Value)} (r : KTS K H kvs xs) (k : List Key) {y : V} {u : Value} (ry : RelV y u) : KTS K H (kvs.map fun kv => if kv.1 = k then (kv.1, y) else kv) (xs.map (putAt k u)) := by
  induction r with
  | nil => exact .nil
  | @cons p q ps qs h t ih =>
    rw [List.map_cons, List.map_cons]
    refine .cons ?_ ih
    unfold putAt
    by_cases e : p.1 = k
    · rw [if_pos e, if_pos (h.1.symm.trans e)]; exact ⟨h.1, h.2.1, ry⟩
    · rw [if_neg e, if_neg fun z => e (h.1.trans z)]; exact h
theorem KTS.put {K : PySem.W.Frag} {H : Hp} {kvs : List (List Key × V)} {xs : List (List Key × Addr × Value)} (r : KTS K H kvs xs) (k : List Key) {b : Addr} {y : V} {u : Value} (hb : SqT K H b (k.map kV)) (ry : RelV y u) : KTS K H (putK kvs k y) (storedH xs k b u) := by
  unfold putK storedH
  rw [show (kvs.any fun kv => decide (kv.1 = k)) = (atKey xs k).isSome by rw [valV_any, (r.val k).isSome_eq, Option.isSome_map]]
  by_cases q : (atKey xs k).isSome = true
  · rw [if_pos q, if_pos q]; exact r.repl k ry
  · rw [if_neg q, if_neg q]; exact Paired.snoc r ⟨rfl, hb, ry⟩
theorem KTS.keeps {K : PySem.W.Frag} {H H' : Hp} {kvs : List (List Key × V)} {xs : List (List Key × Addr × Value)} (r : KTS K H kvs xs) (ht : ∀ b ys, SqT K H b ys → SqT K H' b ys) : KTS K H' kvs xs := Paired.mapP r fun _ _ z => ⟨z.1, ht _ _ z.2.1, z.2.2⟩
theorem KTS.drop {K : PySem.W.Frag} {H : Hp} (k : List L2.Key) : ∀ {kvs : List (List L2.Key × V)} {xs : List (List L2.Key × Addr × Value)}, KTS K H kvs xs → KTS K H (L2.dropK kvs k) (DT.dropH xs k)
  | _, _, Paired.nil => Paired.nil
  | _, _, Paired.cons (a := p) (b := q) (l₁ := kvs) (l₂ := xs) h t => by
    have ih := KTS.drop k t
    by_cases e : p.1 = k
    · rw [show L2.dropK (p :: kvs) k = L2.dropK kvs k from List.filter_cons_of_neg (by simp [e]), show DT.dropH (q :: xs) k = DT.dropH xs k from List.filter_cons_of_neg (by simp [h.1.symm.trans e])]
      exact ih
    · rw [show L2.dropK (p :: kvs) k = p :: L2.dropK kvs k from List.filter_cons_of_pos (by simp [e]), show DT.dropH (q :: xs) k = q :: DT.dropH xs k from List.filter_cons_of_pos (by simp [show ¬ q.1 = k from fun z => e (h.1.trans z)])]
      exact Paired.cons h ih
def AsS (K : PySem.W.Frag) (H : Hp) (ps : List (Addr × (Str × Int))) : Prop := ∀ z ∈ ps, SqT K H z.1 [.str z.2.1, .int z.2.2]
theorem kts_as {K : PySem.W.Frag} {H : Hp} : ∀ {m : List ((Str × Int) × V)} {ks : List (List Key × Addr × Value)}, KTS K H (m.map fun e => (eK e.1, e.2)) ks → ∃ ps : List (Addr × (Str × Int)), AsS K H ps ∧ ps.map (·.2) = m.map (·.1) ∧ ps.map (·.1) = ks.map fun x => x.2.1
  | [], _, Paired.nil => ⟨[], fun _ h => absurd h List.not_mem_nil, rfl, rfl⟩
  | e :: m, _, Paired.cons (b := x) h t => by
    obtain ⟨ps, h1, h2, h3⟩ := kts_as (m := m) t
    refine ⟨(x.2.1, e.1) :: ps, fun z hz => ?_, by rw [List.map_cons, List.map_cons, h2], by rw [List.map_cons, List.map_cons, h3]⟩
    rcases List.mem_cons.mp hz with rfl | hz
    · exact h.2.1
    · exact h1 z hz
/-- the dict at a, its keys where xs says -/
def dX (P : Program) (w : World) (a : Addr) (xs : List (List Key × Addr × Value)) : HO := .ext fun h => (a == sysModules) = false ∧ ∃ o es ep, h.get? a = some o ∧ o.ExactDict ∧ o.data = .dict es ep ∧ es.toList = xs.map (entryOfKey (tupleKind (mixKind P w))) ∧ (xs.map (·.1)).Nodup
theorem dX_ok {P : Program} {w : World} {H : Hp} {h : Heap} {a : Addr} {xs : List (List Key × Addr × Value)} (z : (a == sysModules) = false)
    (d : ∃ o es ep, h.get? a = some o ∧ o.ExactDict ∧ o.data = .dict es ep ∧ es.toList = xs.map (entryOfKey (tupleKind (mixKind P w))) ∧ (xs.map (·.1)).Nodup) : ObjOk P w H h a (dX P w a xs) := by
  obtain ⟨o, es, ep, e1, e2⟩ := d
  exact ⟨⟨z, o, es, ep, e1, e2⟩, ⟨o, e1⟩, fun g g' ⟨y, o', es', ep', f1, f2⟩ k => ⟨y, o', es', ep', k _ f1, f2⟩⟩
/-- at a stands a dict with the keys and values kvs -/
def DS (P : Program) (w : World) (K : PySem.W.Frag) (H : Hp) (a : Addr) (kvs : List (List Key × V)) : Prop := kvs.length ≤ sizeLine ∧ ∃ xs, H a = some (dX P w a xs) ∧ KTS K H kvs xs
theorem dX_mut {P : Program} {w : World} {a : Addr} {xs : List (List Key × Addr × Value)} : Mut (some (dX P w a xs)) := True.intro
theorem dX_tup {P : Program} {w : World} {a : Addr} {xs : List (List Key × Addr × Value)} {ys : List V} : HO.tup ys ≠ dX P w a xs := fun z => by
  have z' : HO.tup ys = HO.ext _ := z
  cases z'
section
variable {X : Cx} {pins : List (Addr × Obj)} {σ : L2.St} {H : Hp} {s : Shared} {a b : Addr} {k : List Key} {kvs : List (List Key × V)} {y v : V} {u r : Value} {A : Around} {E : Value → Shared → Prop}
theorem keyC (I : Inv X pins σ H s) (e : SqT X.K H b (k.map kV)) : (tupleKind (mixKind X.prog X.w)).is s.heap k b := by
  obtain ⟨its, rel, ⟨o, h1, h2, n, h3⟩, _⟩ := I.tuple e
  exact ⟨o, its.toArray, n, h1, h2, h3, by simpa using items_are rel⟩
theorem dx_at (I : Inv X pins σ H s) (d : DS X.prog X.w X.K H a kvs) : (a == sysModules) = false ∧ ∃ xs, H a = some (dX X.prog X.w a xs) ∧ KTS X.K H kvs xs ∧ s.heap.DictOfH (tupleKind (mixKind X.prog X.w)) a xs := by
  obtain ⟨_, xs, e, rel⟩ := d
  have q : ObjOk X.prog X.w H s.heap a (.ext fun h => (a == sysModules) = false ∧ ∃ o es ep, h.get? a = some o ∧ o.ExactDict ∧ o.data = .dict es ep ∧ es.toList = xs.map (entryOfKey (tupleKind (mixKind X.prog X.w))) ∧ (xs.map (·.1)).Nodup) := I.hok a _ e
  obtain ⟨⟨z, o, es, ep, f1, f2, f3, f4, f5⟩, _⟩ := q
  refine ⟨z, xs, e, rel, o, es, ep, f1, f2, f3, f4, fun x hx => ?_, f5⟩
  have all : ∀ (l : List (List Key × V)) (m : List (List Key × Addr × Value)), KTS X.K H l m → ∀ x ∈ m, (tupleKind (mixKind X.prog X.w)).is s.heap x.1 x.2.1 := by
    intro l m p
    induction p with
    | nil => exact fun x h => absurd h List.not_mem_nil
    | cons t _ ih =>
      intro x hx
      cases List.mem_cons.mp hx with
      | inl e' => rw [e', ← t.1]; exact keyC I t.2.1
      | inr e' => exact ih x e'
  exact all _ _ rel x hx
/-- what the dict holds at the key y -/
def GX (P : Program) (w : World) (K : PySem.W.Frag) (H : Hp) (a : Addr) (y : V) (o : Option V) : Prop := ∃ kvs k b, DS P w K H a kvs ∧ y = .ref b ∧ SqT K H b (k.map kV) ∧ o = valV kvs k
theorem dx_get {Q : Value → Shared → Prop} (hu : A.units + 1 < cLine) (I : Inv X pins σ H s) (g : GX X.prog X.w X.K H a y (some v)) (ry : RelV y u) (h : ∀ w' s', Inv X pins σ H s' → RelV v w' → Q w' s') :
    wpAny (model X.prog X.w) A (getItem (.ref a) u) Q E s := by
  obtain ⟨kvs, k, b, d, rfl, eb, l⟩ := g
  cases (show u = Value.ref b from ry)
  obtain ⟨_, xs, _, rel, dd⟩ := dx_at I d
  have q := rel.val k
  rw [← l] at q
  obtain ⟨w', hw, rw'⟩ := RelO.some_of q
  obtain ⟨p, hp, hp2⟩ := Option.map_eq_some_iff.mp hw
  exact wpAny_getItem_heap (tupleKind_room_in1 hu) (keyC I eb) dd hp (by rw [hp2]; exact h w' _ (I.tok _) rw')
theorem dx_get2 {o : Option V} {d0 : V} {Q : Value → Shared → Prop} (hu : A.units + 1 < cLine) (I : Inv X pins σ H s) (g : GX X.prog X.w X.K H a y o) (ry : RelV y u) (rd : RelV d0 r) (h : ∀ w' s', Inv X pins σ H s' → RelV (o.getD d0) w' → Q w' s') :
    wpAny (model X.prog X.w) A (call (.builtin "dict.get") [.ref a, u, r]) Q E s := by
  obtain ⟨kvs, k, b, d, rfl, eb, rfl⟩ := g
  cases (show u = Value.ref b from ry)
  obtain ⟨hd, xs, _, rel, dd⟩ := dx_at I d
  exact call_meetsIn PySem.F.slot_dict_get dd.typeIs PySem.F.entry_dict_get (PySem.F.args_dict_get_3 _ _ _) (meetsH_dict_get_default (tupleKind (mixKind X.prog X.w)) a b hd r) ⟨tupleKind_room_in1 hu, k, xs, keyC I eb, dd, h _ _ (I.tok _) ((rel.val k).getD rd)⟩
theorem dx_in {o : Option V} {Q : Value → Shared → Prop} (hu : A.units + 1 < cLine) (I : Inv X pins σ H s) (g : GX X.prog X.w X.K H a y o) (ry : RelV y u) (h : ∀ s', Inv X pins σ H s' → Q (.bool o.isSome) s') :
    wpAny (model X.prog X.w) A (compareOp .In u (.ref a)) Q E s := by
  obtain ⟨kvs, k, b, d, rfl, eb, rfl⟩ := g
  cases (show u = Value.ref b from ry)
  obtain ⟨hd, xs, _, rel, dd⟩ := dx_at I d
  refine wpAny_in_heap (tupleKind_room_in1 hu) (keyC I eb) hd dd ?_
  have q := (rel.val k).isSome_eq
  rw [Option.isSome_map] at q
  rw [← q]
  exact h _ (I.tok _)
/-- the dict with one more value, in the heap that has it -/
theorem dx_put {xs : List (List Key × Addr × Value)} {h' : Heap} {t' : Nat} (I : Inv X pins σ H s) (e : H a = some (dX X.prog X.w a xs)) (rel : KTS X.K H kvs xs) (hz : kvs.length < sizeLine) (hd : (a == sysModules) = false)
    (eb : SqT X.K H b (k.map kV)) (rv : RelV v r) (dd' : h'.DictOfH (tupleKind (mixKind X.prog X.w)) a (storedH xs k b r)) (hs : Heap.SameBut a s.heap h') :
    Inv X pins σ (upd H a (dX X.prog X.w a (storedH xs k b r))) { s with heap := h', toks := t' } ∧ DS X.prog X.w X.K (upd H a (dX X.prog X.w a (storedH xs k b r))) a (putK kvs k v) := by
  obtain ⟨o, es, ep, f1, f2, f3, f4, _, f5⟩ := dd'
  refine ⟨d_write I (by rw [e]; exact dX_mut) hs ⟨o, f1⟩ (dX_ok hd ⟨o, es, ep, f1, f2, f3, f4, f5⟩), ?_, _, upd_same, (rel.put k eb rv).keeps fun q ys eq => ?_⟩
  · have := length_putK kvs k v; omega
  · exact sqT_upd (o := dX X.prog X.w a xs) e (fun ys q => by cases q) (fun o u q => by cases q) eq
theorem dx_set {Q : Unit → Shared → Prop} (hu : A.units + 1 < cLine) (I : Inv X pins σ H s) (d : DS X.prog X.w X.K H a kvs) (hz : kvs.length < sizeLine) (eb : SqT X.K H b (k.map kV)) (ry : RelV (.ref b) u) (rv : RelV v r)
    (h : ∀ s' ys, Inv X pins σ (upd H a (dX X.prog X.w a ys)) s' → DS X.prog X.w X.K (upd H a (dX X.prog X.w a ys)) a (putK kvs k v) → Q () s') : wpAny (model X.prog X.w) A (setItem (.ref a) u r) Q E s := by
  cases (show u = Value.ref b from ry)
  obtain ⟨hd, xs, e, rel, dd⟩ := dx_at I d
  have hl : xs.length ≤ sizeLine := by rw [← Paired.length rel]; omega
  exact wpAny_setItem_heap (hsz := hl) (tupleKind_room_in1 hu) (keyC I eb) dd fun h' dd' hs => by
    obtain ⟨J, d'⟩ := dx_put (t' := s.toks + (tupleKind (mixKind X.prog X.w)).draws k) I e rel hz hd eb rv dd' hs
    exact h _ _ J d'
theorem isSI_C {p : Str × Int} (I : Inv X pins σ H s) (e : SqT X.K H b [.str p.1, .int p.2]) : IsSI s.heap (.ref b) p := by
  obtain ⟨its, rel, ⟨o, h1, h2, n, h3⟩, _⟩ := I.tuple e
  cases rel with
  | cons ra rest =>
    cases rest with
    | cons rb rest =>
      cases rest
      obtain ⟨t1, e1⟩ := (show ∃ t, _ = Value.str p.1 t from ra)
      obtain ⟨t2, e2⟩ := (show ∃ t, _ = Value.int p.2 t from rb)
      subst e1 e2
      exact ⟨b, o, t1, t2, n, rfl, h1, h2, h3⟩
end
section
variable {X : Cx}
def rSortedX (P : Program) (w : World) (K : PySem.W.Frag) : List V → Hp → VK → Prop := fun xs H Q => ∃ (a : Addr) (m : List ((Str × Int) × V)), xs = [.ref a] ∧ DS P w K H a (m.map fun e => (eK e.1, e.2)) ∧
  ∀ (ps : List (Addr × (Str × Int))) (p : Addr), AsS K H ps → SrtO.Srtd ltSI (ps.map (·.2)) → (ps.map (·.2)).Perm (m.map (·.1)) → H p = none → Q (.ref p) (upd H p (.lst (ps.map fun z => V.ref z.1)))
theorem cr_sortedX (hcalm : X.calm = true) : CallR X (.builtin "sorted") (rSortedX X.prog X.w X.K) := by
  intro pins s σ H xs us Q I r q
  obtain ⟨a, m, rfl, hd, q⟩ := q
  obtain ⟨u, rfl, rx⟩ := vals1 r
  cases rx
  have z := hd.1
  obtain ⟨hs, ks, _, pr, o, es, ep, ho, hx, hdt, he, _, hn⟩ := dx_at I hd
  have l1 : es.size = ks.length := size_of_entries he
  have l2 : (m.map fun e => (eK e.1, e.2)).length = ks.length := Paired.length pr
  have l3 : m.length = ks.length := by simpa using l2
  refine Calls.call_function_entry PyProof.Rows.kind_sorted PyProof.Rows.plain_sorted PyProof.Rows.entry_sorted (PyProof.Rows.args_sorted1 _) ?_
  unfold Builtin.«sorted»
  refine wpAny_bind (m := checkCount "sorted" 1 1 _) (wpAny_pure ?_)
  refine wpAny_bind (PySem.W.kdu_collect (A := X.A.in1) (kdl_raw hs hx hdt) (I.ok.hd hcalm) ho (by omega) fun h' tk acc hk it => ?_)
  have ea : acc.toList = (ks.map fun x => x.2.1).map Value.ref := by
    have hl : acc.toList.length = ks.length := by rw [Array.length_toList, it.1]; exact l1
    apply List.ext_getElem?
    intro j
    rw [List.map_map, List.getElem?_map]
    cases hj : acc.toList[j]? with
    | none =>
      have h1 := List.getElem?_eq_none_iff.mp hj
      rw [List.getElem?_eq_none (by omega)]
      rfl
    | some v =>
      obtain ⟨en, hen, hv⟩ := it.2 j v (by rw [← Array.getElem?_toList]; exact hj)
      have qe := entry_at he j
      rw [hen] at qe
      cases hb : ks[j]? with
      | none =>
        rw [hb] at qe
        exact nomatch (show some en = none from qe)
      | some b =>
        rw [hb] at qe
        have e2 : en = entryOfKey (tupleKind (mixKind X.prog X.w)) b := Option.some.inj qe
        rw [hv, e2]
        rfl
  have I1 : Inv X pins σ H { s with heap := h', toks := tk } := I.kept hk
  obtain ⟨ps0, a1, a2, a3⟩ := kts_as pr
  have eb : acc.toList = ps0.map fun z => Value.ref z.1 := by rw [ea, ← a3, List.map_map]; rfl
  have hal : acc.toList.length ≤ sizeLine := by
    rw [Array.length_toList, it.1]; omega
  refine wpAny_bind (wpAny_newList ?_ hal)
  have hoL : (h'.push (seqObj "list" acc.toList.toArray 0)).get? h'.objs.size = some (seqObj "list" acc.toList.toArray 0) := Heap.get?_push_size _ rfl
  have hsi : ∀ v ∈ acc.toList, IsSI (h'.push (seqObj "list" acc.toList.toArray 0)) v (siOf s.heap v) := fun v hv => by
    rw [eb] at hv
    obtain ⟨zz, hz, rfl⟩ := List.mem_map.mp hv
    have q := isSI_C I (a1 zz hz)
    rw [q.of]
    exact (isSI_C I1 (a1 zz hz)).keeps fun b ob e _ => Heap.get?_push_of_some _ e
  show wpAny _ _ _ _ _ { s with heap := h'.push (seqObj "list" acc.toList.toArray 0), toks := tk }
  refine wpAny_bind (wpAny_holding (wpAny_call_entry PyProof.Rows.slot_list_sort ⟨_, hoL, rfl⟩ PyProof.Rows.entry_list_sort
    (SrtO.list_sort_ord (ltv := fun v u => ltSI (siOf s.heap v) (siOf s.heap u)) (s := { s with heap := h'.push (seqObj "list" acc.toList.toArray 0), toks := tk }) (swo_SI (siOf s.heap)) hoL hal (fun h2 => si_sortable (by omega) hsi fun ob e => by
      have e' := e.symm.trans hoL
      cases e'
      intro c
      exact absurd (Value.type.inj c) (by decide)) fun out h1 h2 => ⟨_, rfl, ?_⟩)
    (PyProof.Rows.args_list_sort _)))
  obtain ⟨ps, b1, b2⟩ := perm_lift (fun z : Addr × (Str × Int) => Value.ref z.1) h2.perm ps0 eb.symm
  have hAs : AsS X.K H ps := fun z hz => a1 z (b1.mem_iff.mp hz)
  have hk2 : ∀ z ∈ ps, siOf s.heap (Value.ref z.1) = z.2 := fun z hz => (isSI_C I (hAs z hz)).of
  have hsr : SrtO.Srtd ltSI (ps.map (·.2)) := by
    rw [← b2] at h1
    have h1' := List.pairwise_map.mp h1
    refine List.pairwise_map.mpr (h1'.imp_of_mem fun {x y} hx hy hh => ?_)
    have hh' : ltSI (siOf s.heap (Value.ref y.1)) (siOf s.heap (Value.ref x.1)) = false := hh
    rw [hk2 x hx, hk2 y hy] at hh'
    exact hh'
  obtain ⟨e', he'⟩ := PyProof.Rows.sortedHeap_at (vs := acc.toList) (out := out.toArray) hoL
  have hlen : (ps.map fun z => V.ref z.1).length ≤ sizeLine := by
    rw [List.length_map, b1.length_eq]
    have : ps0.length = acc.toList.length := by rw [eb, List.length_map]
    omega
  refine wpAny_pure ⟨_, rfl, .ref h'.objs.size, upd H h'.objs.size (.lst (ps.map fun z => V.ref z.1)), I1.laid (t' := tk) (fun b u e => ?_) (Nat.le_refl _)
    (show ObjOk X.prog X.w _ _ _ (.lst _) from ⟨hlen, out, e', ?_, he'⟩), rfl, q ps _ hAs hsr ((b1.map _).trans (by rw [a2])) (I1.hok.fresh (Nat.le_refl _))⟩
  · have hb : b < h'.objs.size := Heap.lt_size e
    rw [PyProof.Rows.sortedHeap_old (Nat.ne_of_lt hb) (by rw [size_push']; exact Nat.lt_succ_of_lt hb)]
    exact Heap.get?_push_of_some _ e
  · rw [← b2]
    have := vals_refs (ps.map (·.1))
    rw [List.map_map, List.map_map] at this
    exact this
end
end Es
namespace Es
open PySem PySem.Spec PyProof.Rows L2 L2.DX Bd
section
variable {X : Cx}
/-- tuple(d.items()): a row of pairs (asset, value) -/
def rTupX (P : Program) (w : World) (K : PySem.W.Frag) : List V → Hp → VK → Prop := fun vs H Q => ∃ (p a : Addr) (m : List ((Str × Int) × V)), vs = [.ref p] ∧ H p = some (itemsO p a) ∧ DS P w K H a (m.map fun e => (eK e.1, e.2)) ∧
  ∀ (H' : Hp) (q : Addr) (zs : List (Addr × ((Str × Int) × V))), (∀ b o, H b = some o → H' b = some o) → H q = none → zs.map (·.2) = m → H' q = some (.tup (zs.map fun z => V.ref z.1)) →
    (∀ z ∈ zs, ∃ kq, H' z.1 = some (.tup [.ref kq, z.2.2]) ∧ SqT K H' kq [.str z.2.1.1, .int z.2.1.2]) → Q (.ref q) H'
theorem cr_tupX (hc : X.calm = true) : CallR X (.type "tuple") (rTupX X.prog X.w X.K) := by
  intro pins s σ H xs us Q I r h
  obtain ⟨p, a, m, rfl, hp, ha, q⟩ := h
  obtain ⟨u, rfl, ru⟩ := vals1 r
  obtain rfl : u = Value.ref p := ru
  have view : s.heap.IsItemsView p a := (show ObjOk X.prog X.w H s.heap p (itemsO p a) from I.hok p _ hp).1
  have z := ha.1
  obtain ⟨hd, xs', _, rel, o, es, ep, ho, hx, hdat, hes, his, hn⟩ := dx_at I ha
  have l1 : (m.map fun e => (eK e.1, e.2)).length = xs'.length := Paired.length rel
  rw [List.length_map] at l1 z
  have l2 : es.size = xs'.length := size_of_entries hes
  refine call_tuple_items (es := es) (ep := ep) (I.ok.hd hc) view ⟨o, ho, hx, hdat⟩ (by omega) fun h' tk as hk hlt hl hG => ?_
  have lam : as.length = m.length := by omega
  have nd : as.Nodup := List.Pairwise.imp (fun h => Nat.ne_of_lt h) hG.rise
  have hN : s.heap.objs.size < h'.objs.size := hlt
  generalize hh : h'.push { cls := .type "tuple", data := .seq (as.map Value.ref).toArray } = h2
  have ka : ∀ b o, h'.get? b = some o → h2.get? b = some o := fun b o e => by rw [← hh]; exact Heap.get?_push_of_some _ e
  have hob : h2.get? h'.objs.size = some { cls := .type "tuple", data := .seq (as.map Value.ref).toArray } := by rw [← hh]; exact Heap.get?_push_size _ rfl
  have I1 : Inv X pins σ H { s with heap := h2, toks := tk } := I.kept (t' := tk) fun b o e => ka _ _ (hk b o e)
  have hn0 : H h'.objs.size = none := I.hok.fresh (Nat.le_of_lt hN)
  have I2 : Inv X pins σ (upd H h'.objs.size (.tup (as.map V.ref))) { s with heap := h2, toks := tk } :=
    I1.take (h' := h2) (t' := tk) (fun b ob _ e => e) (I.fpOk (Nat.le_of_lt hN) hn0) ⟨by rw [List.length_map]; omega, as.map Value.ref, vals_refs as, ⟨_, hob, rfl, 0, rfl⟩⟩
  obtain ⟨H2, I3, g, qt⟩ := takeT (P := fun b vs => ∃ (j : Nat) (e : (Str × Int) × V) (kq : Addr), as[j]? = some b ∧ m[j]? = some e ∧ vs = [.ref kq, e.2] ∧ SqT X.K H kq [.str e.1.1, .int e.1.2]) I as _ I2 nd fun b hb => by
    obtain ⟨j, hj⟩ := List.mem_iff_getElem?.mp hb
    obtain ⟨en, he, hg⟩ := hG.pairs j b hj
    rw [entry_at hes j] at he
    cases hxj : xs'[j]? with
    | none =>
      rw [hxj] at he
      exact nomatch (show (none : Option DictEntry) = some en from he)
    | some x =>
      rw [hxj] at he
      have een : entryOfKey (tupleKind (mixKind X.prog X.w)) x = en := Option.some.inj he
      obtain ⟨e0, he0, r1, r2, r3⟩ := pget rel hxj
      rw [List.getElem?_map] at he0
      cases hkj : m[j]? with
      | none =>
        rw [hkj] at he0
        exact nomatch (show (none : Option (List L2.Key × V)) = some e0 from he0)
      | some e =>
        rw [hkj] at he0
        have ee : (eK e.1, e.2) = e0 := Option.some.inj he0
        rw [← ee] at r2 r3
        have hbl : s.heap.objs.size ≤ b := Nat.le_of_lt (hG.above b hb)
        have hbn : b ≠ h'.objs.size := Nat.ne_of_lt (Heap.lt_size hg)
        refine ⟨hbl, by rw [upd_ne hbn]; exact I.hok.fresh hbl, [.ref x.2.1, e.2], ⟨j, e, x.2.1, hj, hkj, rfl, r2⟩, fun H3 => ⟨by rw [sizeLine_eq]; show 2 ≤ 16777216; omega, [Value.ref x.2.1, x.2.2], .cons rfl (.cons r3 .nil), ⟨_, ka _ _ hg, rfl, 0, ?_⟩⟩⟩
        rw [← een]
        rfl
  have gr : ∀ b o, H b = some o → H2 b = some o := fun b o e => g b o (by rw [upd_ne (ne_of_none e hn0)]; exact e)
  refine ⟨.ref h'.objs.size, H2, I3, rfl, q H2 h'.objs.size (as.zip m) gr hn0 (List.map_snd_zip (by omega)) ?_ fun z' hz' => ?_⟩
  · have e1 : ((as.zip m).map fun z => V.ref z.1) = as.map V.ref := by
      have := List.map_fst_zip (l₁ := as) (l₂ := m) (by omega)
      conv => rhs; rw [← this]
      rw [List.map_map]; rfl
    rw [e1]
    exact g _ _ upd_same
  · obtain ⟨i, hi⟩ := List.mem_iff_getElem?.mp hz'
    obtain ⟨i1, i2⟩ := List.getElem?_zip_eq_some.mp hi
    obtain ⟨vs, ⟨j, e, kq, j1, j2, ev, hkq⟩, hH⟩ := qt z'.1 (List.mem_of_getElem? i1)
    have eij : i = j := (List.getElem?_inj (List.getElem?_eq_some_iff.mp i1).1 nd).mp (i1.trans j1.symm)
    subst eij
    have ee : e = z'.2 := Option.some.inj (j2.symm.trans i2)
    rw [ev, ee] at hH
    rw [ee] at hkq
    exact ⟨kq, hH, Rd.same_tup gr hkq⟩
end
end Es
namespace Es
open PySem PySem.Spec PyProof.Rows L2 Bd
section
variable {X : Cx} {pins : List (Addr × Obj)} {σ : L2.St} {H : Hp} {s : Shared} {a b : Addr} {k : List Key} {kvs : List (List Key × V)} {y v : V} {u r : Value} {A : Around} {E : Value → Shared → Prop}
theorem dX_new {P : Program} {w : World} {H : Hp} (h : Heap) (hb : sysModules < h.objs.size) : ObjOk P w H (h.push { cls := .type "dict", data := .dict #[] }) h.objs.size (dX P w h.objs.size []) :=
  dX_ok (beq_eq_false_iff_ne.mpr (Ne.symm (Nat.ne_of_lt hb))) ⟨_, #[], 0, Heap.get?_push_size _ rfl, ⟨rfl, rfl, rfl⟩, rfl, rfl, List.nodup_nil⟩
theorem DS.nil {P : Program} {w : World} {K : PySem.W.Frag} {a : Addr} {H : Hp} : DS P w K (upd H a (dX P w a [])) a [] := ⟨Nat.zero_le _, [], upd_same, .nil⟩
theorem dx_dset {Q : Unit → Shared → Prop} (hu : X.A.units + 1 < cLine) (I : Inv X pins σ H s) (d : DS X.prog X.w X.K H a kvs) (hz : kvs.length < sizeLine) (eb : SqT X.K H b (k.map kV)) (ry : RelV (.ref b) u) (rv : RelV v r)
    (h : ∀ s' ys, Inv X pins σ (upd H a (dX X.prog X.w a ys)) s' → DS X.prog X.w X.K (upd H a (dX X.prog X.w a ys)) a (putK kvs k v) → Q () s') : wpAny (model X.prog X.w) X.A (dictSet a u r) Q E s := by
  cases (show u = Value.ref b from ry)
  obtain ⟨hd, xs, e, rel, dd⟩ := dx_at I d
  have hl : xs.length ≤ sizeLine := by rw [← Paired.length rel]; omega
  exact wpAny_dictSet_heap (hsz := hl) (show (tupleKind (mixKind X.prog X.w)).room X.A from (show X.A.units < cLine by omega)) (keyC I eb) dd fun h' dd' hs => by
    obtain ⟨J, d'⟩ := dx_put (t' := s.toks + (tupleKind (mixKind X.prog X.w)).draws k) I e rel hz hd eb rv dd' hs
    exact h _ _ J d'
end
section
variable {X : Cx}
def DcX (P : Program) (w : World) (K : PySem.W.Frag) (g : TG) (tt : TT) (tk tv : TE) (vs : List Nat) (σ : L2.St) (Q : VK) (J : It) (H1 : Hp) : Prop := ∀ D, H1 D = none → ∃ W : Nat → Nat → Hp → Prop, (∃ m, W 0 m (upd H1 D (dX P w D []))) ∧ ∀ i m H, W i m H →
  (J.stop i H ∧ Q (.ref D) H) ∨ (J.go i H ∧ ∃ Nx : Hp → Prop, (∀ H', Nx H' → ∃ m', m' < m ∧ W (i + 1) m' H') ∧ ∀ x H', J.yld i H x H' → g x (wipe σ vs) H' fun σ2 H2 => wipe σ2 vs = wipe σ vs ∧ tt σ2 H2 fun t H3 =>
    if t = true then tk σ2 H3 fun y H4 => tv σ2 H4 fun z H5 => ∃ kvs k b, y = .ref b ∧ SqT K H5 b (k.map kV) ∧ DS P w K H5 D kvs ∧ kvs.length < sizeLine ∧ (∀ ys, DS P w K (upd H5 D (dX P w D ys)) D (putK kvs k z) → Nx (upd H5 D (dX P w D ys))) else Nx H3)
def tDcX (P : Program) (w : World) (K : PySem.W.Frag) (wi : TI) (g : TG) (tt : TT) (tk tv : TE) (vs : List Nat) : TE := fun σ H Q => wi σ H fun J H1 => DcX P w K g tt tk tv vs σ Q J H1
theorem pe_dcX {kx vx tg iter : Expr} {ifs : List Expr} {scope : Scope} {own : List (Str × Nat)} {pos : Pos} {wi : TI} {g : TG} {tt : TT} {tk tv : TE} (hu : X.A.units + 1 < cLine) (hc : X.calm = true) (hN : X.N.Nodup) (hi : PI X tg iter wi) (ok : BlkOk X.N X.env.scope scope own)
    (hg : ∀ (s : Shared) (H : Hp) (C : Addr) (cl : List (Str × Addr)) (fp : List Addr), PG (X.blk s H scope (compEnvC scope cl C X.env) fp) tg g) (ht : ∀ (s : Shared) (H : Hp) (C : Addr) (cl : List (Str × Addr)) (fp : List Addr), PTs (X.blk s H scope (compEnvC scope cl C X.env) fp) ifs tt)
    (hk : ∀ (s : Shared) (H : Hp) (C : Addr) (cl : List (Str × Addr)) (fp : List Addr), PE (X.blk s H scope (compEnvC scope cl C X.env) fp) kx tk)
    (he : ∀ (s : Shared) (H : Hp) (C : Addr) (cl : List (Str × Addr)) (fp : List Addr), PE (X.blk s H scope (compEnvC scope cl C X.env) fp) vx tv) (hs : ∀ x, foldedSetIterable iter X.env x = pure x := by intro _; rfl) :
    PE X (.DictComp kx vx [⟨tg, iter, ifs, 0⟩] scope pos) (tDcX X.prog X.w X.K wi g tt tk tv (own.map (·.2))) := by
  refine ⟨fun pins s σ H Q I h => ?_⟩
  rw [arm_eval_DictComp]
  have free : ∀ y ∈ scope.names, y.2 = .free → ∃ c, X.env.cells.lookup y.1 = some c := fun y hy e => by
    rcases ok.free y hy e with k | k
    · exact I.ok.has _ (.inl k)
    · exact I.ok.has _ (.inr k)
  refine wpAny_comprehension_free rfl hs (closure_ok free) ok.kind (fun y hy e => by rw [ok.uniq y hy, e]) (thn (hi.run pins s σ H _ I h) fun xv s1 hx => thn hx fun itv s2 h2 => ?_)
  obtain ⟨it, fp, tn, J, H2, rfl, I2, T, st2, f2, q⟩ := h2
  -- the dict that is made, at D
  obtain ⟨D, hD⟩ : ∃ D : Addr, D = s2.heap.objs.size := ⟨_, rfl⟩
  have D0 : H2 D = none := I2.hok.fresh (Nat.le_of_eq hD.symm)
  obtain ⟨W, ⟨m0, w0⟩, turn⟩ := q D D0
  refine wpAny_newObj_type (newEnv_comp ?_)
  rw [← hD]
  obtain ⟨s3, e3⟩ : ∃ s3 : Shared, s3 = { s2 with heap := s2.heap.push { cls := .type "dict", data := .dict #[] } } := ⟨_, rfl⟩
  have p3 : ∀ b o, s2.heap.get? b = some o → s3.heap.get? b = some o := fun b o e => by rw [e3]; exact Heap.get?_push_of_some _ e
  have I3 : Inv X pins σ (upd H2 D (dX X.prog X.w D [])) s3 := by
    rw [e3]
    exact I2.laid (t' := s2.toks) (fun b o e => Heap.get?_push_of_some _ e) (Nat.le_of_eq hD.symm) (by rw [hD]; exact dX_new s2.heap I2.big)
  have f3 : ∀ b ∈ fp, FpOk X pins (upd H2 D (dX X.prog X.w D [])) b ∧ b < s3.heap.objs.size := fun b hb => by
    obtain ⟨o, e, _⟩ := T.obj _ _ st2 b hb
    exact ⟨⟨by rw [upd_ne (by rw [hD]; exact Nat.ne_of_lt (Heap.lt_size e))]; exact (f2 b hb).1, (f2 b hb).2⟩, Heap.lt_size (p3 b o e)⟩
  have I4 := block_start I3 ok hN f3
  have pg := hg s3 (upd H2 D (dX X.prog X.w D [])) s3.heap.objs.size (cellsFrom (s3.heap.objs.size + 1) scope.names (cloFrom X.env.cells scope.names [])) fp
  have pt := ht s3 (upd H2 D (dX X.prog X.w D [])) s3.heap.objs.size (cellsFrom (s3.heap.objs.size + 1) scope.names (cloFrom X.env.cells scope.names [])) fp
  have pk := hk s3 (upd H2 D (dX X.prog X.w D [])) s3.heap.objs.size (cellsFrom (s3.heap.objs.size + 1) scope.names (cloFrom X.env.cells scope.names [])) fp
  have pe := he s3 (upd H2 D (dX X.prog X.w D [])) s3.heap.objs.size (cellsFrom (s3.heap.objs.size + 1) scope.names (cloFrom X.env.cells scope.names [])) fp
  rw [← e3]
  show codeAny _ _ (.compStart (.DictComp kx vx [⟨tg, iter, ifs, 0⟩] scope pos) 0 (.ref it) (.ref D) (compEnvC scope (cellsFrom (s3.heap.objs.size + 1) scope.names (cloFrom X.env.cells scope.names [])) s3.heap.objs.size X.env))
    (compPost (model X.prog X.w) X.A X.xe none (EP X pins σ Q) (.ref D) s3.heap.objs.size) { s3 with heap := pushCells (s3.heap.push { cls := .type "dict", data := .dict #[] }) scope.names }
  have nf : ∀ b ∈ fp, (upd H2 D (dX X.prog X.w D [])) b = none := fun b hb => (f3 b hb).1.1
  have t4 : tn 0 (pushCells (s3.heap.push { cls := .type "dict", data := .dict #[] }) scope.names) := T.keep _ _ _ st2 fun b _ o e => pushCells_keeps _ _ _ _ (Heap.get?_push_of_some _ (p3 b o e))
  generalize hce : compEnvC scope (cellsFrom (s3.heap.objs.size + 1) scope.names (cloFrom X.env.cells scope.names [])) s3.heap.objs.size X.env = ce at I4 pg pt pk pe ⊢
  have cL : ce.locals = s3.heap.objs.size := by rw [← hce]; rfl
  generalize upd H2 D (dX X.prog X.w D []) = H3 at I3 f3 I4 pg pt pk pe nf w0
  generalize hs4 : ({ s3 with heap := pushCells (s3.heap.push { cls := .type "dict", data := .dict #[] }) scope.names } : Shared) = s4 at I4 ⊢
  have t4' : tn 0 s4.heap := by rw [← hs4]; exact t4
  -- the iterator's objects stand outside of the block
  have outer : ∀ {σ' : L2.St} {H' : Hp} {s' : Shared}, Inv (X.blk s3 H3 scope ce fp) [] σ' H' s' → (∀ b ∈ fp, H' b = none) → ∀ b ∈ fp, FpOk (X.blk s3 H3 scope ce fp) [] H' b := fun {σ' H' s'} J n b hb =>
    ⟨n b hb, (J.ok.exf b hb).1, J.ok.exfs b hb, .inl hb, fun x c e => (J.ok.exf b hb).2 x c e, fun p hp => absurd (show p ∈ ([] : List (Addr × Obj)) ++ [] from hp) (by simp)⟩
  have loop : codeAny (model X.prog X.w) X.A (.compLoop (.DictComp kx vx [⟨tg, iter, ifs, 0⟩] scope pos) 0 (.ref it) (.ref D) ce) (compPost (model X.prog X.w) X.A X.xe none (EP X pins σ Q) (.ref D) s3.heap.objs.size) s4 := by
    refine compLoop_anyD (fun n s' => ∃ i H', Inv (X.blk s3 H3 scope ce fp) [] (wipe σ (own.map (·.2))) H' s' ∧ tn i s'.heap ∧ (∀ b ∈ fp, H' b = none) ∧ W i n H') ?_ m0 ⟨0, H3, I4, t4', nf, w0⟩
    rintro n s5 ⟨i, H5, I5, t5, n5, w5⟩
    rcases turn i n H5 w5 with ⟨stop, fin⟩ | ⟨go, Nx, hNx, step⟩
    · -- the walk is at its end: the def goes on
      refine thnF (T.done (X.blk s3 H3 scope ce fp) rfl rfl rfl hc i [] s5 _ H5 (fun _ _ => False) I5 (outer I5 n5) t5 stop) fun r s6 ⟨hr, I6⟩ => ?_
      subst hr
      have I7 : Inv X pins σ H5 s6 := I3.call' (ch := fp) I6.os I6.base I6.hok I6.bare fun b hb => ⟨(f3 b hb).1.2.2.2.1, (f3 b hb).1.2.1, (f3 b hb).1.2.2.2.2.1, (f3 b hb).1.2.2.2.2.2⟩
      have nC : H5 s3.heap.objs.size = none := by rw [← cL]; exact I6.free
      obtain ⟨m, hn, _⟩ := I6.loc
      have hn' : s6.heap.Ns s3.heap.objs.size m := by rw [← cL]; exact hn
      obtain ⟨g0, g1, g2, g3, g4, g5⟩ := I3.fpOk (Nat.le_refl _) nC
      exact ⟨m, hn', fun h'' sb => ⟨.ref D, H5, I7.turned (t' := s6.toks) (fun b o hb e => (sb.2 b hb).trans e) g0 g1 g3 g4 g5, rfl, fin⟩⟩
    · -- one more turn
      refine thnF (T.item (X.blk s3 H3 scope ce fp) rfl rfl rfl hc i [] s5 _ H5 (fun _ _ => False) I5 (outer I5 n5) t5 go) fun r s6 ⟨u, hr, h6⟩ => ?_
      subst hr
      refine thnF h6 fun _ s7 ⟨x, H7, I7, r7, y7, t7, n7⟩ => ?_
      have I7' := I7.pinned (outer I7 n7) (T.obj _ _ t7)
      refine thnF (pg.run _ s7 _ H7 x u _ I7' r7 (step x H7 y7)) fun _ s8 ⟨σ8, H8, I8, w8, q8⟩ => ?_
      refine thnF (pt.run _ s8 σ8 H8 _ I8 q8) fun b s9 ⟨H9, I9, q9⟩ => ?_
      have again : ∀ {s' : Shared} {H' : Hp}, Inv (X.blk s3 H3 scope ce fp) ([] ++ pinsAt fp s7.heap) σ8 H' s' → Nx H' → ∃ m, m < n ∧ ∃ i H', Inv (X.blk s3 H3 scope ce fp) [] (wipe σ (own.map (·.2))) H' s' ∧ tn i s'.heap ∧ (∀ b ∈ fp, H' b = none) ∧ W i m H' := by
        intro s' H' J nx
        obtain ⟨m', hm, w'⟩ := hNx H' nx
        have stay : ∀ b ∈ fp, ∀ o, s7.heap.get? b = some o → s'.heap.get? b = some o ∧ H' b = none := fun b hb o e => by
          have z := J.pin (b, o) (List.mem_append_right _ (List.mem_append_right _ (mem_pinsAt hb e)))
          exact ⟨z.1, z.2.1⟩
        refine ⟨m', hm, i + 1, H', (J.unpinned (pins := [])).weak (by rw [← w8, wipe_length]) (fun j v e => ?_), T.keep _ _ _ t7 fun b hb o e => (stay b hb o e).1, fun b hb => ?_, w'⟩
        · rw [← w8] at e; exact (wipe_some e).1
        · obtain ⟨o, e, _⟩ := T.obj _ _ t7 b hb
          exact (stay b hb o e).2
      cases b with
      | false =>
        simp only [Bool.false_eq_true, if_false] at q9 ⊢
        exact again I9 q9
      | true =>
        simp only [if_true] at q9 ⊢
        refine thnF (pk.run _ s9 σ8 H9 _ I9 q9) fun ky s10 ⟨yk, H10, I10, r10, q10⟩ => ?_
        refine thnF (pe.run _ s10 σ8 H10 _ I10 q10) fun vv s11 ⟨yv, H11, I11, r11, kvs, k, kb, ek, hkb, hD11, hz11, nx⟩ => ?_
        subst ek
        exact dx_dset (X := X.blk s3 H3 scope ce fp) hu I11 hD11 hz11 hkb r10 r11 fun s12 ys I12 d12 => again I12 (nx ys d12)
  exact codeAny_compStart_dict loop (T.self X.A 0 _ _ _ t4' loop)
end
/-- d[y] -/
def tDGetX (P : Program) (w : World) (K : PySem.W.Frag) (td ty : TE) : TE := fun σ H Q => td σ H fun x H1 => ty σ H1 fun y H2 => ∃ a v, x = .ref a ∧ GX P w K H2 a y (some v) ∧ Q v H2
/-- d.get(y, z) -/
def tDGet2X (P : Program) (w : World) (K : PySem.W.Frag) (td ty tx : TE) : TE := fun σ H Q => td σ H fun x H1 => ∃ a, x = .ref a ∧ (∃ kvs, DS P w K H1 a kvs) ∧ ty σ H1 fun y H2 => tx σ H2 fun z H3 => ∃ o, GX P w K H3 a y o ∧ Q (o.getD z) H3
/-- y in d -/
def tDInX (P : Program) (w : World) (K : PySem.W.Frag) (ty td : TE) : TE := fun σ H Q => ty σ H fun y H1 => td σ H1 fun x H2 => ∃ a o, x = .ref a ∧ GX P w K H2 a y o ∧ Q (.bl o.isSome) H2
/-- d[y] = v -/
def sDPutX (P : Program) (w : World) (K : PySem.W.Frag) (td ty tv : TE) : TS := fun D σ H => tv σ H fun v H1 => td σ H1 fun x H2 => ty σ H2 fun y H3 => ∃ a kvs k b, x = .ref a ∧ y = .ref b ∧ DS P w K H3 a kvs ∧ kvs.length < sizeLine ∧
  SqT K H3 b (k.map kV) ∧ ∀ ys, DS P w K (upd H3 a (dX P w a ys)) a (putK kvs k v) → D.nx σ (upd H3 a (dX P w a ys))
/-- {} -/
def tDNewX (P : Program) (w : World) (K : PySem.W.Frag) : TE := fun _ H Q => ∀ p, H p = none → DS P w K (upd H p (dX P w p [])) p [] → Q (.ref p) (upd H p (dX P w p []))
section
variable {X : Cx} {o i e f value : Expr} {pos pos' apos cpos : Pos} {td ty tv tx : TE}
theorem dx_typeIs {pins : List (Addr × Obj)} {σ : L2.St} {H : Hp} {s : Shared} {a : Addr} {kvs : List (List Key × V)} (I : Inv X pins σ H s) (d : DS X.prog X.w X.K H a kvs) :
    s.TypeIs (.ref a) "dict" ∧ ∀ b, Value.ref a = .ref b → ∃ ob, s.heap.get? b = some ob ∧ ob.dict = none := by
  obtain ⟨_, xs, _, _, dd⟩ := dx_at I d
  refine ⟨dd.typeIs, fun b q => ?_⟩
  cases q
  obtain ⟨ob, _, _, h1, h2, _⟩ := dd
  exact ⟨ob, h1, h2.2.1⟩
theorem pe_dgetX (hu : X.A.units + 1 < cLine) (ho : PE X o td) (hi : PE X i ty) (hs : NoSl i) : PE X (.Subscript o i pos) (tDGetX X.prog X.w X.K td ty) := by
  refine ⟨fun pins s σ H Q I h => ?_⟩
  refine subD_of PySem.F.slot_dict_getitem.lookup hs (thn (ho.run pins s σ H _ I h) fun u s1 ⟨x, H1, I1, rx, q1⟩ => thn (hi.run pins s1 σ H1 _ I1 q1) fun iv s2 ⟨y, H2, I2, ry, a, v, ex, g, q2⟩ => ?_)
  subst ex
  obtain rfl : u = Value.ref a := rx
  have t := dx_typeIs I2 g.choose_spec.choose_spec.choose_spec.1
  exact ⟨t.1, dx_get hu I2 g ry fun w' s3 I3 rw' => ⟨v, H2, I3, rw', q2⟩⟩
theorem pc_dinX (hu : X.A.units + 1 < cLine) (hi : PE X i ty) (ho : PE X o td) : PC X .In i o (tDInX X.prog X.w X.K ty td) := by
  refine ⟨fun pins s σ H Q I h => ?_⟩
  refine thn (hi.run pins s σ H _ I h) fun iv s1 ⟨y, H1, I1, ry, q1⟩ => thn (ho.run pins s1 σ H1 _ I1 q1) fun u s2 ⟨x, H2, I2, rx, a, ov, ex, g, q2⟩ => ?_
  subst ex
  obtain rfl : u = Value.ref a := rx
  exact dx_in hu I2 g ry fun s3 I3 => ⟨.bl ov.isSome, H2, I3, rfl, q2⟩
theorem pe_dget2X (hu : X.A.units + 1 < cLine) (ho : PE X o td) (he : PE X e ty) (hf : PE X f tx) (m : M2 X o "get" apos e f cpos) : PE X (.Call (.Attribute o "get" apos) [e, f] [] cpos) (tDGet2X X.prog X.w X.K td ty tx) := by
  refine ⟨fun pins s σ H Q I h => ?_⟩
  refine wpAny_Call_method m.base m.few m.line PySem.F.plainAttrs_dict PySem.F.slot_dict_get PySem.F.type_dict_get (thn (ho.run pins s σ H _ I h) fun u s1 ⟨x, H1, I1, rx, a, ex, ⟨kvs, d⟩, q1⟩ => ?_)
  subst ex
  obtain rfl : u = Value.ref a := rx
  obtain ⟨t1, t2⟩ := dx_typeIs I1 d
  refine ⟨t1, t2, ?_⟩
  rw [m.trees]
  refine Calls.callWith_builtin rfl (Calls.evalArgs_plain (Calls.spliced_cons (thn (he.run pins s1 σ H1 _ I1 q1) fun iv s2 ⟨y, H2, I2, ry, q2⟩ =>
    Calls.spliced_cons (thn (hf.run pins s2 σ H2 _ I2 q2) fun fv s3 ⟨z, H3, I3, rz, ov, g, q3⟩ => Calls.spliced_nil ?_))))
  exact dx_get2 hu I3 g ry rz fun w' s4 I4 rw' => ⟨_, H3, I4, rw', q3⟩
theorem ps_dputX (hu : X.A.units + 1 < cLine) (ho : PE X o td) (hi : PE X i ty) (hv : PE X value tv) (hs : swapsWith value (some (.Subscript o i pos')) pos.line X.env = pure false) :
    PS X (.Assign [.Subscript o i pos'] value pos) (sDPutX X.prog X.w X.K td ty tv) := by
  refine ⟨fun pins s σ H D I h => ?_⟩
  refine wpAny_Assign_Subscript (thn (hv.run pins s σ H _ I h) fun r s1 ⟨v, H1, I1, rv, q1⟩ => thn (ho.run pins s1 σ H1 _ I1 q1) fun u s2 ⟨x, H2, I2, rx, q2⟩ => thn (hi.run pins s2 σ H2 _ I2 q2) fun iv s3 ⟨y, H3, I3, ry, a, kvs, k, b, ex, ey, d, hz, eb, q3⟩ => ?_) hs
  subst ex ey
  obtain rfl : u = Value.ref a := rx
  exact dx_set hu I3 d hz eb ry rv fun s4 ys I4 d4 => ⟨σ, _, I4, q3 ys d4⟩
theorem pe_dnewX : PE X (.Dict [] [] pos) (tDNewX X.prog X.w X.K) := ⟨fun pins s σ H Q I h =>
  wpAny_Dict_empty ⟨.ref s.heap.objs.size, _, I.laid (a := s.heap.objs.size) (o := dX X.prog X.w s.heap.objs.size []) (t' := s.toks) (fun _ _ q => Heap.get?_push_of_some _ q) (Nat.le_refl _) (dX_new s.heap I.big), rfl,
    h _ (I.hok.fresh (Nat.le_refl _)) DS.nil⟩⟩
theorem pe_dgetXk {K : PySem.W.Frag} {P : Program} {w : World} (hu : X.A.units + 1 < cLine) (ho : PE X o td) (hi : PE X i ty) (e : X.K = K) (e1 : X.prog = P) (e2 : X.w = w) (hs : NoSl i) : PE X (.Subscript o i pos) (tDGetX P w K td ty) := by
  subst e e1 e2
  exact pe_dgetX hu ho hi hs
/-- d.items() -/
def tItemsX (P : Program) (w : World) (K : PySem.W.Frag) (td : TE) : TE := fun σ H Q => td σ H fun x H1 => ∃ a kvs, x = .ref a ∧ DS P w K H1 a kvs ∧ ∀ p, H1 p = none → Q (.ref p) (upd H1 p (L2.DX.itemsO p a))
theorem pe_ditemsX (ho : PE X o td) (hbase : attributeBase o "items" X.env (eval o X.env) = eval o X.env := by rfl) (hline : (apos.endLine == cpos.line) = true := by rfl) : PE X (.Call (.Attribute o "items" apos) [] [] cpos) (tItemsX X.prog X.w X.K td) := by
  refine ⟨fun pins s σ H Q I h => ?_⟩
  refine wpAny_Call_method0_late hbase hline (thn (ho.run pins s σ H _ I h) fun v s1 ⟨x, H1, I1, r1, a, kvs, ex, d, q⟩ => ?_)
  subst ex
  obtain rfl : v = Value.ref a := r1
  obtain ⟨t1, t2⟩ := dx_typeIs I1 d
  refine ⟨"dict", _, PySem.F.plainAttrs_dict, PySem.F.slot_dict_items, PySem.F.type_dict_items, t1, t2, Calls.callWith_builtin rfl (PySem.evalArgs_none ?_)⟩
  obtain ⟨hd, xs, _, _, o', es, ep, e1, e2, e3, _⟩ := dx_at I1 d
  exact DT.callItems (es := es) (ep := ep) hd ⟨o', e1, e2, e3⟩ ⟨.ref s1.heap.objs.size, upd H1 s1.heap.objs.size (L2.DX.itemsO s1.heap.objs.size a), I1.laid (t' := s1.toks) (fun b u e => Heap.get?_push_of_some _ e) (Nat.le_refl _) (L2.DX.itemsO_ok (Heap.get?_push_size _ rfl)), rfl, q _ (I1.hok.fresh (Nat.le_refl _))⟩
end
end Es

set_option Elab.async false
set_option linter.all false
set_option maxRecDepth 100000
set_option maxHeartbeats 4000000
/-! iter of a tuple; for .. in an object of an own class, by its own __iter__ that gives a tuple's iterator. -/
namespace Bd
open PySem PySem.Spec PyProof.Rows L2
open Builtin Builtin.ObjectAttr
/-- at it an iterator over the tuple at t that has given nothing -/
def TtO (t it : Addr) : HO := .ext fun h => h.get? it = some { cls := .type "tuple_iterator", data := .fields #[.ref t, .int 0 0] }
theorem ttO_ok {P : Program} {w : World} {H : Hp} {h : Heap} {t it : Addr} (e : h.get? it = some { cls := .type "tuple_iterator", data := .fields #[.ref t, .int 0 0] }) : ObjOk P w H h it (TtO t it) := ⟨e, ⟨_, e⟩, fun _ _ q k => k _ q⟩
theorem call_iterTup {prog : Program} {w : World} {A : Around} {E : Value → Shared → Prop} {s : Shared} {t : Addr} {items : Array Value} {Q : Value → Shared → Prop} (ht : s.heap.IsTuple t items)
    (hQ : Q (.ref s.heap.objs.size) { s with heap := s.heap.push { cls := .type "tuple_iterator", data := .fields #[.ref t, .int 0 0] } }) : wpAny (model prog w) A (call (.builtin "iter") [.ref t]) Q E s := by
  refine PySem.Calls.call_function_entry (by decide +kernel) (by decide +kernel) PySem.W.kdk_entry_iter (PySem.W.kdk_args_iter _) ?_
  unfold PySem.Builtin.«iter»
  refine wpAny_bind (m := someArgs "iter" 1 2 _) (wpAny_of_eq (a := [Value.ref t]) (by first | rfl | kernel_rfl!) ?_)
  show wpAny _ _ (pyIter (.ref t) >>= _) _ _ _
  exact wpAny_bind (wpAny_pyIter_tuple ht (wpAny_pure ⟨_, rfl, hQ⟩))
def rIterT (K : PySem.W.Frag) : List V → Hp → VK → Prop := fun xs H Q => ∃ (t : Addr) (zs : List V), xs = [.ref t] ∧ SqT K H t zs ∧ ∀ it, H it = none → (∀ z o, H z = some o → z < it) → Q (.ref it) (upd H it (TtO t it))
/-- {}, and it is younger than the frame -/
def tDNewN (n : Nat) : TE := fun _ H Q => ∀ p, H p = none → n ≤ p → Q (.ref p) (upd H p (.dT []))
/-- list(xs), and it is younger than the frame -/
def rListN (K : PySem.W.Frag) (n : Nat) : List V → Hp → VK → Prop := fun xs H Q => ∃ p ys, xs = [.ref p] ∧ SqL K H p ys ∧ ∀ l, H l = none → n ≤ l → Q (.ref l) (upd H l (.lst ys))
section
variable {X : Cx}
theorem cr_iterT : CallR X (.builtin "iter") (rIterT X.K) := by
  intro pins s σ H xs us Q I r h
  obtain ⟨t, zs, rfl, hq, q⟩ := h
  obtain rfl := Vals.ref1 r
  obtain ⟨its, rv, p, hz⟩ := I.tuple hq
  refine call_iterTup (show s.heap.IsTuple t its.toArray from p) ?_
  refine ⟨.ref s.heap.objs.size, _, I.laid (t' := s.toks) (fun b u e => Heap.get?_push_of_some _ e) (Nat.le_refl _) (ttO_ok (Heap.get?_push_size _ rfl)), rfl, q _ (I.hok.fresh (Nat.le_refl _)) fun z o e => ?_⟩
  obtain ⟨u, hu⟩ := objOk_get (I.hok z o e)
  exact Heap.lt_size hu
theorem pe_dnewN {pos : Pos} : PE X (.Dict [] [] pos) (tDNewN X.s_0.heap.objs.size) := ⟨fun pins s σ H Q I h =>
  wpAny_Dict_empty ⟨.ref s.heap.objs.size, _, I.laid (a := s.heap.objs.size) (o := .dT []) (t' := s.toks) (fun _ _ q => Heap.get?_push_of_some _ q) (Nat.le_refl _) (dt_empty s.heap I.big), rfl, h _ (I.hok.fresh (Nat.le_refl _)) I.sz⟩⟩
theorem call_listN : CallR X (.type "list") (rListN X.K X.s_0.heap.objs.size) := by
  intro pins s σ H xs us Q I r h
  obtain ⟨p, ys, rfl, hq, q⟩ := h
  obtain ⟨u, rfl, rx⟩ := vals1 r
  cases rx
  obtain ⟨its, r', pl, hz⟩ := I.list hq
  have hlen := r'.length
  obtain ⟨o, ho, hc, n, hd⟩ := pl.isList
  refine call_list_seq p (.inl rfl) ho hc hd (fun h' c' kp e => ?_) (by simp only [List.size_toArray] <;> omega)
  exact ⟨.ref s.heap.objs.size, _, I.laid (t' := s.toks) kp (Nat.le_refl _) (show ObjOk X.prog X.w _ h' _ (.lst ys) from ⟨hz, its, c', r', e⟩), rfl, q _ (I.hok.fresh (Nat.le_refl _)) I.sz⟩
variable {pins : List (Addr × Obj)} {σ : L2.St} {H : Hp} {s : Shared} {CT : CXT} {n : Nat} {C f : Addr} {fd : FuncData} {ps : List Str} {sp : Sp} {E : XK} {tg e : Expr} {te : TE}
/-- e an object of the class at C, walked by its own __iter__ -/
def iOwn (K : PySem.W.Frag) (n : Nat) (C : Addr) (sp : Sp) (E : XK) (te : TE) : TI := fun σ H R => te σ H fun x H1 => ∃ a dx fs, x = .ref a ∧ H1 a = some (.ins C dx fs) ∧
  sp [.ref a] H1 (fun v H2 => ∃ it t xs, v = .ref it ∧ n ≤ it ∧ H2 it = some (TtO t it) ∧ SqT K H2 t xs ∧ R (Itt K t) (ItX.dropH H2 it)) E
theorem pi_own (F : FnOk X.prog X.w X.K X.mg X.base CT n f fd ps sp) (hs : PySem.W.findIn X.K (.ref C) "__iter__" = some (some (.ref f))) (hf : PySem.W.isFn X.K (.ref f) = true) (hb : Binds X.K fd ps []) (hx : Passes CT X E) (hr : Room n X.A) (he : PE X e te) :
    PI X tg e (iOwn X.K X.s_0.heap.objs.size C sp E te) := by
  refine ⟨fun pins s σ H R I h => ?_⟩
  refine thn (he.run pins s σ H _ I h) fun u s1 ⟨x, H1, I1, r1, a, dx, fs, ex, ea, hsp⟩ => ?_
  subst ex
  obtain rfl : u = Value.ref a := r1
  obtain ⟨mA, J, _⟩ := ins_get I1.hok ea
  obtain ⟨od, J, _⟩ := J.look
  obtain ⟨m, hF⟩ := I1.fr
  refine PySem.W.owit_iter hF I1.ok.mod.kin J hs hf ?_
  refine thn (call_def F hb hx hr I1 (vs := [.ref a]) (.cons rfl .nil) hsp) fun u s2 ⟨v, H2, I2, r2, it, t, xs, ev, hsz, hit, hq, hR⟩ => ?_
  subst ev
  obtain rfl : u = Value.ref it := r2
  have ho : s2.heap.get? it = some { cls := .type "tuple_iterator", data := .fields #[.ref t, .int 0 0] } := (I2.hok it _ hit).1
  have hT : s2.TypeIs (.ref it) "tuple_iterator" := ⟨_, ho, rfl⟩
  unfold PySem.W.OwitIt
  refine wpAny_specialOf (name := Str.ofString "__next__") hT slot_tupleiter_next.lookup ?_
  have hit' := hit
  unfold TtO at hit'
  refine ⟨it, [it], _, _, ItX.dropH H2 it, rfl, ItX.inv_drop I2 hit', turn_tuple t it, ⟨_, ho, rfl, rfl⟩, fun b hb => ?_, hR⟩
  have e : b = it := by simpa using hb
  rw [e]
  exact ItX.inv_fp I2 hit hsz
/-- e a list, a tuple, or an object of the class at C -/
def iAny (K : PySem.W.Frag) (n : Nat) (C : Addr) (sp : Sp) (E : XK) (te : TE) : TI := fun σ H R => iLt K te σ H R ∨ iOwn K n C sp E te σ H R
theorem pi_any (F : FnOk X.prog X.w X.K X.mg X.base CT n f fd ps sp) (hs : PySem.W.findIn X.K (.ref C) "__iter__" = some (some (.ref f))) (hf : PySem.W.isFn X.K (.ref f) = true) (hb : Binds X.K fd ps []) (hx : Passes CT X E) (hr : Room n X.A) (he : PE X e te) :
    PI X tg e (iAny X.K X.s_0.heap.objs.size C sp E te) := ⟨fun pins s σ H R I h => h.elim ((pi_lt he).run pins s σ H R I) ((pi_own F hs hf hb hx hr he).run pins s σ H R I)⟩
end
end Bd
namespace Rb
open PySem PySem.Spec PyProof.Rows L2
theorem op_neDK {X : Cx} {K : PySem.W.Frag} (h : X.K = K) (hu : X.A.units + 64 < cLine) : OpR X (compareOp .NotEq) (rNeD K) := h ▸ op_neD hu
end Rb

set_option Elab.async false
set_option linter.all false
set_option maxRecDepth 100000
set_option maxHeartbeats 4000000
/-! bool of a tuple and of an object with an own __bool__; in, by an own __contains__; C.m(..) of a staticmethod. -/
namespace Bd
open PySem PySem.Spec PyProof.Rows L2
open Builtin Builtin.ObjectAttr
section
variable {prog : Program} {w : World} {A : Around} {E : Value → Shared → Prop} {s : Shared}
/-- bool(x), by what x is as a test -/
theorem call_boolBy {x : Value} {Q : Value → Shared → Prop} (h : wpAny (model prog w) A.in1.in1 (truthy x) (fun b s' => Q (.bool b) s') E s) : wpAny (model prog w) A (call (.type "bool") [x]) Q E s := by
  refine callType_newIn (S := fun A R s => wpAny (model prog w) A.in1 (truthy x) (fun b s' => R (.ok (.ret (.bool b))) s') (fun e s' => R (.error e) s') s) F.called_bool F.newNe_bool (F.typeCall_bool_1 x) (F.newCall_bool_1 x) (fun obj => F.args_object_init_2 obj x) F.entry_bool_new (MeetsIn.of_wp fun A R s h => ?_) ?_
  · have hsub := F.called_bool.sub
    unfold PySem.Builtin.«bool.__new__»
    have key : wpAny (model prog w) A.in1 (truthy x >>= fun b => ret (.bool b)) (fun fin s' => ∃ v, fin = Fin.done (Flow.ret v) ∧ R (Except.ok (Flow.ret v)) s') (fun e s' => R (Except.error e) s') s :=
      wpAny_bind (wpAny_mono h (fun b s' hq => wpAny_pure ⟨_, rfl, hq⟩) fun _ _ z => z)
    repeat (first | exact key | assumption | wp_step)
  · exact wpAny_mono h (fun b s' hq => ⟨rfl, hq⟩) fun _ _ z => z
end
section
variable {X : Cx} {pins : List (Addr × Obj)} {σ : L2.St} {H : Hp} {s : Shared} {CT : CXT} {n : Nat} {C f : Addr} {fd : FuncData} {ps : List Str} {sp : Sp} {E : XK}
/-- bool(t), t a tuple -/
def rBoolT (K : PySem.W.Frag) : List V → Hp → VK → Prop := fun xs H Q => ∃ (a : Addr) (zs : List V), xs = [.ref a] ∧ H a = some (.tup zs) ∧ Q (.bl (!zs.isEmpty)) H
theorem call_boolT : CallR X (.type "bool") (rBoolT X.K) := by
  intro pins s σ H xs us Q I r h
  obtain ⟨a, zs, rfl, hq, q⟩ := h
  obtain rfl := Vals.ref1 r
  obtain ⟨hz, its, rv, o, ho, hc, m, hd⟩ := (show ObjOk X.prog X.w H s.heap a (.tup zs) from I.hok a _ hq)
  have hl := line63
  have hlen := rv.length
  refine call_boolBy (PyProof.Rows.truthy_tuple (items := its.toArray) ⟨o, ho, hc, m, hd⟩ (by rw [List.size_toArray]; omega) ?_)
  exact ⟨.bl (!zs.isEmpty), H, I.tok _, by rw [isEmpty_of rv]; rfl, q⟩
/-- a call of a def two calls down -/
theorem call_def2 {vs : List V} {us : List Value} {Q : VK} (F : FnOk X.prog X.w X.K X.mg X.base CT n f fd ps sp) (hb : Binds X.K fd ps []) (hx : Passes CT X E) (hr : Room n X.A.in1.in1) (I : Inv X pins σ H s) (r : Vals vs us) (hsp : sp vs H Q E) :
    wpAny (model X.prog X.w) X.A.in1.in1 (call (.ref f) us) (EP X pins σ Q) X.xe s := by
  have hl := F.len _ _ _ _ hsp
  have hu : us.length = ps.length := by rw [← r.length]; exact hl
  refine wpAny_call (codeAny_mono (F.run X.A.in1.in1 X.stack s H ⟨us, []⟩ us vs Q E hr I.env0.in1.in1 (by
    have := hb s us I.kIn (by simpa using hu)
    simpa using this) r hsp) fun z s' hq => ?_)
  cases z with
  | error e => exact hx pins σ H s e s' I hq
  | ok fl =>
    cases fl with
    | ret w => exact I.after hq
    | next => exact False.elim hq
    | brk => exact False.elim hq
    | cont => exact False.elim hq
/-- bool(x), x an object of the class at C that has its own __bool__ -/
def rBoolOwn (C : Addr) (sp : Sp) (E : XK) : List V → Hp → VK → Prop := fun xs H Q => ∃ a dx fs, xs = [.ref a] ∧ H a = some (.ins C dx fs) ∧ sp [.ref a] H (fun v H' => ∃ t, v = .bl t ∧ Q (.bl t) H') E
theorem call_boolOwn (F : FnOk X.prog X.w X.K X.mg X.base CT n f fd ps sp) (hs : PySem.W.findIn X.K (.ref C) "__bool__" = some (some (.ref f))) (hf : PySem.W.isFn X.K (.ref f) = true) (hb : Binds X.K fd ps []) (hx : Passes CT X E) (hr : Room (n + 2) X.A) : CallR X (.type "bool") (rBoolOwn C sp E) := by
  intro pins s σ H xs us Q I r h
  obtain ⟨a, dx, fs, rfl, ha, hsp⟩ := h
  obtain rfl := Vals.ref1 r
  obtain ⟨mA, J, _⟩ := ins_get I.hok ha
  obtain ⟨od, J, _⟩ := J.look
  refine call_boolBy ?_
  unfold truthy
  have key : wpAny (model X.prog X.w) X.A.in1.in1 (callSpecial? (.ref a) (Str.ofString "__bool__") []) (fun r s' => ∃ t, r = some (Value.bool t) ∧ EP X pins σ Q (.bool t) s') X.xe s := by
    refine PySem.W.special_fn I.kIn J hs (beq_iff_eq.mp hf) ?_
    refine thn (call_def2 F hb hx hr.in1.in1 I (vs := [.ref a]) (.cons rfl .nil) hsp) fun u s' ⟨v, H', I', r', t, ev, q⟩ => ?_
    subst ev
    cases r'
    exact ⟨t, rfl, .bl t, H', I', rfl, q⟩
  refine wpAny_bind (wpAny_mono key (fun r s' h' => ?_) fun _ _ z => z)
  obtain ⟨t, rfl, q⟩ := h'
  exact wpAny_pure q
/-- x in y, y an object of the class at C that has its own __contains__ -/
def rInOwn (C : Addr) (sp : Sp) (E : XK) : R2 := fun x y H Q => ∃ b dx fs, y = .ref b ∧ H b = some (.ins C dx fs) ∧ sp [.ref b, x] H (fun v H' => ∃ t, v = .bl t ∧ Q (.bl t) H') E
theorem op_inOwn (F : FnOk X.prog X.w X.K X.mg X.base CT n f fd ps sp) (hs : PySem.W.findIn X.K (.ref C) "__contains__" = some (some (.ref f))) (hf : PySem.W.isFn X.K (.ref f) = true) (hb : Binds X.K fd ps []) (hx : Passes CT X E) (hr : Room n X.A) : OpR X (compareOp .In) (rInOwn C sp E) := by
  intro pins s σ H x y v u Q I rx ry h
  obtain ⟨b, dx, fs, rfl, hb', hsp⟩ := h
  obtain rfl : u = Value.ref b := ry
  obtain ⟨mA, J, _⟩ := ins_get I.hok hb'
  obtain ⟨od, J, _⟩ := J.look
  have X0 := I.kIn
  have cl : wpAny (model X.prog X.w) X.A (call (.ref f) [.ref b, v]) (fun r s' => ∃ t, r = Value.bool t ∧ EP X pins σ Q (.bool t) s') X.xe s := by
    refine thn (call_def F hb hx hr I (vs := [.ref b, x]) (.cons rfl (.cons rx .nil)) hsp) fun u s' ⟨v, H', I', r', t, ev, q⟩ => ?_
    subst ev
    cases r'
    exact ⟨t, rfl, .bl t, H', I', rfl, q⟩
  show wpAny _ _ (contains (.ref b) v >>= fun t => pure (Value.bool t)) _ _ _
  refine wpAny_bind ?_
  unfold contains
  refine wpAny_holding ?_
  show wpAny _ _ (specialOf (.ref b) (Str.ofString "__contains__") >>= _) _ _ _
  refine wpAny_bind (wpAny_bind (J.type.here ((PySem.W.looks_findIn X0 hs).here ?_)))
  show wpAny _ _ (callSpecialUnlessNone? (.ref b) (Str.ofString "__contains__") [v] _ >>= _) _ _ _
  unfold callSpecialUnlessNone?
  refine wpAny_bind (wpAny_bind (wpAny_bind (J.type.here ((PySem.W.looks_findIn X0 hs).here ?_))))
  refine wpAny_holding (wpAny_bind ((PySem.W.bind_fn X0 _ (beq_iff_eq.mp hf)).here ?_))
  refine PySem.W.KFB.if_not rfl ?_
  refine wpAny_bind (wpAny_mono cl (fun r s' h' => ?_) fun _ _ z => z)
  obtain ⟨t, rfl, q⟩ := h'
  exact wpAny_pure (wpAny_pure (wpAny_pure q))
/-- what is told of a staticmethod m of the class at C: its record at p, its def at g -/
structure StatC (K : PySem.W.Frag) (C : Addr) (m : Str) (g : Addr) : Prop where
  rd : PySem.W.readsIn K C (.type "type") = true
  ga : PySem.W.specialIn K (.ref C) "__getattribute__" = some (some (.builtin "type.__getattribute__"))
  at_ : ∃ p, PySem.W.findCls K (.ref C) (.type "type") m = some (.get (.builtin "staticmethod.__get__") (.ref p) .none (.ref C)) ∧ ∃ rest, PySem.W.recIn K p "staticmethod" = some (.ref g :: rest)
  kp : PySem.W.keepIn K (.ref g) = true
/-- o.m(..), o the class at C, m a staticmethod -/
def tStat (C : Addr) (sp : Sp) (E : XK) (ta : TE) (t : TA) : TE := fun σ H Q => ta σ H fun x H1 => x = .ref C ∧ t σ H1 fun vs H2 => sp vs H2 Q E
theorem pe_static {g : Addr} {m : Str} {o e : Expr} {es : List Expr} {pos apos : Pos} {ta : TE} {t : TA} {pl : Sem Bool} (he : PE X o ta) (c : StatC X.K C m g) (F : FnOk X.prog X.w X.K X.mg X.base CT n g fd ps sp) (hr : Room n X.A) (hb : Binds X.K fd ps []) (hx : Passes CT X E) (ha : PA X (e :: es) t)
    (hst : starEach (e :: es) X.env = (false, eval e X.env) :: starEach es X.env := by rfl) (hpl : (backTo pos (starEach es X.env)).any (·.1) = false := by rfl)
    (ht : eval (.Call (.Attribute o m apos) (e :: es) [] pos) X.env = (do
      let ov ← eval o X.env
      standAt apos.atName
      let (f, first) ← holding [ov] (getMethod ov m pl)
      callWith pos f first (backTo pos (starEach (e :: es) X.env)) (backToKw pos (keywordEach [] X.env))) := by rfl) :
    PE X (.Call (.Attribute o m apos) (e :: es) [] pos) (tStat C sp E ta t) := by
  refine ⟨fun pins s σ H Q I h => ?_⟩
  refine PySem.W.methodCall_KW (pl := pl) (thn (he.run pins s σ H _ I h) fun u s1 ⟨x, H1, I1, rx, ex, q⟩ => ?_) ht
  subst ex
  obtain rfl : u = Value.ref C := rx
  obtain ⟨p, h1, rest, h2⟩ := c.at_
  refine PySem.W.method_cls I1.kIn c.ga (PySem.W.cls_bind I1.kIn c.rd h1 ?_)
  refine wpAny_call (PySem.W.sm_get (s := { s1 with toks := s1.toks + 1 }) I1.kIn h2 (PySem.W.handed_on rfl ?_))
  have I2 := I1.tok (s1.toks + 1)
  refine PySem.W.callWith_K (h₀ := X.base) I2.ok.mod.kin c.kp (thn (ha.run pos pins _ σ H1 _ I2 q) fun us s3 ⟨vs, H2, I3, rv, q2⟩ => ⟨I3.kIn, ?_⟩) hst hpl
  exact call_def F hb hx hr I3 rv q2
end
end Bd

set_option Elab.async false
set_option linter.all false
set_option maxRecDepth 100000
set_option maxHeartbeats 4000000
/-! What the start leaves, with defs that stand behind a property or a staticmethod. -/
namespace Bd
open PySem PySem.Spec PyProof.Rows L2
/-- the part of the heap that is looked at -/
def fragY (n : Nat) (g : Addr → Option Obj) : PySem.W.Frag := He.frG g (He.asD g n ++ [cStatics])
/-- all that is told of it -/
structure SaysY (fa : List He.Fa) (fn : List He.DefD) (ex : PySem.W.Frag → Bool) (fx : List He5.DefA) (K : PySem.W.Frag) : Prop where
  d : He.SaysD fa fn K
  more : ex K = true
  fns : (fx.map fun z => He5.fnA K (z.at_ K)) = fx.map He5.DefA.val
  oks : (fx.all fun z => z.ok K) = true
abbrev TellY : Type := He.AlD × (Bool × (List He5.FnW × Bool))
def tellY (fa : List He.Fa) (fn : List He.DefD) (ex : PySem.W.Frag → Bool) (fx : List He5.DefA) (K : PySem.W.Frag) : TellY := (He.obsD fa fn K, ex K, fx.map (fun z => He5.fnA K (z.at_ K)), fx.all fun z => z.ok K)
def wantY (fn : List He.DefD) (fx : List He5.DefA) : TellY := (He.valD fn, true, fx.map He5.DefA.val, true)
theorem saysY {fa : List He.Fa} {fn : List He.DefD} {ex : PySem.W.Frag → Bool} {fx : List He5.DefA} {K : PySem.W.Frag} (e : tellY fa fn ex fx K = wantY fn fx) : SaysY fa fn ex fx K :=
  ⟨congrArg (fun z : TellY => z.1) e, congrArg (fun z : TellY => z.2.1) e, congrArg (fun z : TellY => z.2.2.1) e, congrArg (fun z : TellY => z.2.2.2) e⟩
def hookY (n : Nat) (fa : List He.Fa) (fn : List He.DefD) (ex : PySem.W.Frag → Bool) (fx : List He5.DefA) : PySem.W.Hook where
  α := TellY
  obs := fun s => tellY fa fn ex fx (fragY n s.heap.get?)
  val := fun _ => wantY fn fx
  says := fun _ h => ∃ K : PySem.W.Frag, K.In h ∧ SaysY fa fn ex fx K
  of := fun _ _ e => ⟨_, He.frG_in, saysY e⟩
  keeps := fun _ _ _ ⟨K, hK, c⟩ k => ⟨K, PySem.W.Frag.In.keeps hK k, c⟩
def obsY (n : Nat) (fa : List He.Fa) (fn : List He.DefD) (ex : PySem.W.Frag → Bool) (fx : List He5.DefA) (g : Addr → Option Obj) : TellY := tellY fa fn ex fx (fragY n g)
theorem obsY_eq {n : Nat} {fa : List He.Fa} {fn : List He.DefD} {ex : PySem.W.Frag → Bool} {fx : List He5.DefA} {g : Addr → Option Obj} {s : Shared} (h : ∀ a, g a = s.heap.get? a) : obsY n fa fn ex fx g = (hookY n fa fn ex fx).obs s := by
  have e : g = s.heap.get? := funext h
  rw [e]
  rfl
/-- the i-th of these defs -/
theorem SaysY.def_ {fa : List He.Fa} {fn : List He.DefD} {ex : PySem.W.Frag → Bool} {fx : List He5.DefA} {K : PySem.W.Frag} (c : SaysY fa fn ex fx K) (i : Nat) {d : He5.DefA} (h : fx[i]? = some d) :
    ∃ fd, FunD K d.name d.qual d.params d.body d.scope (d.dvs K) (d.kws K) (d.at_ K) fd := by
  have e : (fx.map fun z => He5.fnA K (z.at_ K))[i]? = (fx.map He5.DefA.val)[i]? := by rw [c.fns]
  rw [List.getElem?_map, List.getElem?_map, h] at e
  exact He5.DefA.funD (Option.some.inj e) (List.all_eq_true.mp c.oks d (List.mem_of_getElem? h))
/-- the def behind a record -/
abbrev pAd (K : PySem.W.Frag) (c m : Str) : Addr := He5.wf K (He.ga K c) "property" m
abbrev sAd (K : PySem.W.Frag) (c m : Str) : Addr := He5.wf K (He.ga K c) "staticmethod" m
def recB (K : PySem.W.Frag) (p g : Addr) (T : String) : Bool := match PySem.W.recIn K p T with
  | some (.ref f :: _) => decide (f = g)
  | _ => false
theorem recB_ok {K : PySem.W.Frag} {p g : Addr} {T : String} (h : recB K p g T = true) : ∃ rest, PySem.W.recIn K p T = some (.ref g :: rest) := by
  unfold recB at h
  split at h
  · rename_i f r e
    rw [e, of_decide_eq_true h]
    exact ⟨r, rfl⟩
  · cases h
def propB (K : PySem.W.Frag) (C : Addr) (m : Str) : Bool :=
  He.eqO (PySem.W.findIn K (.ref C) m) (some (some (.ref (He.ma K C m)))) && (He.eqO (PySem.W.specialIn K (.ref (He.ma K C m)) "__get__") (some (some (.builtin "property.__get__"))) &&
  (decide (PySem.W.takesIn K (.ref (He.ma K C m)) = some true) && recB K (He.ma K C m) (He5.wf K C "property" m) "property"))
theorem propB_ok {K : PySem.W.Frag} {C : Addr} {m : Str} (h : propB K C m = true) : PropOf K C m (He.ma K C m) (He5.wf K C "property" m) := by
  unfold propB at h
  simp only [Bool.and_eq_true] at h
  exact ⟨He.eqO_ok h.1, He.eqO_ok h.2.1, of_decide_eq_true h.2.2.1, recB_ok h.2.2.2⟩
def statB (K : PySem.W.Frag) (C : Addr) (m : Str) : Bool :=
  PySem.W.readsIn K C (.type "type") && (He.eqO (PySem.W.specialIn K (.ref C) "__getattribute__") (some (some (.builtin "type.__getattribute__"))) &&
  (He5.wrapB K C "staticmethod" "staticmethod.__get__" m && PySem.W.keepIn K (.ref (He5.wf K C "staticmethod" m))))
theorem statB_ok {K : PySem.W.Frag} {C : Addr} {m : Str} (h : statB K C m = true) : StatC K C m (He5.wf K C "staticmethod" m) := by
  unfold statB at h
  simp only [Bool.and_eq_true] at h
  obtain ⟨h1, h2⟩ := He5.wrapB_ok h.2.2.1
  exact ⟨h.1, He.eqO_ok h.2.1, ⟨_, h1, h2⟩, h.2.2.2⟩
end Bd

set_option Elab.async false
set_option linter.all false
set_option maxRecDepth 100000
set_option maxHeartbeats 4000000
/-! Rows and bundles as data; dicts with tuple keys, as rules of reading. -/
namespace Es
open PySem PySem.Spec PyProof.Rows L2 Bd Dj
theorem DS.keep {P : Program} {w : World} {K : PySem.W.Frag} {H H' : Hp} {a : Addr} {kvs : List (List Key × V)} (e : Same H H') (h : DS P w K H a kvs) : DS P w K H' a kvs := by
  obtain ⟨z, xs, h1, h2⟩ := h
  exact ⟨z, xs, e _ _ h1, h2.keeps fun b ys q => Rd.same_tup e q⟩
theorem DS.keepT {P : Program} {w : World} {K : PySem.W.Frag} {H H' : Hp} {a : Addr} {kvs : List (List Key × V)} (e : H' a = H a) (t : ∀ q ys, SqT K H q ys → SqT K H' q ys) (h : DS P w K H a kvs) : DS P w K H' a kvs := by
  obtain ⟨z, xs, h1, h2⟩ := h
  exact ⟨z, xs, e.trans h1, h2.keeps t⟩
theorem GX.of {P : Program} {w : World} {K : PySem.W.Frag} {H : Hp} {a kq : Addr} {p : Ast} {m : List (Ast × V)} (d : DS P w K H a (eD m)) (e : SqT K H kq [.str p.1, .int p.2]) : GX P w K H a (.ref kq) (valV (eD m) (eK p)) := ⟨eD m, eK p, kq, d, rfl, e, rfl⟩
theorem encR_nl (e : Ast × Int) : nl (encR e) = true := by simp [encR, nl, nlAll]
theorem encR_nd (e : Ast × Int) : nd (encR e) = true := by simp [encR, nd, ndAll]
theorem encR_nb (e : Ast × Int) : nb (encR e) = true := by simp [encR, nb, nbAll]
theorem encA_nl (e : Ast) : nl (encA e) = true := by simp [encA, nl, nlAll]
theorem encA_nd (e : Ast) : nd (encA e) = true := by simp [encA, nd, ndAll]
theorem encA_nb (e : Ast) : nb (encA e) = true := by simp [encA, nb, nbAll]
section
variable {K : PySem.W.Frag} {H : Hp}
theorem dpRow {x : V} {e : Ast × Int} (h : Dp K H x (encR e)) : ∃ z kq, x = .ref z ∧ SqT K H z [.ref kq, .int e.2] ∧ SqT K H kq [.str e.1.1, .int e.1.2] := by
  obtain ⟨z, u, v, rfl, hz, hu, hv⟩ := dp_pair h
  obtain ⟨kq, a, b, rfl, hk, ha, hb⟩ := dp_pair hu
  cases dp_str ha; cases dp_int hb; cases dp_int hv
  exact ⟨z, kq, rfl, hz, hk⟩
theorem rowDp {z kq : Addr} {p : Ast} {q : Int} (h : SqT K H z [.ref kq, .int q]) (k : SqT K H kq [.str p.1, .int p.2]) : Dp K H (.ref z) (encR (p, q)) := .tup h (.cons (.tup k (.cons (.str _) (.cons (.int _) .nil))) (.cons (.int _) .nil))
theorem astDp {kq : Addr} {p : Ast} (k : SqT K H kq [.str p.1, .int p.2]) : Dp K H (.ref kq) (encA p) := .tup k (.cons (.str _) (.cons (.int _) .nil))
theorem dpAst {x : V} {p : Ast} (h : Dp K H x (encA p)) : ∃ z, x = .ref z ∧ SqT K H z [.str p.1, .int p.2] := by
  obtain ⟨z, u, v, rfl, hz, hu, hv⟩ := dp_pair h
  cases dp_str hu; cases dp_int hv
  exact ⟨z, rfl, hz⟩
theorem rowAt {xs : List V} {R : List (Ast × Int)} {i : Nat} {x : V} (h : DpAll K H xs (R.map encR)) (hi : xs[i]? = some x) : ∃ z kq e, x = .ref z ∧ R[i]? = some e ∧ SqT K H z [.ref kq, .int e.2] ∧ SqT K H kq [.str e.1.1, .int e.1.2] := by
  obtain ⟨d, hd, hx⟩ := dpAll_at h hi
  obtain ⟨e, he, rfl⟩ := map_at hd
  obtain ⟨z, kq, rfl, h1, h2⟩ := dpRow hx
  exact ⟨z, kq, e, rfl, he, h1, h2⟩
theorem rowsLen {xs : List V} {R : List (Ast × Int)} (h : DpAll K H xs (R.map encR)) : xs.length = R.length := by rw [Rd.dpAll_len h, List.length_map]
theorem rowsOf : ∀ {zs : List (Addr × (Ast × V))} {R : List (Ast × Int)}, zs.map (·.2) = R.map (fun e => (e.1, V.int e.2)) →
    (∀ z ∈ zs, ∃ kq, H z.1 = some (.tup [.ref kq, z.2.2]) ∧ SqT K H kq [.str z.2.1.1, .int z.2.1.2]) → DpAll K H (zs.map fun z => V.ref z.1) (R.map encR)
  | [], [], _, _ => .nil
  | z :: zs, [], h, _ => by simp at h
  | [], e :: R, h, _ => by simp at h
  | z :: zs, e :: R, h, k => by
    simp only [List.map_cons, List.cons.injEq] at h
    obtain ⟨kq, h1, h2⟩ := k z List.mem_cons_self
    rw [h.1] at h1 h2
    exact .cons (rowDp (SqT.of h1) h2) (rowsOf h.2 fun y hy => k y (List.mem_cons_of_mem _ hy))
end
/-- the bundle at b has the rows N -/
def BdS (P : Program) (w : World) (K : PySem.W.Frag) (H : Hp) (b : Addr) (N : List (Ast × Int)) : Prop := ∃ dx r d xs, H b = some (.ins (He.ga K "Bundle") dx [("_quantities", .ref d), ("rows", .ref r)]) ∧ H r = some (.tup xs) ∧ DpAll K H xs (N.map encR) ∧ DS P w K H d (eD (N.map fun e => (e.1, V.int e.2))) ∧ Nrm N
theorem BdS.keep {P : Program} {w : World} {K : PySem.W.Frag} {H H' : Hp} {b : Addr} {N : List (Ast × Int)} (h : BdS P w K H b N) (e : Same H H') : BdS P w K H' b N := by
  obtain ⟨dx, r, d, xs, h1, h2, h3, h4, h5⟩ := h
  exact ⟨dx, r, d, xs, e _ _ h1, e _ _ h2, dpAll_same e h3, h4.keep e, h5⟩
theorem BdS.nrm {P : Program} {w : World} {K : PySem.W.Frag} {H : Hp} {b : Addr} {N : List (Ast × Int)} (h : BdS P w K H b N) : Nrm N := by
  obtain ⟨_, _, _, _, _, _, _, _, h⟩ := h; exact h
/-- what tells the quantity of an asset in a bundle's dict -/
theorem tot_of {p : Ast} : ∀ {N : List (Ast × Int)}, (N.map (·.1)).Nodup → (valV (N.map fun e => (e.1, V.int e.2)) p).getD (.int 0) = .int (tot N p)
  | [], _ => rfl
  | e :: N, h => by
    have h1 : e.1 ∉ N.map (·.1) := (List.nodup_cons.mp h).1
    have h2 := tot_of (p := p) (List.nodup_cons.mp h).2
    by_cases q : e.1 = p
    · have hz : tot N p = 0 := tot_none (by rw [← q]; exact h1)
      rw [List.map_cons, valV_pos q]
      show V.int e.2 = V.int (tot (e :: N) p)
      have : tot (e :: N) p = e.2 + tot N p := by show (if e.1 = p then e.2 else 0) + tot N p = _; rw [if_pos q]
      rw [this, hz, Int.add_zero]
    · rw [List.map_cons, valV_neg q, h2]
      have : tot (e :: N) p = tot N p := by show (if e.1 = p then e.2 else 0) + tot N p = _; rw [if_neg q, Int.zero_add]
      rw [this]
theorem has_of {p : Ast} : ∀ {N : List (Ast × Int)}, (N.map (·.1)).Nodup → (∀ e ∈ N, e.2 ≠ 0) → (valV (N.map fun e => (e.1, V.int e.2)) p).isSome = decide (tot N p ≠ 0)
  | [], _, _ => rfl
  | e :: N, h, z => by
    have h1 : e.1 ∉ N.map (·.1) := (List.nodup_cons.mp h).1
    have h2 := has_of (p := p) (List.nodup_cons.mp h).2 fun f hf => z f (List.mem_cons_of_mem _ hf)
    by_cases q : e.1 = p
    · have hz : tot N p = 0 := tot_none (by rw [← q]; exact h1)
      rw [List.map_cons, valV_pos q]
      have : tot (e :: N) p = e.2 + tot N p := by show (if e.1 = p then e.2 else 0) + tot N p = _; rw [if_pos q]
      rw [this, hz, Int.add_zero]
      exact (decide_eq_true (z e List.mem_cons_self)).symm
    · rw [List.map_cons, valV_neg q, h2]
      have : tot (e :: N) p = tot N p := by show (if e.1 = p then e.2 else 0) + tot N p = _; rw [if_neg q, Int.zero_add]
      rw [this]
/-- the same of the first i keys, each taken once -/
theorem rowsC_dp {K : PySem.W.Frag} {H : Hp} {ps : List (Addr × Ast)} (h : AsS K H ps) : DpAll K H (ps.map fun z => V.ref z.1) ((ps.map (·.2)).map encA) := by
  induction ps with
  | nil => exact .nil
  | cons z ps ih => exact .cons (astDp (h z List.mem_cons_self)) (ih fun y hy => h y (List.mem_cons_of_mem _ hy))
end Es
namespace Re
open PySem PySem.Spec PyProof.Rows L2 Bd Es
section
variable {P : Program} {w : World} {K : PySem.W.Frag} {σ : L2.St} {H : Hp} {Q : VK} {td ty tx tv : TE} {n b c : L2.St → Hp → Prop} {r : VK}
theorem itemsX (k : td σ H fun x H1 => ∃ a kvs, x = .ref a ∧ DS P w K H1 a kvs ∧ ∀ p, H1 p = none → Q (.ref p) (upd H1 p (L2.DX.itemsO p a))) : tItemsX P w K td σ H Q := k
theorem dnewX (k : ∀ p, H p = none → DS P w K (upd H p (dX P w p [])) p [] → Q (.ref p) (upd H p (dX P w p []))) : tDNewX P w K σ H Q := k
theorem dget2X (k : td σ H fun x H1 => ∃ a, x = .ref a ∧ (∃ kvs, DS P w K H1 a kvs) ∧ ty σ H1 fun y H2 => tx σ H2 fun z H3 => ∃ o, GX P w K H3 a y o ∧ Q (o.getD z) H3) : tDGet2X P w K td ty tx σ H Q := k
theorem dgetX (k : td σ H fun x H1 => ty σ H1 fun y H2 => ∃ a v, x = .ref a ∧ GX P w K H2 a y (some v) ∧ Q v H2) : tDGetX P w K td ty σ H Q := k
theorem dinX (k : ty σ H fun y H1 => td σ H1 fun x H2 => ∃ a o, x = .ref a ∧ GX P w K H2 a y o ∧ Q (.bl o.isSome) H2) : tDInX P w K ty td σ H Q := k
theorem isX {a : Addr} {kvs : List (List Key × V)} {R : Addr → Prop} (h : DS P w K H a kvs) (k : R a) : ∃ a', V.ref a = .ref a' ∧ (∃ kvs, DS P w K H a' kvs) ∧ R a' := ⟨a, rfl, ⟨kvs, h⟩, k⟩
theorem dgetOX {a z : Addr} {m : List (Ast × V)} {p : Ast} {R : Option V → Prop} (h : DS P w K H a (eD m)) (hz : SqT K H z [.str p.1, .int p.2]) (k : R (valV m p)) : ∃ o, GX P w K H a (.ref z) o ∧ R o := ⟨_, GX.of h hz, by rw [valV_eD]; exact k⟩
theorem dgetSX {a z : Addr} {m : List (Ast × V)} {p : Ast} {v : V} {R : V → Prop} (h : DS P w K H a (eD m)) (hz : SqT K H z [.str p.1, .int p.2]) (e : valV m p = some v) (k : R v) : ∃ a' v', V.ref a = .ref a' ∧ GX P w K H a' (.ref z) (some v') ∧ R v' :=
  ⟨a, v, rfl, by rw [← e, ← valV_eD]; exact GX.of h hz, k⟩
theorem dputX (k : tv σ H fun v H1 => td σ H1 fun x H2 => ty σ H2 fun y H3 => ∃ a kvs k b, x = .ref a ∧ y = .ref b ∧ DS P w K H3 a kvs ∧ kvs.length < sizeLine ∧
  SqT K H3 b (k.map kV) ∧ ∀ ys, DS P w K (upd H3 a (dX P w a ys)) a (putK kvs k v) → n σ (upd H3 a (dX P w a ys))) : sDPutX P w K td ty tv ⟨n, r, b, c⟩ σ H := k
theorem dcTX {wi : TI} {g : TG} {tt : TT} {tk : TE} {vs : List Nat} (k : wi σ H fun J H1 => DcX P w K g tt tk tv vs σ Q J H1) : tDcX P w K wi g tt tk tv vs σ H Q := k
theorem dcLX {a : Addr} {xs : List V} {g : TG} {tt : TT} {tk : TE} {vs : List Nat} {H1 : Hp} (Pv : Addr → Nat → Hp → Prop) (h : SqL K H1 a xs) (h0 : ∀ D, H1 D = none → DS P w K (upd H1 D (dX P w D [])) D [] → Pv D 0 (upd H1 D (dX P w D [])))
    (hl : ∀ D i H, i ≤ xs.length → Pv D i H → SqL K H a xs)
    (hs : ∀ D i x H, H1 D = none → xs[i]? = some x → Pv D i H → g x (wipe σ vs) H fun σ2 H2 => wipe σ2 vs = wipe σ vs ∧ tt σ2 H2 fun t H3 =>
      if t = true then tk σ2 H3 fun y H4 => tv σ2 H4 fun z H5 => ∃ kvs k b, y = .ref b ∧ SqT K H5 b (k.map kV) ∧ DS P w K H5 D kvs ∧ kvs.length < sizeLine ∧
        (∀ ys, DS P w K (upd H5 D (dX P w D ys)) D (putK kvs k z) → Pv D (i + 1) (upd H5 D (dX P w D ys))) else Pv D (i + 1) H3)
    (hd : ∀ D H, H1 D = none → Pv D xs.length H → Q (.ref D) H) : ∃ p, V.ref a = .ref p ∧ (∃ ys, SqL K H1 p ys) ∧ DcX P w K g tt tk tv vs σ Q (Itl K p) H1 := by
  refine ⟨a, rfl, ⟨_, h⟩, fun D hD => ⟨fun i m H => m = xs.length - i ∧ i ≤ xs.length ∧ Pv D i H, ⟨xs.length, by simp, Nat.zero_le _, h0 D hD DS.nil⟩, ?_⟩⟩
  rintro i m H ⟨rfl, hi, p⟩
  have q := hl D i H hi p
  by_cases hlt : i < xs.length
  · refine .inr ⟨⟨xs, xs[i], q, by simp [hlt]⟩, Pv D (i + 1), fun H' p' => ⟨xs.length - (i + 1), by omega, rfl, hlt, p'⟩, fun x H' y => ?_⟩
    obtain ⟨e, y⟩ := y
    subst e
    exact hs D i x _ hD (y xs q) p
  · have e : i = xs.length := by omega
    subst e
    refine .inl ⟨⟨xs, q, Nat.le_refl _⟩, hd D H hD p⟩
end
end Re
namespace Re
open PySem PySem.Spec PyProof.Rows L2 Bd Es
theorem cxP {CX : CXT} {P : Program} {w : World} {K : PySem.W.Frag} {mg : Str → Option Value} {base : Heap} {N : List Str} {q : Str} {sc : Scope} {f : Addr} {cdv : Value} {A : Around} {outer : List Env} {s : Shared} {H : Hp} {E : XK} : (cxOf CX P w K mg base N q sc f cdv A outer s H E).prog = P := rfl
theorem cxW {CX : CXT} {P : Program} {w : World} {K : PySem.W.Frag} {mg : Str → Option Value} {base : Heap} {N : List Str} {q : Str} {sc : Scope} {f : Addr} {cdv : Value} {A : Around} {outer : List Env} {s : Shared} {H : Hp} {E : XK} : (cxOf CX P w K mg base N q sc f cdv A outer s H E).w = w := rfl
end Re
namespace Es
open PySem PySem.Spec PyProof.Rows L2 Bd Dj
section
variable {P : Program} {w : World} {K : PySem.W.Frag} {H H' : Hp} {b : Addr}
/-- all but what stands at b -/
def Beside (b : Addr) (H H' : Hp) : Prop := ∀ a o, a ≠ b → H a = some o → H' a = some o
theorem Beside.sqT {C dx : Addr} {fs : List (Str × V)} (e : Beside b H H') (hb : H b = some (.ins C dx fs)) {a : Addr} {xs : List V} (h : SqT K H a xs) : SqT K H' a xs := by
  rcases h with (h | ⟨o, h⟩) | h
  · exact .inl (.inl (e _ _ (fun q => by rw [q, hb] at h; cases h) h))
  · exact .inl (.inr ⟨o, e _ _ (fun q => by rw [q, hb] at h; cases h) h⟩)
  · exact .inr h
theorem Beside.sqL {C dx : Addr} {fs : List (Str × V)} (e : Beside b H H') (hb : H b = some (.ins C dx fs)) {a : Addr} {xs : List V} (h : SqL K H a xs) : SqL K H' a xs := by
  rcases h with (h | ⟨o, h⟩) | h
  · exact .inl (.inl (e _ _ (fun q => by rw [q, hb] at h; cases h) h))
  · exact .inl (.inr ⟨o, e _ _ (fun q => by rw [q, hb] at h; cases h) h⟩)
  · exact .inr h
theorem Beside.dp {C dx : Addr} {fs : List (Str × V)} (e : Beside b H H') (hb : H b = some (.ins C dx fs)) : ∀ {x : V} {d : PyData}, Dp K H x d → Dp K H' x d
  | _, _, .non => .non
  | _, _, .bl b => .bl b
  | _, _, .int i => .int i
  | _, _, .str x => .str x
  | _, _, .lst h a => .lst (e.sqL hb h) (go e hb a)
  | _, _, .tup h a => .tup (e.sqT hb h) (go e hb a)
where go {C dx : Addr} {fs : List (Str × V)} (e : Beside b H H') (hb : H b = some (.ins C dx fs)) : ∀ {xs : List V} {ds : List PyData}, DpAll K H xs ds → DpAll K H' xs ds
  | _, _, .nil => .nil
  | _, _, .cons h t => .cons (Beside.dp e hb h) (go e hb t)
theorem Beside.dpAll {C dx : Addr} {fs : List (Str × V)} (e : Beside b H H') (hb : H b = some (.ins C dx fs)) {xs : List V} {ds : List PyData} (h : DpAll K H xs ds) : DpAll K H' xs ds := Beside.dp.go e hb h
end
/-- what isinstance and != ask of a class -/
structure IsX (K : PySem.W.Frag) (C : Addr) : Prop where
  isc : C8.InsC K C
  ne : PySem.W.findIn K (.ref C) "__ne__" = some (some (.builtin "object.__ne__"))
  ob : PySem.W.subIn K (.ref C) (.type "object") = some true
theorem IsX.mk' {K : PySem.W.Frag} {C : Addr} (c : Cls K C) (h : exE K C = true) : IsX K C := by
  unfold exE at h
  simp only [Bool.and_eq_true] at h
  obtain ⟨h1, h2, h3, h4, h5, h6, h7⟩ := h
  exact ⟨⟨c, He.eqO_ok h1, of_decide_eq_true h2, of_decide_eq_true h3, of_decide_eq_true h4, of_decide_eq_true h5⟩, He.eqO_ok h6, of_decide_eq_true h7⟩
end Es
namespace Re
open PySem PySem.Spec PyProof.Rows L2 Bd Es
section
variable {P : Program} {w : World} {K : PySem.W.Frag} {σ : L2.St} {H : Hp} {Q : VK} {E : XK} {ta : TE} {t : TA} {C a dx : Addr} {fs : List (Str × V)} {m : Str} {sp : Sp} {dvs : List V} {R : Prop}
theorem meth (k : ta σ H fun x H1 => ∃ a dx fs, x = .ref a ∧ H1 a = some (.ins C dx fs) ∧ fs.lookup m = none ∧ t σ H1 fun vs H2 => sp (x :: (vs ++ dvs)) H2 Q E) : tMeth C m sp dvs E ta t σ H Q := k
theorem prop (k : ta σ H fun x H1 => ∃ a dx fs, x = .ref a ∧ H1 a = some (.ins C dx fs) ∧ sp (.ref a :: dvs) H1 Q E) : tProp C sp dvs E ta σ H Q := k
theorem stat (k : ta σ H fun x H1 => x = .ref C ∧ t σ H1 fun vs H2 => sp vs H2 Q E) : tStat C sp E ta t σ H Q := k
theorem statC {x : V} (k : R) (e : x = .ref C) : x = .ref C ∧ R := ⟨e, k⟩
/-- an object that is told: its method, its property -/
theorem methI (h : H a = some (.ins C dx fs)) (l : fs.lookup m = none) (k : R) : ∃ a' dx' fs', V.ref a = .ref a' ∧ H a' = some (.ins C dx' fs') ∧ fs'.lookup m = none ∧ R := ⟨a, dx, fs, rfl, h, l, k⟩
theorem propI {S : Addr → Prop} (h : H a = some (.ins C dx fs)) (k : S a) : ∃ a' dx' fs', V.ref a = .ref a' ∧ H a' = some (.ins C dx' fs') ∧ S a' := ⟨a, dx, fs, rfl, h, k⟩
theorem bd_ins {b : Addr} {N : List (Ast × Int)} (h : BdS P w K H b N) : ∃ dx fs, H b = some (.ins (He.ga K "Bundle") dx fs) ∧ ∃ u v : V, fs = [(("_quantities" : Str), u), (("rows" : Str), v)] := by
  obtain ⟨dx, r, d, xs, h1, _⟩ := h
  exact ⟨dx, _, h1, _, _, rfl⟩
theorem methB {b : Addr} {N : List (Ast × Int)} (h : BdS P w K H b N) (n : ("_quantities" : Str) ≠ m ∧ ("rows" : Str) ≠ m) (k : R) : ∃ a' dx' fs', V.ref b = .ref a' ∧ H a' = some (.ins (He.ga K "Bundle") dx' fs') ∧ fs'.lookup m = none ∧ R := by
  obtain ⟨dx, fs, h1, u, v, rfl⟩ := bd_ins h
  exact ⟨b, dx, _, rfl, h1, by simp [List.lookup, beq_eq_false_iff_ne.mpr (Ne.symm n.1), beq_eq_false_iff_ne.mpr (Ne.symm n.2)], k⟩
theorem propB {b : Addr} {N : List (Ast × Int)} {S : Addr → Prop} (h : BdS P w K H b N) (k : S b) : ∃ a' dx' fs', V.ref b = .ref a' ∧ H a' = some (.ins (He.ga K "Bundle") dx' fs') ∧ S a' := by
  obtain ⟨dx, fs, h1, _⟩ := bd_ins h
  exact ⟨b, dx, _, rfl, h1, k⟩
theorem own2B {b c : Addr} {N M : List (Ast × Int)} (h : BdS P w K H b N) (h' : BdS P w K H c M) (k : sp [.ref b, .ref c] H Q E) : rOwn2 (He.ga K "Bundle") sp E (.ref b) (.ref c) H Q := by
  obtain ⟨dx, fs, h1, _⟩ := bd_ins h
  obtain ⟨dy, gs, h2, _⟩ := bd_ins h'
  exact ⟨b, c, dx, dy, fs, gs, rfl, rfl, h1, h2, k⟩
theorem own1B {b : Addr} {N : List (Ast × Int)} (h : BdS P w K H b N) (k : sp [.ref b] H Q E) : rOwn1 (He.ga K "Bundle") sp E (.ref b) H Q := by
  obtain ⟨dx, fs, h1, _⟩ := bd_ins h
  exact ⟨b, dx, fs, rfl, h1, k⟩
theorem rowsB {b : Addr} {N : List (Ast × Int)} {f : V → Prop} (h : BdS P w K H b N) (c : Cls K (He.ga K "Bundle")) (n : NoAttr K (He.ga K "Bundle") "rows") (k : ∀ r xs, H r = some (.tup xs) → DpAll K H xs (N.map encR) → f (.ref r)) :
    ∃ a' C' dx' fs' v', V.ref b = .ref a' ∧ H a' = some (.ins C' dx' fs') ∧ Cls K C' ∧ NoAttr K C' "rows" ∧ fs'.lookup ("rows" : Str) = some v' ∧ f v' := by
  obtain ⟨dx, r, d, xs, h1, h2, h3, _⟩ := h
  exact ⟨b, _, dx, _, _, rfl, h1, c, n, rfl, k r xs h2 h3⟩
theorem catT {a b : Addr} {xs ys : List V} (ha : SqT K H a xs) (hb : SqT K H b ys) (hl : xs.length + ys.length ≤ 100000) (k : ∀ p H', Same H H' → SqT K H' p (xs ++ ys) → Q (.ref p) H') : rCatA K (.ref a) (.ref b) H Q := Rb.catA ha hb hl k
end
end Re
namespace Re
open PySem PySem.Spec PyProof.Rows L2 Bd Es Dj
section
variable {K : PySem.W.Frag} {H : Hp} {Q : VK} {a b : Addr} {x y : Str} {i j : Int}
theorem neAst (h1 : SqT K H a [.str x, .int i]) (h2 : SqT K H b [.str y, .int j]) (o1 : OkA (x, i)) (o2 : OkA (y, j)) (k : Q (.bl (!decide ((x, i) = (y, j)))) H) : rNeD K (.ref a) (.ref b) H Q :=
  ⟨encA (x, i), encA (y, j), astDp h1, astDp h2, encA_shaped o1, encA_shaped o2, by rw [encA_eqv]; exact k⟩
theorem eqAst (h1 : SqT K H a [.str x, .int i]) (h2 : SqT K H b [.str y, .int j]) (o1 : OkA (x, i)) (o2 : OkA (y, j)) (k : Q (.bl (decide ((x, i) = (y, j)))) H) : rEqD K (.ref a) (.ref b) H Q :=
  ⟨encA (x, i), encA (y, j), astDp h1, astDp h2, encA_shaped o1, encA_shaped o2, by rw [encA_eqv]; exact k⟩
end
end Re
namespace Es
open PySem Bd
theorem fm_no {α β : Type} (f : α → β) (p : α → Prop) [DecidablePred p] : ∀ N : List α, N.filterMap (fun e => if p e then none else some (f e)) = (N.filter fun e => !decide (p e)).map f
  | [] => rfl
  | a :: N => by
    have ih := fm_no f p N
    by_cases h : p a <;> simp [List.filterMap_cons, List.filter_cons, h, ih]
theorem fm_yes {α β : Type} (f : α → β) (p : α → Prop) [DecidablePred p] : ∀ N : List α, N.filterMap (fun e => if p e then some (f e) else none) = (N.filter fun e => decide (p e)).map f
  | [] => rfl
  | a :: N => by
    have ih := fm_yes f p N
    by_cases h : p a <;> simp [List.filterMap_cons, List.filter_cons, h, ih]
end Es
namespace Es
open PySem PySem.Spec PyProof.Rows L2 Bd Dj
theorem asS_of {K : PySem.W.Frag} {H : Hp} : ∀ {xs : List V} {A : List Ast}, DpAll K H xs (A.map encA) → ∃ ps : List (Addr × Ast), xs = ps.map (fun z => V.ref z.1) ∧ ps.map (·.2) = A ∧ AsS K H ps
  | _, [], .nil => ⟨[], rfl, rfl, fun _ h => absurd h List.not_mem_nil⟩
  | _, p :: A, .cons h t => by
    obtain ⟨z, rfl, hz⟩ := dpAst h
    obtain ⟨ps, rfl, h2, h3⟩ := asS_of t
    refine ⟨(z, p) :: ps, rfl, by rw [List.map_cons, h2], fun y hy => ?_⟩
    rcases List.mem_cons.mp hy with rfl | hy
    · exact hz
    · exact h3 y hy
section
variable {X : Cx}
/-- sorted(xs), xs a list of assets -/
def rSortedSS (K : PySem.W.Frag) : List V → Hp → VK → Prop := fun vs H Q => ∃ (a : Addr) (xs : List V) (A : List Ast), vs = [.ref a] ∧ SqL K H a xs ∧ DpAll K H xs (A.map encA) ∧
  ∀ (B : List Ast) (ys : List V) (p : Addr), B.Perm A → SrtO.Srtd ltSI B → H p = none → DpAll K H ys (B.map encA) → Q (.ref p) (upd H p (.lst ys))
theorem cr_sortedSS : CallR X (.builtin "sorted") (rSortedSS X.K) := by
  intro pins s σ H xs us Q I r q
  obtain ⟨a, xs0, A, rfl, hs, hA0, q⟩ := q
  obtain ⟨ps0, rfl, rfl, hA⟩ := asS_of hA0
  obtain ⟨its, rv, hl, hz⟩ := I.list hs
  obtain ⟨u, rfl, ru⟩ := vals1 r
  obtain rfl : u = Value.ref a := ru
  have eb : its = ps0.map fun z => Value.ref z.1 := by
    have h1 : ∀ {ps : List (Addr × (Str × Int))} {us : List Value}, Vals (ps.map fun z => V.ref z.1) us → us = ps.map fun z => Value.ref z.1 := by
      intro ps
      induction ps with
      | nil => intro us h; cases h; rfl
      | cons z ps ih =>
        intro us h
        rw [List.map_cons] at h
        cases h with
        | cons h t => rw [ih t, List.map_cons, show _ = Value.ref z.1 from h]
    exact h1 rv
  have hsi : ∀ v ∈ its, IsSI s.heap v (siOf s.heap v) := fun v hv => by
    rw [eb] at hv
    obtain ⟨zz, hz, rfl⟩ := List.mem_map.mp hv
    have q := isSI_C I (hA zz hz)
    rw [q.of]; exact q
  refine SrtO.sorted_ord (ltv := fun v u => ltSI (siOf s.heap v) (siOf s.heap u)) (swo_SI (siOf s.heap)) hl.isList (by rw [← rv.length]; exact hz) (fun h2 h₁ a' ha' kk => ?_) fun out h1 h2 => ?_
  · refine si_sortable (s := { s with heap := h₁ }) (by omega) (fun v hm => (hsi v hm).keeps fun b o e _ => (kk b o e).2) fun o e => ?_
    have e' : some o = some (seqObj "list" its.toArray 0) := e.symm.trans ha'
    cases e'
    intro c
    exact absurd (Value.type.inj c) (by decide)
  · obtain ⟨ps, b1, b2⟩ := perm_lift (fun z : Addr × (Str × Int) => Value.ref z.1) h2.perm ps0 eb.symm
    have hAs : AsS X.K H ps := fun z hz => hA z (b1.mem_iff.mp hz)
    have hk2 : ∀ z ∈ ps, siOf s.heap (Value.ref z.1) = z.2 := fun z hz => (isSI_C I (hAs z hz)).of
    have hsr : SrtO.Srtd ltSI (ps.map (·.2)) := by
      rw [← b2] at h1
      have h1' := List.pairwise_map.mp h1
      refine List.pairwise_map.mpr (h1'.imp_of_mem fun {x y} hx hy hh => ?_)
      have hh' : ltSI (siOf s.heap (Value.ref y.1)) (siOf s.heap (Value.ref x.1)) = false := hh
      rw [hk2 x hx, hk2 y hy] at hh'
      exact hh'
    have hd : s.heap.objs.size ≤ s.heap.objs.size + 1 := Nat.le_succ _
    obtain ⟨n, hn⟩ := sortedAll_at s.heap its out.toArray
    refine ⟨.ref (s.heap.objs.size + 1), upd H (s.heap.objs.size + 1) (.lst (ps.map fun z => V.ref z.1)), I.laid (t' := s.toks) (fun b o e => sortedAll_old e) hd ⟨?_, out, n, ?_, hn⟩, rfl, q (ps.map (·.2)) _ _ (b1.map _) hsr (I.hok.fresh hd) (rowsC_dp hAs)⟩
    · rw [List.length_map] at hz ⊢; rw [b1.length_eq]; exact hz
    · rw [← b2]
      have := vals_refs (ps.map (·.1))
      rw [List.map_map, List.map_map] at this
      exact this
end
end Es
namespace Re
open PySem PySem.Spec PyProof.Rows L2 Bd Es Dj
theorem notInAst {K : PySem.W.Frag} {H : Hp} {Q : VK} {a b : Addr} {x : Str} {i : Int} {xs : List V} {A : List Ast} (h1 : SqT K H a [.str x, .int i]) (h2 : SqL K H b xs) (hA : DpAll K H xs (A.map encA)) (o1 : OkA (x, i)) (o2 : ∀ p ∈ A, OkA p) (k : Q (.bl (!decide ((x, i) ∈ A))) H) : rNotInD K (.ref a) (.ref b) H Q :=
  ⟨encA (x, i), A.map encA, astDp h1, .lst h2 hA, encA_shaped o1, encAs_shaped o2, by rw [encA_any]; exact k⟩
end Re
namespace Re
open PySem PySem.Spec PyProof.Rows L2 Bd Es Dj
theorem inOwnB {P : Program} {w : World} {K : PySem.W.Frag} {H : Hp} {Q : VK} {E : XK} {sp : Sp} {x : V} {b : Addr} {N : List (Ast × Int)} (h : BdS P w K H b N) (k : sp [.ref b, x] H (fun v H' => ∃ t, v = .bl t ∧ Q (.bl t) H') E) : rInOwn (He.ga K "Bundle") sp E x (.ref b) H Q := by
  obtain ⟨dx, fs, h1, _⟩ := bd_ins h
  exact ⟨b, dx, fs, rfl, h1, k⟩
theorem boolOwnB {P : Program} {w : World} {K : PySem.W.Frag} {H : Hp} {Q : VK} {E : XK} {sp : Sp} {b : Addr} {N : List (Ast × Int)} (h : BdS P w K H b N) (k : sp [.ref b] H (fun v H' => ∃ t, v = .bl t ∧ Q (.bl t) H') E) : rBoolOwn (He.ga K "Bundle") sp E [.ref b] H Q := by
  obtain ⟨dx, fs, h1, _⟩ := bd_ins h
  exact ⟨b, dx, fs, rfl, h1, k⟩
end Re
namespace Re
open PySem PySem.Spec PyProof.Rows L2 Bd Es Dj
theorem fldK {K : PySem.W.Frag} {H : Hp} {R : V → Prop} {a C dx : Addr} {fs : List (Str × V)} {f : Str} {v : V} (h : H a = some (.ins C dx fs)) (c : Cls K C) (n : NoAttr K C f) (l : fs.lookup f = some v) (k : R v) :
    ∃ a' C' dx' fs' v', V.ref a = .ref a' ∧ H a' = some (.ins C' dx' fs') ∧ Cls K C' ∧ NoAttr K C' f ∧ fs'.lookup f = some v' ∧ R v' := ⟨a, C, dx, fs, v, rfl, h, c, n, l, k⟩
end Re
namespace Es
open PySem PySem.Spec PyProof.Rows L2 Bd Dj
theorem astAt {K : PySem.W.Frag} {H : Hp} {xs : List V} {A : List Ast} {i : Nat} (h : DpAll K H xs (A.map encA)) (hi : i < A.length) : ∃ z p, atI xs (i : Int) = some (.ref z) ∧ A[i]? = some p ∧ p ∈ A ∧ SqT K H z [.str p.1, .int p.2] := by
  have hl : xs.length = A.length := by rw [Rd.dpAll_len h, List.length_map]
  have h1 : xs[i]? = some xs[i] := List.getElem?_eq_getElem (by omega)
  obtain ⟨d, hd, hx⟩ := dpAll_at h h1
  obtain ⟨p, hp, rfl⟩ := map_at hd
  obtain ⟨z, hz0, hz⟩ := dpAst hx
  exact ⟨z, p, atI_nat (h1.trans (by rw [hz0])), hp, List.mem_of_getElem? hp, hz⟩
theorem strOk_SS {l m : List Nat} (h : PyData.strOk (Rd.S l) = true) (k : PyData.strOk (Rd.S m) = true) : PyData.strOk (Rd.S (l ++ m)) = true := by rw [← Rd.S_app]; exact strOk_app h k
end Es

set_option Elab.async false
set_option linter.all false
set_option maxRecDepth 100000
/-! Texts of up to a million signs; a scanner over a text; the notation of values. -/
namespace Ez
open PySem PySem.Spec PyProof.Rows L2 Dj Es
theorem sz2 {n : Nat} (h : n ≤ 1000000) : n ≤ sizeLine := Nat.le_trans h (by decide)
section
variable {X : Cx} {K : PySem.W.Frag} {σ : L2.St} {H : Hp} {Q : VK}
def LeSK : R2 := fun x y H Q => ∃ i j : List Nat, x = .str (Rd.S i) ∧ y = .str (Rd.S j) ∧ Q (.bl (!decide (j < i))) H
theorem op_leS : OpR X (compareOp .LtE) LeSK := by
  intro pins s σ H x y v u Q I rx ry h
  obtain ⟨i, j, e1, e2, q⟩ := h
  exact op_le_str pins s σ H x y v u Q I rx ry ⟨_, _, e1, e2, by rw [Rd.S_tl, Rd.S_tl]; exact q⟩
theorem leS {i j : List Nat} (k : Q (.bl (!decide (j < i))) H) : LeSK (.str (Rd.S i)) (.str (Rd.S j)) H Q := ⟨i, j, rfl, rfl, k⟩
theorem ixS2 {l : List Nat} {i : Int} {c : Nat} (h : l.length ≤ 1000000) (a : atI l i = some c) (k : Q (.str (Rd.S [c])) H) : rIxS (.str (Rd.S l)) (.int i) H Q := ⟨Rd.S l, i, c, rfl, rfl, sz2 (by rw [Rd.S_len]; exact h), by rw [Rd.S_tl]; exact a, k⟩
theorem lenS2 {l : List Nat} (h : l.length ≤ 1000000) (k : Q (.int l.length) H) : Rd.LenSK [.str (Rd.S l)] H Q := ⟨_, rfl, sz2 (by rw [Rd.S_len]; exact h), by rw [Rd.S_len]; exact k⟩
theorem addS2 {l m : List Nat} (h : l.length + m.length ≤ 1000000) (k : Q (.str (Rd.S (l ++ m))) H) : Rd.AddSK (.str (Rd.S l)) (.str (Rd.S m)) H Q := ⟨_, _, rfl, rfl, sz2 (by rw [Rd.S_len, Rd.S_len]; exact h), by rw [Rd.S_app]; exact k⟩
theorem slS2 {l : List Nat} {a b : Nat} {i j : Int} (ha : i = a) (hb : j = b) (hl : l.length ≤ 1000000) (hab : a ≤ l.length) (k : Q (.str (Rd.S ((l.drop a).take (b - a)))) H) : rSlS (.str (Rd.S l)) (some i) (some j) H Q := by
  subst ha hb
  refine ⟨Rd.S l, rfl, sz2 (by rw [Rd.S_len]; exact hl), ?_⟩
  have e : cutS (Rd.S l) (some (a : Int)) (some (b : Int)) = Rd.S ((l.drop a).take (b - a)) := by
    unfold cutS
    rw [Rd.S_tl, Rd.S_len, HT.sIx_nat, HT.sIx_nat]
    show Rd.S _ = Rd.S _
    congr 1
    rw [Nat.min_eq_left hab]
    by_cases h : b ≤ l.length
    · rw [Nat.min_eq_left h]
    · rw [Nat.min_eq_right (by omega), List.take_of_length_le (by simp), List.take_of_length_le (by simp; omega)]
  rw [e]; exact k
/-- for sign in a text -/
theorem iS {te : TE} {R : It → Hp → Prop} (k : te σ H fun v H1 => ∃ x, v = .str x ∧ R (Its x) H1) : iStr te σ H R := k
theorem forS {l : List Nat} {j : Nat} {tb : TS} {n b c : L2.St → Hp → Prop} {r : VK} (Pv : Nat → L2.St → Hp → Prop) (h0 : Pv 0 σ H)
    (hs : ∀ (i : Nat) (x : Nat) (σ' : L2.St) (H' : Hp), l[i]? = some x → Pv i σ' H' → tb ⟨Pv (i + 1), r, n, Pv (i + 1)⟩ (σ'.set j (some (.str (Rd.S [x])))) H') (hd : ∀ σ' H', Pv l.length σ' H' → n σ' H') :
    ∃ x, V.str (Rd.S l) = V.str x ∧ Rd.ForJ (gName j) tb ⟨n, r, b, c⟩ σ (Its x) H := by
  refine ⟨_, rfl, fun i m σ H => m = l.length - i ∧ i ≤ l.length ∧ Pv i σ H, ⟨_, rfl, Nat.zero_le _, h0⟩, ?_⟩
  rintro i m σ' H' ⟨rfl, hi, p⟩
  have hz : (Rd.S l).cps.size = l.length := Rd.S_len l
  by_cases hlt : i < l.length
  · refine .inr ⟨by show i < (Rd.S l).cps.size; omega, Pv (i + 1), fun σ2 H2 p2 => ⟨l.length - (i + 1), by omega, rfl, hlt, p2⟩, ?_⟩
    rintro x H2 ⟨e, z, hz2, rfl⟩
    subst e
    have hz3 : l[i]? = some z := by
      have : (Rd.S l).cps[i]? = l[i]? := by show l.toArray[i]? = l[i]?; simp
      rw [← this]; exact hz2
    exact hs i z σ' _ hz3 p
  · have e : i = l.length := by omega
    subst e
    exact .inl ⟨by show (Rd.S l).cps.size ≤ l.length; omega, hd _ _ p⟩
/-- sep.join(texts) -/
def JoinK (K : PySem.W.Frag) : V → List V → Hp → VK → Prop := fun x xs H Q => ∃ (a : List Nat) (p : Addr) (ys : List (List Nat)), x = .str (Rd.S a) ∧ xs = [.ref p] ∧ SqL K H p (ys.map fun y => V.str (Rd.S y)) ∧ (ys.map List.length).sum + ys.length * a.length ≤ 16777216 ∧ Q (.str (Rd.S (TL.joinL a ys))) H
theorem mt_joinK : MtR X "str.join" (JoinK X.K) := by
  intro pins s σ H x xs v us Q I rx rs h
  obtain ⟨a, p, ys, e1, e2, h1, h2, q⟩ := h
  refine mt_join pins s σ H x xs v us Q I rx rs ⟨Rd.S a, p, ys.map Rd.S, e1, e2, .inl (by rw [List.map_map]; exact h1), ?_, ?_⟩
  · rw [List.map_map, List.length_map, Rd.S_len]
    have e : (ys.map ((fun x : Str => x.length) ∘ Rd.S)) = ys.map List.length := List.map_congr_left fun y _ => Rd.S_len y
    rw [e]; exact h2
  · have e : Txt.join (Rd.S a) (ys.map Rd.S) = Rd.S (TL.joinL a ys) := SX.join_S a ys
    rw [e]; exact q
theorem pe_joinK {o e : Expr} {to te : TE} {apos pos : Pos} (ho : PE X o to) (he : PE X e te) (hs : starEach [e] X.env = [(false, eval e X.env)] := by rfl) (hbase : attributeBase o "join" X.env (eval o X.env) = eval o X.env := by rfl) (hline : (apos.endLine == pos.line) = true := by rfl) :
    PE X (.Call (.Attribute o "join" apos) [e] [] pos) (tM1 (JoinK X.K) to te) :=
  pe_m1 PySem.F.slot_str_join PySem.F.type_str_join mt_joinK ho he hs hbase hline
theorem joinR {r : V → List V → Hp → VK → Prop} {to te : TE} (k : to σ H fun x H1 => (∃ a, x = .str a) ∧ te σ H1 fun y H2 => r x [y] H2 Q) : tM1 r to te σ H Q := k
theorem strA {a : Str} {P : Prop} (k : P) : (∃ b, V.str a = .str b) ∧ P := ⟨⟨a, rfl⟩, k⟩
theorem joinS {a : List Nat} {p : Addr} {ys : List (List Nat)} (h : SqL K H p (ys.map fun y => V.str (Rd.S y))) (hz : (ys.map List.length).sum + ys.length * a.length ≤ 16777216) (k : Q (.str (Rd.S (TL.joinL a ys))) H) : JoinK K (.str (Rd.S a)) [.ref p] H Q := ⟨a, p, ys, rfl, rfl, h, hz, k⟩
/-- f-strings -/
theorem tJ0 {acc : Str} {Qs : Str → Hp → Prop} (k : Qs acc H) : tJs [] acc σ H Qs := k
theorem tJ1 {t : TE} {ts : List TE} {acc : Str} {Qs : Str → Hp → Prop} (k : t σ H fun x H1 => ∃ y : Str, x = .str y ∧ (acc ++ y).length ≤ sizeLine ∧ tJs ts (acc ++ y) σ H1 Qs) : tJs (t :: ts) acc σ H Qs := k
theorem fmt {te : TE} (k : te σ H fun x H1 => (∃ y : Str, x = .str y ∧ y.length ≤ sizeLine ∧ Q (.str y) H1) ∨ ∃ i : Int, x = .int i ∧ i.natAbs.log2 < 1920 ∧ Q (.str (toString i)) H1) : tFmt te σ H Q := k
/-- a field that grows -/
theorem fldAug {ta tv : TE} {rd : V → V → Hp → VK → Prop} {f : Str} {n b c : L2.St → Hp → Prop} {r : VK} (k : ta σ H fun x H1 => ∃ a C dx fs v, x = .ref a ∧ H1 a = some (.ins C dx fs) ∧ Cls K C ∧ NoAttr K C f ∧ fs.lookup f = some v ∧
  tv σ H1 fun y H2 => rd v y H2 fun z H3 => ∃ dx' fs', H3 a = some (.ins C dx' fs') ∧ fs'.length < 1000 ∧ n σ (upd H3 a (.ins C dx' (putF f z fs')))) : sFldAug K ta tv rd f ⟨n, r, b, c⟩ σ H := k
def OrdK : List V → Hp → VK → Prop := fun xs H Q => ∃ c : Nat, xs = [.str (Rd.S [c])] ∧ Q (.int (c : Int)) H
theorem call_ordK : CallR X (.builtin "ord") OrdK := by
  intro pins s σ H xs us Q I r h
  obtain ⟨c, e, q⟩ := h
  exact call_ord pins s σ H xs us Q I r ⟨Rd.S [c], e, rfl, q⟩
theorem ordS {c : Nat} (k : Q (.int (c : Int)) H) : OrdK [.str (Rd.S [c])] H Q := ⟨c, rfl, k⟩
/-- the greatest of a list -/
theorem maxL {a : Addr} {ns : List Int} (h : SqL K H a (ns.map V.int)) (hl : 0 < ns.length) (k : ∀ m, m ∈ ns → (∀ y, y ∈ ns → y ≤ m) → Q (.int m) H) : rMax K [.ref a] H Q := ⟨a, ns, rfl, h, hl, k⟩
end
theorem iteC {p : Prop} [Decidable p] {σ : L2.St} {H : Hp} {Q : VK} {a b : Int} (L : Int → Prop) (ha : p → L a) (hb : ¬ p → L b) (hQ : ∀ M, L M → Q (.int M) H) : if decide p = true then tC (.int a) σ H Q else tC (.int b) σ H Q := by
  by_cases h : p
  · rw [decide_eq_true h, if_pos rfl]; exact hQ a (ha h)
  · rw [decide_eq_false h, if_neg Bool.false_ne_true]; exact hQ b (hb h)
/-! the notation -/
def num (i : Int) : List Nat := if i < 0 then 45 :: TL.numL i.natAbs else TL.numL i.natAbs
mutual
def wr : PyData → List Nat
  | .bool b => [if b then 84 else 70]
  | .int i => num i
  | .str s => TL.numL s.cps.toList.length ++ 58 :: s.cps.toList
  | .tuple ds => 40 :: (TL.joinL [32] (wrl ds) ++ [41])
  | _ => [63]
def wrl : List PyData → List (List Nat)
  | [] => []
  | d :: ds => wr d :: wrl ds
end
def gs (l : List Nat) : Bool := decide (l.length ≤ 1000) && l.all fun c => decide (32 ≤ c) && decide (c ≤ 126) && !decide (c = 37)
mutual
def gd : PyData → Bool
  | .bool _ => true
  | .int i => decide (i.natAbs < 10 ^ 60)
  | .str s => gs s.cps.toList
  | .tuple ds => decide (ds.length ≤ 1000) && gds ds
  | _ => false
def gds : List PyData → Bool
  | [] => true
  | d :: ds => gd d && gds ds
end
theorem wrl_map : ∀ ds : List PyData, wrl ds = ds.map wr
  | [] => by simp only [wrl, List.map_nil]
  | d :: ds => by simp only [wrl, List.map_cons, wrl_map ds]
theorem gds_mem : ∀ {ds : List PyData}, gds ds = true ↔ ∀ d ∈ ds, gd d = true
  | [] => by simp [gds]
  | d :: ds => by simp only [gds, Bool.and_eq_true, List.mem_cons, forall_eq_or_imp, gds_mem (ds := ds)]
theorem gd_tup {ds : List PyData} (h : gd (.tuple ds) = true) : ds.length ≤ 1000 ∧ gds ds = true := by
  simp only [gd, Bool.and_eq_true] at h
  exact ⟨of_decide_eq_true h.1, h.2⟩
mutual
theorem gd_nl : ∀ {d : PyData}, gd d = true → nl d = true
  | .bool _, _ => rfl
  | .int _, _ => rfl
  | .str _, _ => rfl
  | .tuple ds, h => by simp only [gd, Bool.and_eq_true] at h; simp only [nl]; exact gds_nl h.2
  | .none, h => by simp [gd] at h
  | .list _, h => by simp [gd] at h
  | .dict _, h => by simp [gd] at h
theorem gds_nl : ∀ {ds : List PyData}, gds ds = true → nlAll ds = true
  | [], _ => rfl
  | d :: ds, h => by simp only [gds, Bool.and_eq_true] at h; simp only [nlAll, Bool.and_eq_true]; exact ⟨gd_nl h.1, gds_nl h.2⟩
end
theorem num_str (i : Int) : (Str.ofString (toString i)) = Rd.S (num i) := by
  unfold num
  by_cases h : i < 0
  · rw [if_pos h, PyProof.Rows.toString_neg h]
    obtain ⟨n, hn⟩ : ∃ n : Nat, 0 - i = (n : Int) := ⟨(-i).toNat, by omega⟩
    have hn2 : i.natAbs = n := by omega
    have e := SX.num_S n
    rw [hn, hn2]
    rw [Str.ofString_eq_toList] at e ⊢
    rw [String.toList_append, List.map_append]
    have e2 : ((toString (n : Int)).toList.map Char.toNat) = TL.numL n := SX.S_inj e
    rw [e2]
    rfl
  · rw [if_neg h]
    obtain ⟨n, rfl⟩ : ∃ n : Nat, i = (n : Int) := ⟨i.toNat, by omega⟩
    exact SX.num_S n

/-! the scanner -/
section
variable {K : PySem.W.Frag} {H H1 H2 : Hp} {s dx p : Addr} {t : List Nat} {i j : Nat} {o : HO}
abbrev scO (K : PySem.W.Frag) (dx : Addr) (t : List Nat) (i : Int) : HO := .ins (He.ga K "Scanner") dx [(("text" : Str), .str (Rd.S t)), (("at" : Str), .int i)]
abbrev Sc (K : PySem.W.Frag) (H : Hp) (s dx : Addr) (t : List Nat) (i : Nat) : Prop := H s = some (scO K dx t (i : Int))
structure Adv (K : PySem.W.Frag) (s dx : Addr) (t : List Nat) (i : Nat) (H H' : Hp) : Prop where
  keep : Beside s H H'
  sc : Sc K H' s dx t i
theorem Adv.refl (h : Sc K H s dx t i) : Adv K s dx t i H H := ⟨fun _ _ _ e => e, h⟩
theorem Adv.trans (a : Adv K s dx t i H H1) (b : Adv K s dx t j H1 H2) : Adv K s dx t j H H2 := ⟨fun x o h e => b.keep x o h (a.keep x o h e), b.sc⟩
theorem Adv.same (a : Adv K s dx t i H H1) (e : Same H1 H2) : Adv K s dx t i H H2 := ⟨fun x o h q => e _ _ (a.keep x o h q), e _ _ a.sc⟩
theorem Adv.new (a : Adv K s dx t i H H1) (hp : H1 p = none) : Adv K s dx t i H (upd H1 p o) := a.same (Rd.same_new hp)
theorem Adv.step (a : Adv K s dx t i H H1) {z : Int} (e : z = (j : Int)) : Adv K s dx t j H (upd H1 s (scO K dx t z)) := ⟨fun x o h q => (upd_ne h).trans (a.keep x o h q), by subst e; exact upd_same⟩
theorem Adv.step0 (h : Sc K H s dx t i) {z : Int} (e : z = (j : Int)) : Adv K s dx t j H (upd H s (scO K dx t z)) := (Adv.refl h).step e
theorem Adv.dp (a : Adv K s dx t j H H1) (h : Sc K H s dx t i) {x : V} {d : PyData} (q : Dp K H x d) : Dp K H1 x d := a.keep.dp h q
theorem Adv.dpAll (a : Adv K s dx t j H H1) (h : Sc K H s dx t i) {xs : List V} {ds : List PyData} (q : DpAll K H xs ds) : DpAll K H1 xs ds := a.keep.dpAll h q
/-- a list beside the scanner that grows -/
theorem Adv.at (a : Adv K s dx t j H H1) (h : Sc K H s dx t i) {xs : List V} (q : H p = some (.lst xs)) : H1 p = some (.lst xs) := a.keep _ _ (fun e => by subst e; have h2 := q.symm.trans h; cases h2) q
end
section
variable {K : PySem.W.Frag} {H H1 H2 : Hp} {s dx p : Addr} {t : List Nat} {i j : Nat} {o : HO}
theorem Adv.free (a : Adv K s dx t i H H1) (hp : H1 p = none) : H p = none := by
  cases e : H p with
  | none => rfl
  | some o =>
    by_cases q : p = s
    · subst q; have h2 := hp.symm.trans a.sc; cases h2
    · rw [a.keep _ _ q e] at hp; cases hp
theorem Adv.mut (a : Adv K s dx t i H H1) (hp : H p = none) (h : Sc K H s dx t j) : Adv K s dx t i H (upd H1 p o) := by
  have hne : s ≠ p := fun e => by subst e; have h2 := hp.symm.trans h; cases h2
  exact ⟨fun x o h e => by
    rw [upd_ne (fun q => by subst q; rw [hp] at e; cases e)]
    exact a.keep x o h e, (upd_ne hne).trans a.sc⟩
end
theorem augSc {K : PySem.W.Frag} {σ : L2.St} {H : Hp} {s dx : Addr} {t : List Nat} {i q : Nat} {n b c : L2.St → Hp → Prop} {r : VK} (hv : σ[q]? = some (some (.ref s))) (h : Sc K H s dx t i) (hc : Cls K (He.ga K "Scanner")) (hn : NoAttr K (He.ga K "Scanner") "at")
    (k : n σ (upd H s (scO K dx t ((i : Int) + 1)))) : sFldAug K (tVar q) (tC (.int 1)) rAdd "at" ⟨n, r, b, c⟩ σ H := by
  refine fldAug (Rd.var hv ⟨s, _, dx, _, _, rfl, h, hc, hn, rfl, ?_⟩)
  exact Rd.cst ⟨_, _, rfl, rfl, dx, _, h, by show 2 < 1000; decide, k⟩
theorem head_at {t r : List Nat} {i c : Nat} (h : t.drop i = c :: r) : t[i]? = some c ∧ i < t.length ∧ t.drop (i + 1) = r := by
  have h1 : i < t.length := by
    by_cases q : i < t.length
    · exact q
    · rw [List.drop_of_length_le (by omega)] at h; cases h
  refine ⟨?_, h1, ?_⟩
  · have := congrArg List.head? h
    rw [List.head?_drop] at this
    exact this
  · rw [← List.drop_drop, h]; rfl
theorem drop_app {t l r : List Nat} {i : Nat} (h : t.drop i = l ++ r) : t.drop (i + l.length) = r := by rw [← List.drop_drop, h, List.drop_left]
theorem drop_bd {t l r : List Nat} {i : Nat} (h : t.drop i = l ++ r) (hl : l ≠ []) : i + l.length ≤ t.length := by
  have e := congrArg List.length h
  rw [List.length_drop, List.length_append] at e
  have : 0 < l.length := List.length_pos_iff.mpr hl
  omega
def isd : List Nat → Bool
  | [] => false
  | c :: _ => decide (48 ≤ c) && decide (c ≤ 57)
theorem lt11 {a b : Nat} : (([a] : List Nat) < [b]) ↔ a < b := by simp [List.cons_lt_cons_iff]
theorem lt01 {b : Nat} : (([] : List Nat) < [b]) := by simp
theorem numL_head (n : Nat) : ∃ c r, TL.numL n = c :: r ∧ 48 ≤ c ∧ c ≤ 57 ∧ (0 < n → 49 ≤ c) ∧ (c = 48 → r = []) := by
  induction n using Nat.strongRecOn with
  | _ n ih =>
    by_cases h : n < 10
    · rw [TL.numL_lt h]
      exact ⟨48 + n, [], rfl, by omega, by omega, by omega, fun _ => rfl⟩
    · rw [TL.numL_step (by omega)]
      obtain ⟨c, r, e, h1, h2, h3, h4⟩ := ih (n / 10) (by omega)
      have h5 := h3 (by omega)
      exact ⟨c, r ++ [48 + n % 10], by rw [e]; rfl, h1, h2, fun _ => h5, by omega⟩
theorem numL_int {n : Nat} (h : n < 10 ^ 60) : PySem.intText? (Rd.S (TL.numL n)) = some (n : Int) ∧ (TL.numL n).length ≤ 60 := by
  have hl := TL.numL_len (n := n) (k := 60) (by decide) h
  have e := TL.int_num (n := n) (by omega)
  rw [SX.num_S] at e
  exact ⟨e, hl⟩
/-- what may stand behind a value -/
def stp (r : List Nat) : Prop := ∀ c l, r = c :: l → c = 32 ∨ c = 41
theorem stp_nil : stp [] := fun _ _ h => by cases h
theorem stp_32 (l : List Nat) : stp (32 :: l) := fun c l' h => by cases h; exact .inl rfl
theorem stp_41 (l : List Nat) : stp (41 :: l) := fun c l' h => by cases h; exact .inr rfl
/-- what stands behind a tuple's first item -/
def tlw : List PyData → List Nat
  | [] => []
  | e :: es => 32 :: (wr e ++ tlw es)
theorem wr_head {d : PyData} (h : gd d = true) : ∃ c l, wr d = c :: l ∧ c ≠ 32 ∧ c ≠ 41 := by
  cases d with
  | bool b => exact ⟨_, _, rfl, by cases b <;> decide, by cases b <;> decide⟩
  | int i =>
    simp only [wr, num]
    split
    · exact ⟨_, _, rfl, by decide, by decide⟩
    · obtain ⟨c, r, e, h1, h2, _⟩ := numL_head i.natAbs
      exact ⟨c, r, e, by omega, by omega⟩
  | str z =>
    obtain ⟨c, r, e, h1, h2, _⟩ := numL_head z.cps.toList.length
    exact ⟨c, r ++ 58 :: z.cps.toList, by simp only [wr, e, List.cons_append], by omega, by omega⟩
  | tuple ds => exact ⟨_, _, rfl, by decide, by decide⟩
  | none => simp [gd] at h
  | list _ => simp [gd] at h
  | dict _ => simp [gd] at h
theorem wr_tup (d : PyData) (ds : List PyData) : TL.joinL [32] (wrl (d :: ds)) = wr d ++ tlw ds := by
  induction ds generalizing d with
  | nil => simp [wrl, TL.joinL, tlw]
  | cons e es ih =>
    have h := ih e
    simp only [wrl] at h ⊢
    simp only [TL.joinL, tlw, h, List.cons_append, List.nil_append]
theorem stp_tlw (es : List PyData) (r : List Nat) : stp (tlw es ++ 41 :: r) := by
  cases es with
  | nil => exact stp_41 _
  | cons e es => exact stp_32 _
theorem stp_isd {r : List Nat} (h : stp r) : isd r = false := by
  cases r with
  | nil => rfl
  | cons c l =>
    have := h c l rfl
    show (decide (48 ≤ c) && decide (c ≤ 57)) = false
    rw [decide_eq_false (by omega : ¬ 48 ≤ c)]; rfl
theorem wr_neg {m : Nat} (h : 0 < m) : wr (.int (-(m : Int))) = 45 :: TL.numL m := by
  simp only [wr, num]
  rw [if_pos (by omega), Int.natAbs_neg, Int.natAbs_natCast]
theorem wr_nat {m : Nat} : wr (.int (m : Int)) = TL.numL m := by
  simp only [wr, num]
  rw [if_neg (by omega), Int.natAbs_natCast]
theorem gd_nat {m : Nat} (h : gd (.int (m : Int)) = true) : m < 10 ^ 60 := by
  simp only [gd] at h
  have := of_decide_eq_true h
  omega
theorem gd_neg {m : Nat} (h : gd (.int (-(m : Int))) = true) : m < 10 ^ 60 := by
  simp only [gd] at h
  have := of_decide_eq_true h
  omega
theorem gs_len {l : List Nat} (h : gs l = true) : l.length ≤ 1000 := by
  unfold gs at h
  rw [Bool.and_eq_true] at h
  exact of_decide_eq_true h.1
theorem appd2 {l : Addr} {xs : List V} {v : V} {H : Hp} {Q : VK} (h : H l = some (.lst xs)) (hz : xs.length < 1000000) (k : Q .non (upd H l (.lst (xs ++ [v])))) : rAppend (.ref l) [v] H Q := ⟨l, xs, v, rfl, rfl, h, Nat.lt_of_lt_of_le hz (by decide), k⟩
theorem len_tlw (es : List PyData) : es.length ≤ (tlw es).length := by
  induction es with
  | nil => simp
  | cons e es ih => simp only [tlw, List.length_cons, List.length_append]; omega
theorem wr_len (d : PyData) (ds : List PyData) : (wr (.tuple (d :: ds))).length = (wr d).length + (tlw ds).length + 2 := by
  simp only [wr, wr_tup, List.length_cons, List.length_append, List.length_nil]
theorem z60 {z : Int} (h : gd (.int z) = true) : z.natAbs.log2 < 1920 := by
  simp only [gd] at h
  have h2 := of_decide_eq_true h
  exact Nat.lt_of_lt_of_le (PySem.Flt.log2_lt_of (k := 200) (by decide) (Nat.lt_of_lt_of_le h2 (by decide))) (by decide)
theorem join_sum : ∀ ys : List (List Nat), (ys.map List.length).sum + ys.length ≤ (TL.joinL [32] ys).length + 1
  | [] => by simp [TL.joinL]
  | [y] => by simp [TL.joinL]
  | y :: z :: ys => by
    have := join_sum (z :: ys)
    simp only [TL.joinL, List.map_cons, List.sum_cons, List.length_cons, List.length_append, List.length_nil] at this ⊢
    omega
theorem join_mem {y : List Nat} : ∀ {ys : List (List Nat)}, y ∈ ys → y.length ≤ (TL.joinL [32] ys).length := fun {ys} h => by
  have h1 := join_sum ys
  have h2 : y.length ≤ (ys.map List.length).sum := by
    clear h1
    induction ys with
    | nil => cases h
    | cons z ys ih =>
      rcases List.mem_cons.mp h with rfl | h
      · simp only [List.map_cons, List.sum_cons]; omega
      · have := ih h; simp only [List.map_cons, List.sum_cons]; omega
  have h3 : 0 < ys.length := List.length_pos_of_mem h
  omega
theorem strI2 {z : Int} (h : gd (.int z) = true) {H : Hp} {Q : VK} (k : Q (.str (Rd.S (wr (.int z)))) H) : Rd.StrIK [.int z] H Q := Rd.strI (z60 h) (num_str z) k
theorem gdN {m : Nat} (h : m < 10 ^ 60) : gd (.int (m : Int)) = true := by simp only [gd]; exact decide_eq_true (by omega)
theorem strN {m : Nat} (h : m < 10 ^ 60) {H : Hp} {Q : VK} (k : Q (.str (Rd.S (TL.numL m))) H) : Rd.StrIK [.int (m : Int)] H Q := Rd.strI (z60 (gdN h)) (SX.num_S m) k
theorem dp_strs {K : PySem.W.Frag} {H : Hp} : ∀ {xs : List V} {ls : List PyData}, DpAll K H xs (ls.map fun d => .str (Rd.S (wr d))) → xs = (wrl ls).map fun y => V.str (Rd.S y)
  | _, [], .nil => rfl
  | _, l :: ls, .cons h t => by cases h; rw [dp_strs t]; simp only [wrl, List.map_cons]
section
variable {σ : L2.St} {H : Hp} {Q : VK}
theorem fmtI {R : Str → Prop} {m : Nat} (h : m < 10 ^ 60) (k : R (Rd.S (TL.numL m))) : (∃ y : Str, V.int (m : Int) = .str y ∧ y.length ≤ sizeLine ∧ R y) ∨ ∃ i : Int, V.int (m : Int) = .int i ∧ i.natAbs.log2 < 1920 ∧ R (toString i) :=
  .inr ⟨m, rfl, z60 (gdN h), by rw [SX.num_S m]; exact k⟩
theorem fmtS {R : Str → Prop} {l : List Nat} (h : l.length ≤ 1000000) (k : R (Rd.S l)) : (∃ y : Str, V.str (Rd.S l) = .str y ∧ y.length ≤ sizeLine ∧ R y) ∨ ∃ i : Int, V.str (Rd.S l) = .int i ∧ i.natAbs.log2 < 1920 ∧ R (toString i) :=
  .inl ⟨_, rfl, sz2 (by rw [Rd.S_len]; exact h), k⟩
theorem jS {ts : List TE} {Qs : Str → Hp → Prop} {a l : List Nat} (h : a.length + l.length ≤ 1000000) (k : tJs ts (Rd.S (a ++ l)) σ H Qs) : ∃ y : Str, V.str (Rd.S l) = .str y ∧ (Rd.S a ++ y).length ≤ sizeLine ∧ tJs ts (Rd.S a ++ y) σ H Qs :=
  ⟨_, rfl, by rw [Rd.S_app, Rd.S_len, List.length_append]; exact sz2 h, by rw [Rd.S_app]; exact k⟩
theorem jS0 {ts : List TE} {Qs : Str → Hp → Prop} {l : List Nat} (h : l.length ≤ 1000000) (k : tJs ts (Rd.S l) σ H Qs) : ∃ y : Str, V.str (Rd.S l) = .str y ∧ (Str.empty ++ y).length ≤ sizeLine ∧ tJs ts (Str.empty ++ y) σ H Qs := by
  have e : (Str.empty : Str) = Rd.S [] := rfl
  rw [e]
  exact jS (by simpa using h) k
end
end Ez

set_option Elab.async false
set_option linter.all false
set_option maxRecDepth 100000
set_option maxHeartbeats 4000000
/-! the end of a law whose numbers' bits are told; the weight of written values -/
namespace L2
open PySem PySem.Spec PyProof.Rows
theorem walk_ofEB {l : PySem.W.OpenLaw} {n k : Nat} {q : Program} {loose : List Str} {XP : (Str → Option Value) → Heap → Prop} {YP : World → Heap → Prop} {d : DefRec} {CX : CXT} {x : Str}
    (hn : l.most = some n) (hn2 : n ≤ sizeLine) (hdf : d.params.defaults = []) (hr : Room k callerA)
    (F : ∀ (w : World) (mg : Str → Option Value) (fa : Addr) (h : Heap), YP w h → h.Ns mainGlobals mg → mg d.name = some (.ref fa) →
      ∃ (K : PySem.W.Frag) (fd : FuncData) (sp : Sp), K.In h ∧ (∀ (s : Shared) (u : Value), BindsTo s fd ⟨[u], []⟩ [(x, u)]) ∧
        (∀ (H : Hp) (a : Addr) (ns : List Int), ns.length ≤ n → (∀ z ∈ ns, Builtin.Int.intBits z ≤ 1048576) → Only H → SqL K H a (ns.map V.int) → sp [.ref a] H (fun v _ => v = .bl true) fun _ _ _ => False) ∧
        ∀ base : Heap, K.In base → base.Ns mainGlobals mg → FnOk l.prog w K mg base CX k fa fd [x] sp)
    (hCX : ∀ (H : Hp) (s : Shared) (e : Value) (s' : Shared), CX [] H s (fun _ _ _ => False) e s' → False) :
    PySem.W.WalkO q loose XP YP l.row.toRowW d [] (fun f vs => PySem.call f vs) := by
  refine Att.attach_callB hn hdf fun w s₀ s₁ mg mb fa o pm cd doc a vs ns G Y ho hd hcd hmg hobj hints hlen hbits hg => ?_
  obtain ⟨K, fd, sp, KX, hb, hsp, hF⟩ := F w mg fa _ Y G.T.g hmg
  exact law_call KX G.T.g G.T.b G.T.builtins G.T.nolimit hg hobj hints (Nat.le_trans hlen hn2) hr hF hb (fun H hO hS => hsp H a ns hlen hbits hO hS) fun H e s' => hCX H s₁ e s'
end L2
namespace Ez
open PySem PySem.Spec PyProof.Rows L2
/-- the weight of values: what a text of them takes -/
def wt (ds : List PyData) : Nat := ((wrl ds).map fun l => l.length + 1).sum
theorem wt_nil : wt [] = 0 := rfl
theorem wt_cons (d : PyData) (ds : List PyData) : wt (d :: ds) = (wr d).length + 1 + wt ds := by
  unfold wt; rw [wrl_map, wrl_map]; simp
theorem wt_app (a b : List PyData) : wt (a ++ b) = wt a + wt b := by
  unfold wt; rw [wrl_map, wrl_map, wrl_map]; simp
theorem wt_split (a : List PyData) (n : Nat) : wt (a.take n) + wt (a.drop n) = wt a := by
  rw [← wt_app, List.take_append_drop]
theorem join_wt : ∀ ds : List PyData, (TL.joinL [32] (wrl ds)).length ≤ wt ds
  | [] => by simp [wrl, TL.joinL, wt]
  | [d] => by simp [wrl, TL.joinL, wt]
  | d :: e :: ds => by
    have ih := join_wt (e :: ds)
    rw [wt_cons]
    simp only [wrl, TL.joinL, List.length_append, List.length_cons, List.length_nil] at ih ⊢
    omega
theorem wr_wt (ds : List PyData) : (wr (.tuple ds)).length ≤ wt ds + 2 := by
  have := join_wt ds
  simp only [wr, List.length_cons, List.length_append, List.length_nil]
  omega
theorem int_len {z : Int} (h : gd (.int z) = true) : (wr (.int z)).length ≤ 61 := by
  obtain ⟨m, rfl | rfl⟩ := Int.eq_nat_or_neg z
  · rw [wr_nat]; have := (numL_int (gd_nat h)).2; omega
  · by_cases c : m = 0
    · subst c
      rw [show (-((0 : Nat) : Int)) = ((0 : Nat) : Int) from rfl, wr_nat]
      have := (numL_int (n := 0) (by decide)).2
      omega
    · rw [wr_neg (by omega)]
      have := (numL_int (gd_neg h)).2
      simp only [List.length_cons]; omega
theorem str_len {l : List Nat} (h : gs l = true) : (wr (.str (Rd.S l))).length ≤ 1010 := by
  have hl := gs_len h
  have e : wr (.str (Rd.S l)) = TL.numL l.length ++ 58 :: l := by simp only [wr, Rd.S_tl]
  rw [e]
  have := TL.numL_len (n := l.length) (k := 4) (by decide) (by omega)
  simp only [List.length_append, List.length_cons]
  omega
theorem gd_int {z : Int} (h : z.natAbs < 10 ^ 60) : gd (.int z) = true := by simp only [gd]; exact decide_eq_true h
theorem gd_str {l : List Nat} (h : gs l = true) : gd (.str (Rd.S l)) = true := by simp only [gd, Rd.S_tl]; exact h
theorem gs_of {l : List Nat} (h : l.length ≤ 1000) (k : ∀ c ∈ l, 32 ≤ c ∧ c ≤ 126 ∧ c ≠ 37) : gs l = true := by
  unfold gs
  rw [Bool.and_eq_true]
  refine ⟨decide_eq_true h, List.all_eq_true.mpr fun c hc => ?_⟩
  obtain ⟨a, b, d⟩ := k c hc
  simp [a, b, d]
theorem gd_tuple {ds : List PyData} (hl : ds.length ≤ 1000) (h : ∀ d ∈ ds, gd d = true) : gd (.tuple ds) = true := by
  simp only [gd, Bool.and_eq_true]
  exact ⟨decide_eq_true hl, gds_mem.mpr h⟩
theorem joinE : ∀ cs : List Nat, TL.joinL [] (cs.map fun c => [c]) = cs
  | [] => rfl
  | [c] => rfl
  | c :: d :: cs => by
    have ih := joinE (d :: cs)
    simp only [List.map_cons, TL.joinL, List.nil_append, List.append_nil, List.cons_append] at ih ⊢
    rw [ih]
end Ez
namespace Ez
open PySem PySem.Spec PyProof.Rows L2
theorem cut_ints {ns : List Int} {lo hi : Option Int} : ∃ ms : List Int, cutV (ns.map V.int) lo hi = ms.map V.int ∧ ms.length ≤ ns.length ∧ ∀ x ∈ ms, x ∈ ns := by
  refine ⟨(ns.drop (HT.sIx ns.length 0 lo)).take (HT.sIx ns.length ns.length hi - HT.sIx ns.length 0 lo), ?_, ?_, fun x hx => List.mem_of_mem_drop (List.mem_of_mem_take hx)⟩
  · unfold cutV; rw [List.length_map, List.map_take, List.map_drop]
  · rw [List.length_take, List.length_drop]; omega
theorem cut_dropN {xs : List V} {k : Nat} (h : k ≤ xs.length) : cutV xs (some (k : Int)) none = xs.drop k := Bd.cut_drop h
theorem bits_lt {c : Int} (h : Builtin.Int.intBits c ≤ 1048576) : c.natAbs < 2 ^ 1048576 := by
  unfold Builtin.Int.intBits at h
  by_cases z : c = 0
  · subst z; exact Nat.two_pow_pos _
  · rw [if_neg (by simpa using z)] at h
    exact (Nat.log2_lt (by omega)).mp (by omega)
theorem mul_bits {c z p m : Int} (h : Builtin.Int.intBits c ≤ 1048576) (hz : z = c ∨ z = -c) (hp : 0 ≤ p ∧ p < 1000) (hm : 0 ≤ m ∧ m < 2 ^ 200) : CMulX (z + p) m := by
  have b := bits_lt h
  have e : (2 : Nat) ^ 1048577 = 2 ^ 1048576 + 2 ^ 1048576 := by rw [Nat.pow_succ]; omega
  have l : (1000 : Nat) ≤ 2 ^ 1048576 := Nat.le_trans (show 1000 ≤ 2 ^ 10 by decide) (Nat.pow_le_pow_right (by decide) (by decide))
  refine mulx_ok (a := 1048577) (b := 200) ?_ (by have : (2 : Int) ^ 200 = ((2 ^ 200 : Nat) : Int) := by norm_cast
                                                  omega) (by decide)
  rw [e]
  generalize 2 ^ 1048576 = Z at *
  omega
theorem joinOk {cs : List Nat} (h : cs.length ≤ 1000) : (((cs.map fun c => [c]).map List.length).sum + (cs.map fun c => [c]).length * ([] : List Nat).length ≤ 16777216) := by
  have e : ∀ cs : List Nat, ((cs.map fun c => [c]).map List.length).sum = cs.length := fun cs => by
    induction cs with
    | nil => rfl
    | cons c cs ih => simp only [List.map_cons, List.sum_cons, List.length_cons, List.length_nil] at ih ⊢; omega
  rw [e]
  simp only [List.length_nil, Nat.mul_zero]; omega
theorem i60 {x : Int} (h0 : 0 ≤ x) (h1 : x < 10 ^ Int.toNat 60) : gd (.int x) = true ∧ gd (.int (-x)) = true ∧ 0 ≤ 10 ^ Int.toNat 60 - 1 - x ∧ 10 ^ Int.toNat 60 - 1 - x < 10 ^ Int.toNat 60 := by
  have e : (10 : Int) ^ Int.toNat 60 = ((10 ^ 60 : Nat) : Int) := by norm_cast
  rw [e] at h1 ⊢
  refine ⟨gd_int (by omega), gd_int (by omega), by omega, by omega⟩
end Ez
namespace Ez
open PySem PySem.Spec PyProof.Rows L2 Dj
/-- values and their told depths -/
def Dpt (ds : List PyData) (es : List Int) : Prop := ds.length = es.length ∧ ∀ (j : Nat) (d : PyData), ds[j]? = some d → ∃ e : Int, es[j]? = some e ∧ (PyData.depth d : Int) ≤ e ∧ 0 ≤ e ∧ e ≤ 11
theorem Dpt.nil : Dpt [] [] := ⟨rfl, fun j d h => by simp at h⟩
theorem Dpt.take {ds : List PyData} {es : List Int} (h : Dpt ds es) (n : Nat) : Dpt (ds.take n) (es.take n) := by
  refine ⟨by rw [List.length_take, List.length_take, h.1], fun j d hj => ?_⟩
  have hjn : j < n := by have := (List.getElem?_eq_some_iff.mp hj).1; rw [List.length_take] at this; omega
  rw [List.getElem?_take_of_lt hjn] at hj ⊢
  exact h.2 j d hj
theorem Dpt.drop {ds : List PyData} {es : List Int} (h : Dpt ds es) (n : Nat) : Dpt (ds.drop n) (es.drop n) := by
  refine ⟨by rw [List.length_drop, List.length_drop, h.1], fun j d hj => ?_⟩
  rw [List.getElem?_drop] at hj ⊢
  exact h.2 _ d hj
theorem Dpt.snoc {ds : List PyData} {es : List Int} {d : PyData} {e : Int} (h : Dpt ds es) (k : (PyData.depth d : Int) ≤ e ∧ 0 ≤ e ∧ e ≤ 11) : Dpt (ds ++ [d]) (es ++ [e]) := by
  refine ⟨by rw [List.length_append, List.length_append, h.1]; rfl, fun j x hj => ?_⟩
  by_cases c : j < ds.length
  · rw [List.getElem?_append_left c] at hj
    rw [List.getElem?_append_left (by rw [← h.1]; exact c)]
    exact h.2 j x hj
  · have hl := (List.getElem?_eq_some_iff.mp hj).1
    rw [List.length_append, List.length_singleton] at hl
    have e1 : j = ds.length := by omega
    rw [List.getElem?_append_right (by omega), show j - ds.length = 0 by omega] at hj
    cases hj
    rw [List.getElem?_append_right (by rw [← h.1]; omega), show j - es.length = 0 by rw [← h.1]; omega]
    exact ⟨e, rfl, k⟩
theorem Dpt.all {ds : List PyData} {es : List Int} {m : Int} (h : Dpt ds es) (k : ∀ e ∈ es, e ≤ m) (h0 : 0 ≤ m) : PyData.depthAll ds ≤ m.toNat := depth_mem.mpr fun d hd => by
  obtain ⟨j, hj⟩ := List.mem_iff_getElem?.mp hd
  obtain ⟨e, he, h1, _⟩ := h.2 j d hj
  have := k e (List.mem_of_getElem? he)
  omega
theorem Dpt.all11 {ds : List PyData} {es : List Int} (h : Dpt ds es) : PyData.depthAll ds ≤ 11 := depth_mem.mpr fun d hd => by
  obtain ⟨j, hj⟩ := List.mem_iff_getElem?.mp hd
  obtain ⟨e, he, h1, _, h3⟩ := h.2 j d hj
  omega
theorem Dpt.bd {ds : List PyData} {es : List Int} (h : Dpt ds es) : ∀ e ∈ es, 0 ≤ e ∧ e ≤ 11 := fun e he => by
  obtain ⟨j, hj⟩ := List.mem_iff_getElem?.mp he
  have hl := (List.getElem?_eq_some_iff.mp hj).1
  obtain ⟨e2, he2, _, h2, h3⟩ := h.2 j _ (List.getElem?_eq_getElem (show j < ds.length by rw [h.1]; exact hl))
  rw [hj] at he2; cases he2
  exact ⟨h2, h3⟩
theorem dp_take {K : PySem.W.Frag} {H : Hp} : ∀ {xs : List V} {ds : List PyData} (n : Nat), DpAll K H xs ds → DpAll K H (xs.take n) (ds.take n)
  | _, _, 0, _ => by rw [List.take_zero, List.take_zero]; exact .nil
  | _, _, _ + 1, .nil => .nil
  | _, _, n + 1, .cons h t => .cons h (dp_take n t)
theorem dp_drop {K : PySem.W.Frag} {H : Hp} : ∀ {xs : List V} {ds : List PyData} (n : Nat), DpAll K H xs ds → DpAll K H (xs.drop n) (ds.drop n)
  | _, _, 0, h => h
  | _, _, _ + 1, .nil => .nil
  | _, _, n + 1, .cons h t => dp_drop n t
end Ez

set_option Elab.async false
set_option linter.all false
set_option maxRecDepth 100000
set_option maxHeartbeats 4000000
namespace NK72
open PySem PySem.Spec PyProof.Rows L2
def top (i : Nat) : Stmt := PySem.Challenge.pw_keptcoin_k72_notation.main.body.getD i (.Pass ⟨0, 0, 0, 0⟩)
abbrev FnP (K : PySem.W.Frag) (x : Str) (st : Stmt) (f : Addr) (fd : FuncData) : Prop := FunD K x x (defArgs st) (defBody st) (defScope st) [] [] f fd
/-- a def that keeps its promise, where the module finds it -/
structure Cal (P : Program) (w : World) (K : PySem.W.Frag) (mg : Str → Option Value) (base : Heap) (x : Str) (k : Nat) (ps : List Str) (sp : Sp) : Prop where
  ex : ∃ f fd, mg x = some (.ref f) ∧ PySem.W.keepIn K (.ref f) = true ∧ Binds K fd ps [] ∧ FnOk P w K mg base CX0 k f fd ps sp
structure CalM (P : Program) (w : World) (K : PySem.W.Frag) (mg : Str → Option Value) (base : Heap) (fa : Addr) (k : Nat) (ps : List Str) (dvs : List V) (sp : Sp) : Prop where
  ex : ∃ fd, Binds K fd ps [] ∧ FnOk P w K mg base CX0 k fa fd ps sp ∧ ∃ ds, Vals dvs ds ∧ Binds K fd ps ds
abbrev s_write : Stmt := top 9
abbrev N_write : List Str := ["value", "item"]
theorem sc_write : FnScope N_write ["value"] (defScope s_write) := ⟨rfl, rfl, rfl, by decide +kernel, rfl, by decide +kernel, by decide +kernel⟩
abbrev s_Scanner___init : Stmt := inClass (top 10) 0
abbrev N_Scanner___init : List Str := ["self", "text"]
theorem sc_Scanner___init : FnScope N_Scanner___init ["self", "text"] (defScope s_Scanner___init) := ⟨rfl, rfl, rfl, by decide +kernel, rfl, by decide +kernel, by decide +kernel⟩
abbrev s_Scanner_char : Stmt := inClass (top 10) 1
abbrev N_Scanner_char : List Str := ["self"]
theorem sc_Scanner_char : FnScope N_Scanner_char ["self"] (defScope s_Scanner_char) := ⟨rfl, rfl, rfl, by decide +kernel, rfl, by decide +kernel, by decide +kernel⟩
abbrev s_Scanner_skip : Stmt := inClass (top 10) 2
abbrev N_Scanner_skip : List Str := ["self", "char"]
theorem sc_Scanner_skip : FnScope N_Scanner_skip ["self", "char"] (defScope s_Scanner_skip) := ⟨rfl, rfl, rfl, by decide +kernel, rfl, by decide +kernel, by decide +kernel⟩
abbrev s_Scanner_require : Stmt := inClass (top 10) 3
abbrev N_Scanner_require : List Str := ["self", "good"]
theorem sc_Scanner_require : FnScope N_Scanner_require ["self", "good"] (defScope s_Scanner_require) := ⟨rfl, rfl, rfl, by decide +kernel, rfl, by decide +kernel, by decide +kernel⟩
abbrev s_read : Stmt := top 11
abbrev N_read : List Str := ["text", "scanner", "value"]
theorem sc_read : FnScope N_read ["text"] (defScope s_read) := ⟨rfl, rfl, rfl, by decide +kernel, rfl, by decide +kernel, by decide +kernel⟩
abbrev s_value : Stmt := top 12
abbrev N_value : List Str := ["scanner", "deep", "char", "number"]
theorem sc_value : FnScope N_value ["scanner", "deep"] (defScope s_value) := ⟨rfl, rfl, rfl, by decide +kernel, rfl, by decide +kernel, by decide +kernel⟩
abbrev s_is_digit : Stmt := top 13
abbrev N_is_digit : List Str := ["char"]
theorem sc_is_digit : FnScope N_is_digit ["char"] (defScope s_is_digit) := ⟨rfl, rfl, rfl, by decide +kernel, rfl, by decide +kernel, by decide +kernel⟩
abbrev s_digits : Stmt := top 14
abbrev N_digits : List Str := ["scanner", "start", "most"]
theorem sc_digits : FnScope N_digits ["scanner"] (defScope s_digits) := ⟨rfl, rfl, rfl, by decide +kernel, rfl, by decide +kernel, by decide +kernel⟩
abbrev s_string : Stmt := top 15
abbrev N_string : List Str := ["scanner", "length", "string", "char"]
theorem sc_string : FnScope N_string ["scanner", "length"] (defScope s_string) := ⟨rfl, rfl, rfl, by decide +kernel, rfl, by decide +kernel, by decide +kernel⟩
abbrev s_tuple : Stmt := top 16
abbrev N_tuple : List Str := ["scanner", "deep", "items"]
theorem sc_tuple : FnScope N_tuple ["scanner", "deep"] (defScope s_tuple) := ⟨rfl, rfl, rfl, by decide +kernel, rfl, by decide +kernel, by decide +kernel⟩
abbrev s_law_cell : Stmt := top 18
abbrev N_law_cell : List Str := ["script", "k"]
theorem sc_law_cell : FnScope N_law_cell ["script", "k"] (defScope s_law_cell) := ⟨rfl, rfl, rfl, by decide +kernel, rfl, by decide +kernel, by decide +kernel⟩
abbrev s_law_numbers : Stmt := top 19
abbrev N_law_numbers : List Str := ["cell", "many", "size", "rest", "numbers", "k", "mixed"]
theorem sc_law_numbers : FnScope N_law_numbers ["cell", "many"] (defScope s_law_numbers) := ⟨rfl, rfl, rfl, by decide +kernel, rfl, by decide +kernel, by decide +kernel⟩
abbrev s_law_tape : Stmt := top 20
abbrev N_law_tape : List Str := ["script", "first", "others", "numbers", "cell"]
theorem sc_law_tape : FnScope N_law_tape ["script", "first", "others"] (defScope s_law_tape) := ⟨rfl, rfl, rfl, by decide +kernel, rfl, by decide +kernel, by decide +kernel⟩
abbrev s_law_char : Stmt := top 21
abbrev N_law_char : List Str := ["number", "chars"]
theorem sc_law_char : FnScope N_law_char ["number"] (defScope s_law_char) := ⟨rfl, rfl, rfl, by decide +kernel, rfl, by decide +kernel, by decide +kernel⟩
abbrev s_law_text : Stmt := top 22
abbrev N_law_text : List Str := ["number", "size", "k"]
theorem sc_law_text : FnScope N_law_text ["number", "size"] (defScope s_law_text) := ⟨rfl, rfl, rfl, by decide +kernel, rfl, by decide +kernel, by decide +kernel⟩
abbrev s_law_integer : Stmt := top 23
abbrev N_law_integer : List Str := ["cell", "number", "part", "great"]
theorem sc_law_integer : FnScope N_law_integer ["cell", "number"] (defScope s_law_integer) := ⟨rfl, rfl, rfl, by decide +kernel, rfl, by decide +kernel, by decide +kernel⟩
abbrev s_law_leaf : Stmt := top 24
abbrev N_law_leaf : List Str := ["cell", "number", "part", "size"]
theorem sc_law_leaf : FnScope N_law_leaf ["cell", "number"] (defScope s_law_leaf) := ⟨rfl, rfl, rfl, by decide +kernel, rfl, by decide +kernel, by decide +kernel⟩
abbrev s_law_value : Stmt := top 25
abbrev N_law_value : List Str := ["script", "numbers", "values", "depths", "k", "number", "many", "depth", "taken"]
theorem sc_law_value : FnScope N_law_value ["script", "numbers"] (defScope s_law_value) := ⟨rfl, rfl, rfl, by decide +kernel, rfl, by decide +kernel, by decide +kernel⟩
abbrev s_law_written : Stmt := top 26
abbrev N_law_written : List Str := ["value", "item"]
theorem sc_law_written : FnScope N_law_written ["value"] (defScope s_law_written) := ⟨rfl, rfl, rfl, by decide +kernel, rfl, by decide +kernel, by decide +kernel⟩
abbrev s_law_same : Stmt := top 27
abbrev N_law_same : List Str := ["actual", "expected", "k"]
theorem sc_law_same : FnScope N_law_same ["actual", "expected"] (defScope s_law_same) := ⟨rfl, rfl, rfl, by decide +kernel, rfl, by decide +kernel, by decide +kernel⟩
abbrev s_law : Stmt := top 28
abbrev N_law : List Str := ["script", "numbers", "value", "other", "text", "actual"]
theorem sc_law : FnScope N_law ["script"] (defScope s_law) := ⟨rfl, rfl, rfl, by decide +kernel, rfl, by decide +kernel, by decide +kernel⟩

open Dj Es Ez

structure CF_Scanner (K : PySem.W.Frag) (mg : Str → Option Value) : Prop where
  cls : Cls K (He.ga K "Scanner")
  m : mg "Scanner" = some (.ref (He.ga K "Scanner"))
  mkr : Mk K (He.ga K "Scanner") (He.fAd K ("Scanner", some "__init__"))
  mt_char : Meth K (He.ga K "Scanner") "char" (He.fAd K ("Scanner", some "char"))
  mt_require : Meth K (He.ga K "Scanner") "require" (He.fAd K ("Scanner", some "require"))
  mt_skip : Meth K (He.ga K "Scanner") "skip" (He.fAd K ("Scanner", some "skip"))
  n_at : NoAttr K (He.ga K "Scanner") "at"
  n_text : NoAttr K (He.ga K "Scanner") "text"
def sp_write (K : PySem.W.Frag) (turns : Nat) : Sp := fun vs H Q _ => ∃ (v : V) (d : PyData), vs = [v] ∧ (Dp K H v d) ∧ (gd d = true) ∧ ((wr d).length ≤ 1000000) ∧ (PyData.depth d < turns) ∧ (∀ H', Same H H' → Q (.str (Rd.S (wr d))) H')
def sp_Scanner___init (K : PySem.W.Frag) : Sp := fun vs H Q _ => ∃ (s dx : Addr) (t : List Nat), vs = [.ref s, .str (Rd.S t)] ∧ (H s = some (.ins (He.ga K "Scanner") dx [])) ∧ (∀ H', Beside s H H' → Sc K H' s dx t 0 → Q .non H')
def sp_Scanner_char (K : PySem.W.Frag) : Sp := fun vs H Q _ => ∃ (s dx : Addr) (t : List Nat) (i : Nat) (r : List Nat), vs = [.ref s] ∧ (Sc K H s dx t i) ∧ (t.drop i = r) ∧ (t.length ≤ 1000000) ∧ (Q (.str (Rd.S (r.take 1))) H)
def sp_Scanner_skip (K : PySem.W.Frag) : Sp := fun vs H Q _ => ∃ (s dx : Addr) (t : List Nat) (i : Nat) (r : List Nat) (c : Nat), vs = [.ref s, .str (Rd.S [c])] ∧ (Sc K H s dx t i) ∧ (t.drop i = r) ∧ (t.length ≤ 1000000) ∧ ((∀ H', r.take 1 = [c] → Adv K s dx t (i + 1) H H' → Q (.bl true) H') ∧ (r.take 1 ≠ [c] → Q (.bl false) H))
def sp_Scanner_require (K : PySem.W.Frag) : Sp := fun vs H Q _ => ∃ (s : Addr), vs = [.ref s, .bl true] ∧ (Q .non H)
def sp_read (K : PySem.W.Frag) : Sp := fun vs H Q _ => ∃ (d : PyData), vs = [.str (Rd.S (wr d))] ∧ ((wr d).length ≤ 1000000) ∧ (gd d = true) ∧ (PyData.depth d ≤ 12) ∧ (∀ H' v, Same H H' → Dp K H' v d → Q v H')
def sp_value (K : PySem.W.Frag) (turns : Nat) : Sp := fun vs H Q _ => ∃ (s dx : Addr) (t : List Nat) (i : Nat) (r : List Nat) (d : PyData) (dp : Nat), vs = [.ref s, .int (dp : Int)] ∧ (Sc K H s dx t i) ∧ (t.drop i = wr d ++ r) ∧ (t.length ≤ 1000000) ∧ (gd d = true) ∧ (PyData.depth d + dp ≤ 12) ∧ (stp r) ∧ (PyData.depth d < turns) ∧ (∀ H' v, Adv K s dx t (i + (wr d).length) H H' → Dp K H' v d → Q v H')
def sp_is_digit (K : PySem.W.Frag) : Sp := fun vs H Q _ => ∃ (r : List Nat), vs = [.str (Rd.S (r.take 1))] ∧ (Q (.bl (isd r)) H)
def sp_digits (K : PySem.W.Frag) : Sp := fun vs H Q _ => ∃ (s dx : Addr) (t : List Nat) (i : Nat) (r : List Nat) (m : Nat), vs = [.ref s] ∧ (Sc K H s dx t i) ∧ (t.drop i = TL.numL m ++ r) ∧ (t.length ≤ 1000000) ∧ (m < 10 ^ 60) ∧ (isd r = false) ∧ (∀ H', Adv K s dx t (i + (TL.numL m).length) H H' → Q (.int (m : Int)) H')
def sp_string (K : PySem.W.Frag) : Sp := fun vs H Q _ => ∃ (s dx : Addr) (t : List Nat) (i : Nat) (r l : List Nat), vs = [.ref s, .int (l.length : Int)] ∧ (Sc K H s dx t i) ∧ (t.drop i = l ++ r) ∧ (t.length ≤ 1000000) ∧ (gs l = true) ∧ (i ≤ t.length) ∧ (∀ H', Adv K s dx t (i + l.length) H H' → Q (.str (Rd.S l)) H')
def sp_tuple (K : PySem.W.Frag) (turns : Nat) : Sp := fun vs H Q _ => ∃ (s dx : Addr) (t : List Nat) (i : Nat) (r : List Nat) (ds : List PyData) (dp : Nat), vs = [.ref s, .int (dp : Int)] ∧ (Sc K H s dx t i) ∧ (t.drop i = wr (.tuple ds) ++ r) ∧ (t.length ≤ 1000000) ∧ (gds ds = true) ∧ (PyData.depthAll ds + dp ≤ 12) ∧ (PyData.depthAll ds < turns) ∧ (∀ H' v, Adv K s dx t (i + (wr (.tuple ds)).length) H H' → Dp K H' v (.tuple ds) → Q v H')
def sp_law_cell (K : PySem.W.Frag) : Sp := fun vs H Q _ => ∃ (a : Addr) (ns : List Int) (i : Int), vs = [.ref a, .int i] ∧ (SqL K H a (ns.map V.int)) ∧ (0 ≤ i) ∧ (∀ z ∈ ns, Builtin.Int.intBits z ≤ 1048576) ∧ (∀ z, Builtin.Int.intBits z ≤ 1048576 → Q (.int z) H)
def sp_law_numbers (K : PySem.W.Frag) : Sp := fun vs H Q _ => ∃ (c m : Int), vs = [.int c, .int m] ∧ (0 ≤ m ∧ m ≤ 1000) ∧ (∀ p (nums : List Int) H', Same H H' → H p = none → H' p = some (.lst (nums.map V.int)) → nums.length = m.toNat → B3 nums → Q (.ref p) H')
def sp_law_tape (K : PySem.W.Frag) : Sp := fun vs H Q _ => ∃ (a : Addr) (ns : List Int) (f o : Int), vs = [.ref a, .int f, .int o] ∧ (SqL K H a (ns.map V.int)) ∧ (ns.length ≤ 63) ∧ (∀ z ∈ ns, Builtin.Int.intBits z ≤ 1048576) ∧ (0 ≤ f ∧ f ≤ 100 ∧ 0 ≤ o ∧ o ≤ 100) ∧ (∀ p (nums : List Int) H', Same H H' → H p = none → H' p = some (.lst (nums.map V.int)) → nums.length ≤ f.toNat + 63 * o.toNat → f.toNat ≤ nums.length → B3 nums → Q (.ref p) H')
def sp_law_char (K : PySem.W.Frag) : Sp := fun vs H Q _ => ∃ (i : Int), vs = [.int i] ∧ (∀ c : Nat, 32 ≤ c ∧ c ≤ 126 ∧ c ≠ 37 → Q (.str (Rd.S [c])) H)
def sp_law_text (K : PySem.W.Frag) : Sp := fun vs H Q _ => ∃ (i j : Int), vs = [.int i, .int j] ∧ (0 ≤ i ∧ i < 1000) ∧ (0 ≤ j ∧ j ≤ 1000) ∧ (∀ l H', Same H H' → gs l = true → Q (.str (Rd.S l)) H')
def sp_law_integer (K : PySem.W.Frag) : Sp := fun vs H Q _ => ∃ (c i : Int), vs = [.int c, .int i] ∧ (Builtin.Int.intBits c ≤ 1048576) ∧ (0 ≤ i ∧ i < 1000) ∧ (∀ z H', Same H H' → gd (.int z) = true → Q (.int z) H')
def sp_law_leaf (K : PySem.W.Frag) : Sp := fun vs H Q _ => ∃ (c i : Int), vs = [.int c, .int i] ∧ (Builtin.Int.intBits c ≤ 1048576) ∧ (0 ≤ i ∧ i < 1000) ∧ (∀ v d H', Same H H' → Dp K H' v d → gd d = true → PyData.depth d = 0 → (wr d).length ≤ 1010 → Q v H')
def sp_law_value (K : PySem.W.Frag) : Sp := fun vs H Q _ => ∃ (a b : Addr) (ns nums : List Int), vs = [.ref a, .ref b] ∧ (SqL K H a (ns.map V.int)) ∧ (∀ z ∈ ns, Builtin.Int.intBits z ≤ 1048576) ∧ (SqL K H b (nums.map V.int)) ∧ (B3 nums) ∧ (nums.length ≤ 300) ∧ (∀ v d H', Same H H' → Dp K H' v d → gd d = true → PyData.depth d ≤ 12 → (wr d).length ≤ 1000000 → Q v H')
def sp_law_written (K : PySem.W.Frag) (turns : Nat) : Sp := fun vs H Q _ => ∃ (v : V) (d : PyData), vs = [v] ∧ (Dp K H v d) ∧ (gd d = true) ∧ ((wr d).length ≤ 1000000) ∧ (PyData.depth d < turns) ∧ (∀ H', Same H H' → Q (.str (Rd.S (wr d))) H')
def sp_law_same (K : PySem.W.Frag) (turns : Nat) : Sp := fun vs H Q _ => ∃ (x y : V) (d : PyData), vs = [x, y] ∧ (Dp K H x d) ∧ (Dp K H y d) ∧ (gd d = true) ∧ ((wr d).length ≤ 1000000) ∧ (PyData.depth d < turns) ∧ (Q (.bl true) H)
def sp_law (K : PySem.W.Frag) : Sp := fun vs H Q _ => ∃ (a : Addr) (ns : List Int), vs = [.ref a] ∧ (SqL K H a (ns.map V.int)) ∧ (ns.length ≤ 63) ∧ (∀ z ∈ ns, Builtin.Int.intBits z ≤ 1048576) ∧ (∀ H', Q (.bl true) H')
local macro_rules | `(tactic| walk_at "cnd") => `(tactic| first
  | ((with_reducible show CMul _ _); first | (exact Or.inl (And.intro (by omega) (by omega))) | (exact Or.inr (And.intro (by omega) (by omega))))
  | ((with_reducible show CDiv _ _); exact And.intro (by omega) (by omega))
  | ((with_reducible show CPow _ _); exact And.intro (by omega) (And.intro (by omega) (by omega)))
  | ((with_reducible show Rd.CDivX _ _); exact Rd.cdivX' (by omega) (by omega))
  | ((with_reducible show (_ : Int) < _); omega)
  | ((with_reducible show (_ : Int) ≠ _); omega))
local macro_rules | `(tactic| walk_at "rd1") => `(tactic| first
  | (with_reducible refine Rd.seq ?_)
  | (with_reducible refine Rd.asg ?_)
  | (with_reducible refine Rd.opIsN ?_)
  | (with_reducible refine Rd.opNotN ?_)
  | (with_reducible refine Rd.opAddS ?_)
  | (with_reducible refine Rd.opInS ?_)
  | (with_reducible refine Rd.op ?_)
  | (with_reducible refine Rd.cst ?_)
  | ((with_reducible show tVar _ _ _ _); refine Rd.var rfl ?_)
  | (with_reducible refine Rd.cons ?_)
  | (with_reducible refine Rd.nil ?_)
  | (with_reducible refine Rd.opI0 ?_)
  | ((with_reducible show rI CPow _ (V.int 10) (V.int _) _ _); refine Rd.pw (z := 1000000000000000) ⟨by decide, by decide, by decide⟩ (by decide) ?_)
  | ((with_reducible show rI CPow _ (V.int 10) (V.int _) _ _); refine Rd.pw (z := 1000000000000000000) ⟨by decide, by decide, by decide⟩ (by decide) ?_)
  | ((with_reducible show rI CPow _ (V.int 10) (V.int _) _ _); refine Rd.pw (z := 1000000000) ⟨by decide, by decide, by decide⟩ (by decide) ?_)
  | ((with_reducible show rI CPow _ (V.int 10) (V.int _) _ _); refine Rd.pw (z := 1000000) ⟨by decide, by decide, by decide⟩ (by decide) ?_)
  | ((with_reducible show rI CPow _ (V.int 10) (V.int _) _ _); refine Rd.pw (z := 10000000) ⟨by decide, by decide, by decide⟩ (by decide) ?_)
  | ((with_reducible show rI CPow _ (V.int 10) (V.int _) _ _); refine Rd.pw (z := 100000000) ⟨by decide, by decide, by decide⟩ (by decide) ?_)
  | ((with_reducible show rI CPow _ (V.int 10) (V.int _) _ _); refine Rd.pw (z := 10000000000) ⟨by decide, by decide, by decide⟩ (by decide) ?_)
  | ((with_reducible show rI CPow _ (V.int 10) (V.int _) _ _); refine Rd.pw (z := 100000000000) ⟨by decide, by decide, by decide⟩ (by decide) ?_)
  | ((with_reducible show rI CPow _ (V.int 10) (V.int _) _ _); refine Rd.pw (z := 1000000000000) ⟨by decide, by decide, by decide⟩ (by decide) ?_)
  | ((with_reducible show rI CPow _ (V.int 10) (V.int _) _ _); refine Rd.pw (z := 10000000000000) ⟨by decide, by decide, by decide⟩ (by decide) ?_)
  | ((with_reducible show rI CPow _ (V.int 10) (V.int _) _ _); refine Rd.pw (z := 10000000000000000000000000000000000000000) ⟨by decide, by decide, by decide⟩ (by decide) ?_)
  | ((with_reducible refine Rd.opI ?_ ?_); (first | walk_at "cnd" | skip))
  | (with_reducible refine Rd.ret ?_)
  | (with_reducible refine Rd.ifS ?_)
  | (with_reducible refine Rd.tst ?_)
  | (with_reducible refine Rd.tB_ ?_)
  | (with_reducible refine Rd.bl ?_)
  | (with_reducible refine Rd.eqI ?_)
  | (with_reducible refine Rd.eqS' ?_)
  | (with_reducible refine Rd.eqS ?_)
  | (with_reducible refine Rd.eqB ?_)
  | (with_reducible refine Rd.neI ?_)
  | (with_reducible refine Rd.neS' ?_)
  | (with_reducible refine Rd.neS ?_)
  | (with_reducible refine Rd.neB ?_)
  | (with_reducible refine Rd.callN ?_)
  | (with_reducible refine Rd.cbLen ?_)
  | (with_reducible refine Rd.cbLenS ?_)
  | (with_reducible refine Rd.cbInt ?_)
  | (with_reducible refine Rd.cbIntS ?_)
  | (with_reducible refine Rd.cbAbs ?_)
  | (with_reducible refine Rd.cbStrI ?_)
  | (with_reducible refine Rd.cbLst ?_)
  | (with_reducible refine Rd.cbTup ?_)
  | (with_reducible refine Rd.cbMax2 ?_)
  | (with_reducible refine Rd.cbMin2 ?_)
  | (with_reducible refine Rd.cb ?_)
  | (with_reducible refine Rd.isN' ?_)
  | (with_reducible refine Rd.notN' ?_)
  | (with_reducible refine Rd.intB ?_)
  | (with_reducible refine Rd.max2 (fun _ _ _ _ => ?_))
  | (with_reducible refine Rd.min2 (fun _ _ _ _ => ?_))
  | (with_reducible refine Rd.int1 ?_)
  | (with_reducible refine Rd.abs1 (fun _ _ _ => ?_))
  | (with_reducible refine Rd.un ?_)
  | (with_reducible refine Rd.opU ?_)
  | (with_reducible refine Rd.tup ?_)
  | (with_reducible refine Rd.lst ?_)
  | (with_reducible refine Rd.len (Nat.le_of_ble_eq_true rfl) (fun _ _ => ?_))
  | (with_reducible refine Rd.next ?_)
  | (with_reducible refine Rd.chain ?_)
  | (with_reducible refine Rd.andV ?_)
  | (with_reducible refine Rd.orV ?_)
  | (with_reducible refine Rd.notV ?_)
  | (with_reducible refine Rd.and_ ?_)
  | (with_reducible refine Rd.or_ ?_)
  | (with_reducible refine Rd.not_ ?_)
  | (with_reducible refine Rd.ifE ?_)
  | (with_reducible refine Rd.iteT ?_)
  | (with_reducible refine Rd.iteF ?_)
  | (with_reducible refine Rd.iteD (fun _ => ?_) (fun _ => ?_))
  | (with_reducible refine Rd.iteN (fun _ => ?_) (fun _ => ?_))
  | (with_reducible refine Rd.drop ?_)
  | (with_reducible refine Rd.app ?_)
  | ((with_reducible refine Rd.tyL (xs := ?xs) ?h ?_); (case h => walk_at "hq"))
  | ((with_reducible refine Rd.appd (xs := ?xs) ?h ?z ?_); (case h => walk_at "hq"); (case z => walk_at "sz"))
  | ((with_reducible refine Rd.setL (xs := ?xs) (j := ?j) ?h ?e ?_); (case h => walk_at "hq"); (case e => rfl))
  | ((with_reducible refine Rd.lenL (ys := ?ys) ?h rfl ?_); (case h => walk_at "hp"))
  | ((with_reducible refine Rd.lenT (ys := ?ys) ?h rfl ?_); (case h => walk_at "hp"))
  | ((with_reducible refine Rd.ixL (xs := ?xs) (v := ?v) ?h ?a ?_); (case h => walk_at "hp"); (case a => walk_at "ix"))
  | ((with_reducible refine Rd.ixT (xs := ?xs) (v := ?v) ?h ?a ?_); (case h => walk_at "hp"); (case a => walk_at "ix"))
  | ((with_reducible refine Rd.isiI (r := ?r) ?e ?_); (case e => first | exact Rd.kb_int_int | exact Rd.kb_int_bool | exact Rd.kb_int_str | exact Rd.kb_int_tuple | exact Rd.kb_int_list | exact Rd.kb_int_dict))
  | ((with_reducible refine Rd.isiB (r := ?r) ?e ?_); (case e => first | exact Rd.kb_bool_int | exact Rd.kb_bool_bool | exact Rd.kb_bool_str | exact Rd.kb_bool_tuple | exact Rd.kb_bool_list | exact Rd.kb_bool_dict))
  | ((with_reducible refine Rd.isiS (r := ?r) ?e ?_); (case e => first | exact Rd.kb_str_int | exact Rd.kb_str_bool | exact Rd.kb_str_str | exact Rd.kb_str_tuple | exact Rd.kb_str_list | exact Rd.kb_str_dict))
  | ((with_reducible refine Rd.isiN (r := ?r) ?e ?_); (case e => first | exact Rd.kb_NoneType_int | exact Rd.kb_NoneType_bool | exact Rd.kb_NoneType_str | exact Rd.kb_NoneType_tuple | exact Rd.kb_NoneType_list | exact Rd.kb_NoneType_dict))
  | ((with_reducible refine Rd.isiT (xs := ?xs) (r := ?r) ?h ?e ?_); (case h => walk_at "hp"); (case e => first | exact Rd.kb_tuple_int | exact Rd.kb_tuple_bool | exact Rd.kb_tuple_str | exact Rd.kb_tuple_tuple | exact Rd.kb_tuple_list | exact Rd.kb_tuple_dict))
  | ((with_reducible refine Rd.isiL (xs := ?xs) (r := ?r) ?h ?e ?_); (case h => walk_at "hp"); (case e => first | exact Rd.kb_list_int | exact Rd.kb_list_bool | exact Rd.kb_list_str | exact Rd.kb_list_tuple | exact Rd.kb_list_list | exact Rd.kb_list_dict))
  | (with_reducible refine Rd.iteNT ?_)
  | (with_reducible refine Rd.iteNF ?_)
  | (with_reducible refine Rd.iteB (fun _ => ?_) (fun _ => ?_))
  | (with_reducible refine Rd.asgS ?_)
  | (with_reducible refine Rd.for_ ?_)
  | (with_reducible refine Rd.iR1 ?_)
  | (with_reducible refine Rd.iR2 ?_)
  | (with_reducible refine Rd.iL ?_)
  | (with_reducible refine Rd.iT ?_)
  | (with_reducible refine Rd.lc_ ?_)
  | (with_reducible refine Rd.brk ?_)
  | (with_reducible refine Rd.cont ?_)
  | (with_reducible refine Rd.retN ?_)
  | (with_reducible refine Rd.sl ?_)
  | ((with_reducible show tAug _ _ _ _ _ _); refine Rd.aug rfl ?_)
  | (with_reducible refine Rd.augI ?_)
  | (with_reducible refine Rd.inS ?_)
  | (with_reducible refine Rd.bm0 ?_)
  | (with_reducible refine Rd.revL ?_)
  | ((with_reducible refine Rd.slL' (xs := ?xs) ?h (fun _ _ => ?_)); (case h => walk_at "hp"))
  | ((with_reducible refine Rd.revL' (xs := ?xs) ?h (fun _ _ => ?_)); (case h => walk_at "hp"))
  | ((with_reducible refine Rd.catL (xs := ?xs) (ys := ?ys) ?a ?b ?z (fun _ _ => ?_)); (case a => walk_at "hq"); (case b => walk_at "hq"); (case z => walk_at "sz"))
  | (with_reducible refine Rd.nopart ?_)
  | (with_reducible refine Rd.part ?_)
  | (with_reducible refine Rd.part' ?_)
  | (with_reducible refine Rd.whlN ?_)
  | ((with_reducible refine Rd.addS' ?h ?_); (case h => walk_at "tz"))
  | ((with_reducible refine Rd.lenS' ?h ?_); (case h => walk_at "tz"))
  | ((with_reducible refine Rd.mulS1 ?h ?_); (case h => omega))
  | ((with_reducible refine Rd.ixS (c := ?c) ?h ?a ?_); (case h => walk_at "tz"); (case a => walk_at "ixs"))
  | walk_at "use")
local macro_rules | `(tactic| walk_at "sz") => `(tactic| first
  | (simp only [List.length_map, List.length_append, List.length_cons, List.length_nil]; omega)
  | omega | decide)
local macro_rules | `(tactic| walk_at "tz") => `(tactic| first
  | omega
  | (simp only [List.length_append, List.length_cons, List.length_nil, List.length_replicate]; omega)
  | decide)
local macro_rules | `(tactic| walk_at "ixs") => `(tactic| first
  | assumption
  | ((with_reducible show atI (_ :: _) _ = _); (first | rfl | exact Rd.atI_of (by decide) rfl)))
local macro_rules | `(tactic| walk_at "ix") => `(tactic| first
  | (with_reducible refine Rd.atI_ints ?_ ?_ <;> omega)
  | ((with_reducible show atI (_ :: _) _ = _); (first | rfl | exact Rd.atI_of (by decide) rfl))
  | ((with_reducible show atI (List.set (_ :: _) _ _) _ = _); rfl))
local macro_rules | `(tactic| walk_at "rd") => `(tactic| repeat' (walk_at "rd1"))
local macro_rules | `(tactic| walk_at "sm") => `(tactic| first
  | (with_reducible exact Same.refl _)
  | assumption
  | ((with_reducible refine Same.trans ?_ (Rd.same_new ‹_›)); walk_at "sm")
  | ((with_reducible refine Same.trans ?_ ‹Same _ _›); walk_at "sm"))

local macro_rules | `(tactic| walk_at "rj") => `(tactic| repeat' ((fail_if_success (with_reducible show tSeq (tIfS _ _ _) _ _ _ _)); walk_at "rd1"))


local macro_rules | `(tactic| walk_at "pre") => `(tactic| first | assumption | (walk_at "hp") | ((with_reducible refine Dj.dpS (H := ?H0) ?h ?s); (case h => assumption); (case s => walk_at "sm")) | ((with_reducible refine Dj.dpS1 (H := ?H0) ?h ?s); (case h => assumption); (case s => walk_at "sm")) | omega | (constructor <;> omega) | decide | (simp only [List.length_map]; omega) | (simp only [List.length_cons, List.length_nil]; omega) | (exact Rd.slT) | (exact Rd.slL) | fail)
local macro_rules | `(tactic| walk_at "cnd") => `(tactic| first | (simp only [List.length_map]; omega) | (constructor <;> omega) | fail)
local macro_rules | `(tactic| walk_at "rd1") => `(tactic| first
  | ((with_reducible refine Dj.ixB (ns := ?ns) ?h ?b ?lo ?hi (fun _ _ _ => ?_)); (case h => walk_at "hp"); (case b => assumption); (case lo => omega); (case hi => first | omega | (simp only [List.length_map] at *; omega)))
  | ((with_reducible refine Dj.ixBm (ns := ?ns) ?h ?b ?lo (fun _ _ _ => ?_)); (case h => walk_at "hp"); (case b => assumption); (case lo => omega))
  | ((with_reducible refine Dj.lenI (ns := ?ns) ?h rfl ?_); (case h => walk_at "hp"))
  | (with_reducible refine Dj.gN ?_)
  | (with_reducible refine Re.meth ?_)
  | (with_reducible refine Re.prop ?_)
  | (with_reducible refine Re.stat ?_)
  | (with_reducible refine Rb.make ?_)
  | (with_reducible refine Re.statC ?_ rfl)
  | ((with_reducible refine Re.methB (P := ?P) (w := ?w) (N := ?N) ?h ?n ?_); (case h => walk_at "pre"); (case n => decide))
  | ((with_reducible refine Re.propB (P := ?P) (w := ?w) (N := ?N) ?h ?_); (case h => walk_at "pre"))
  | ((with_reducible refine Re.own2B (P := ?P) (w := ?w) (N := ?N) (M := ?M) ?h ?h' ?_); (case h => walk_at "pre"); (case h' => walk_at "pre"))
  | ((with_reducible refine Re.own1B (P := ?P) (w := ?w) (N := ?N) ?h ?_); (case h => walk_at "pre"))
  | ((with_reducible refine Re.rowsB (P := ?P) (w := ?w) (N := ?N) ?h ?c ?n (fun _ _ _ _ => ?_)); (case h => walk_at "pre"); (case c => assumption); (case n => assumption))
  | ((with_reducible refine Re.inOwnB (P := ?P) (w := ?w) (N := ?N) ?h ?_); (case h => walk_at "pre"))
  | ((with_reducible refine Re.boolOwnB (P := ?P) (w := ?w) (N := ?N) ?h ?_); (case h => walk_at "pre"))
  | ((with_reducible refine Re.neAst (x := ?x) (y := ?y) (i := ?i) (j := ?j) ?h1 ?h2 ?o1 ?o2 ?_); (case h1 => walk_at "hp"); (case h2 => walk_at "hp"); (case o1 => walk_at "oka"); (case o2 => walk_at "oka"))
  | ((with_reducible refine Re.eqAst (x := ?x) (y := ?y) (i := ?i) (j := ?j) ?h1 ?h2 ?o1 ?o2 ?_); (case h1 => walk_at "hp"); (case h2 => walk_at "hp"); (case o1 => walk_at "oka"); (case o2 => walk_at "oka"))
  | ((with_reducible show wipe _ _ = wipe _ _ ∧ _); refine ⟨rfl, ?_⟩)
  | ((with_reducible refine Re.fldK (C := ?C) (dx := ?dx) (fs := ?fs) (v := ?v) ?h ?c ?n ?l ?_); (case h => walk_at "hq"); (case c => assumption); (case n => assumption); (case l => rfl))
  | ((with_reducible refine Re.methI (dx := ?dx) (fs := ?fs) ?h ?l ?_); (case h => walk_at "hq"); (case l => rfl))
  | ((with_reducible refine Re.propI (dx := ?dx) (fs := ?fs) ?h ?_); (case h => walk_at "hq"))
  | (with_reducible refine Rb.fld ?_)
  | ((with_reducible refine Dj.fldK (C := ?C) (dx := ?dx) (fs := ?fs) (v := ?v) ?h ?c ?n ?l ?_); (case h => walk_at "hq"); (case c => assumption); (case n => assumption); (case l => rfl))
  | ((with_reducible refine Rd.lstL (ys := ?ys) ?h (fun _ _ => ?_)); (case h => walk_at "hp"))
  | ((with_reducible refine Rd.lstT (ys := ?ys) ?h (fun _ _ => ?_)); (case h => walk_at "hp"))
  | ((with_reducible refine Rd.tupL (ys := ?ys) ?h (fun _ _ => ?_)); (case h => walk_at "hp"))
  | ((with_reducible refine Rd.tupT (ys := ?ys) ?h ?_); (case h => walk_at "hp"))
  | ((with_reducible show tAsg _ (gTup _ _ _) _ _ _); (with_reducible refine Rb.asgG ?_))
  | ((with_reducible refine Dj.pair_of (x := ?x) (y := ?y) ?h ?_); (case h => walk_at "hp"))
  | ((with_reducible refine Dj.iteDt ?h ?_); (case h => walk_at "ar"))
  | ((with_reducible refine Dj.iteDf ?h ?_); (case h => walk_at "ar"))
  | ((with_reducible refine Dj.iteNt ?h ?_); (case h => walk_at "ar"))
  | ((with_reducible refine Dj.iteNf ?h ?_); (case h => walk_at "ar"))
  | fail)
local macro_rules | `(tactic| walk_at "ar") => `(tactic| first | omega | (simp only [List.length_cons, List.length_nil, List.length_map]; omega) | fail)
local macro_rules | `(tactic| walk_at "dead") => `(tactic| first | contradiction | (exfalso; omega) | (exfalso; simp only [List.length_cons, List.length_nil, List.length_map] at *; omega) | fail)
local macro_rules | `(tactic| walk_at "ix") => `(tactic| first | assumption | fail)
local macro_rules | `(tactic| walk_at "hq") => `(tactic| first
  | assumption
  | (with_reducible exact upd_same)
  | ((first
      | (with_reducible refine Rd.nh (by assumption) ?_)
      | (with_reducible refine Rd.uh (by assumption) ?_)
      | ((with_reducible refine Dj.sat (H0 := ?H0) ?s ?_); (case s => assumption))); walk_at "hq")
  | fail)
local macro_rules | `(tactic| walk_at "hp1") => `(tactic| first
  | (with_reducible refine Rd.nl (by assumption) ?_)
  | (with_reducible refine Rd.nt (by assumption) ?_)
  | (with_reducible refine Rd.ul (by assumption) ?_)
  | (with_reducible refine Rd.ut (by assumption) ?_)
  | ((with_reducible refine Dj.satL (H0 := ?H0) ?s ?_); (case s => assumption))
  | ((with_reducible refine Dj.satT (H0 := ?H0) ?s ?_); (case s => assumption))
  | fail)
local macro_rules | `(tactic| walk_at "hpr") => `(tactic| first
  | assumption
  | (with_reducible exact Rd.slL)
  | (with_reducible exact Rd.slT)
  | (walk_at "hp1"; walk_at "hpr")
  | fail)
local macro_rules | `(tactic| walk_at "hp") => `(tactic| first
  | walk_at "hpr"
  | ((first | (with_reducible refine SqL.of ?_) | (with_reducible refine SqT.of ?_)); walk_at "hq")
  | walk_at "hq"
  | fail)

local macro_rules | `(tactic| walk_at "pre") => `(tactic| first | ((with_reducible refine Es.BdS.keep (H := ?H0) ?h ?s); (case h => assumption); (case s => walk_at "sm")) | fail)
local macro_rules | `(tactic| walk_at "oka") => `(tactic| first | assumption | exact (show Bd.OkA coinA by unfold Bd.OkA coinA; decide +kernel) | fail)
local macro_rules | `(tactic| walk_at "hpr") => `(tactic| first | (with_reducible exact (‹∀ H : Hp, SqT _ H _ _› _)) | fail)


local macro_rules | `(tactic| walk_at "ar") => `(tactic| first | omega | (simp only [List.length_cons, List.length_nil, List.length_map]; omega) | decide | (simp only [List.cons.injEq, and_true]; omega) | (simp only [Ez.lt11]; omega) | fail)
local macro_rules | `(tactic| walk_at "rd1") => `(tactic| first
  | ((with_reducible refine Ez.lenS2 ?h ?_); (case h => first | assumption | omega))
  | ((with_reducible refine Ez.augSc (s := ?s) (dx := ?dx) (t := ?t) (i := ?i) ?v ?h ?c ?n ?_); (case v => rfl); (case h => walk_at "hq"); (case c => assumption); (case n => assumption))
  | (with_reducible refine Ez.leS ?_)
  | (with_reducible refine Ez.joinR ?_)
  | (with_reducible refine Ez.strA ?_)
  | ((with_reducible refine Ez.jS0 ?h ?_); (case h => omega))
  | ((with_reducible refine Ez.jS ?h ?_); (case h => first | omega | (simp only [List.length_append, List.length_cons, List.length_nil]; omega)))
  | ((with_reducible refine Ez.fmtI ?h ?_); (case h => omega))
  | ((with_reducible refine Ez.fmtS ?h ?_); (case h => omega))
  | (with_reducible refine Ez.tJ1 ?_)
  | ((with_reducible refine Ez.addS2 ?h ?_); (case h => first | omega | (simp only [List.length_append, List.length_cons, List.length_nil]; omega)))
  | (with_reducible refine Ez.tJ0 ?_)
  | (with_reducible refine Ez.fmt ?_)
  | (with_reducible refine Ez.ordS ?_)
  | (with_reducible refine Ez.iS ?_)
  | fail)

local macro_rules | `(tactic| walk_at "issp") => `(tactic| first | (with_reducible show sp_write _ _ _ _ _ _) | (with_reducible show sp_Scanner___init _ _ _ _ _) | (with_reducible show sp_Scanner_char _ _ _ _ _) | (with_reducible show sp_Scanner_skip _ _ _ _ _) | (with_reducible show sp_Scanner_require _ _ _ _ _) | (with_reducible show sp_read _ _ _ _ _) | (with_reducible show sp_value _ _ _ _ _ _) | (with_reducible show sp_is_digit _ _ _ _ _) | (with_reducible show sp_digits _ _ _ _ _) | (with_reducible show sp_string _ _ _ _ _) | (with_reducible show sp_tuple _ _ _ _ _ _) | (with_reducible show sp_law_cell _ _ _ _ _) | (with_reducible show sp_law_numbers _ _ _ _ _) | (with_reducible show sp_law_tape _ _ _ _ _) | (with_reducible show sp_law_char _ _ _ _ _) | (with_reducible show sp_law_text _ _ _ _ _) | (with_reducible show sp_law_integer _ _ _ _ _) | (with_reducible show sp_law_leaf _ _ _ _ _) | (with_reducible show sp_law_value _ _ _ _ _) | (with_reducible show sp_law_written _ _ _ _ _ _) | (with_reducible show sp_law_same _ _ _ _ _ _) | fail)
local macro_rules | `(tactic| walk_at "rn") => `(tactic| repeat' ((fail_if_success (walk_at "issp")); walk_at "rd1"))
local macro_rules | `(tactic| walk_at "rnj") => `(tactic| repeat' ((fail_if_success (walk_at "issp")); (fail_if_success (with_reducible show tSeq (tIfS _ _ _) _ _ _ _)); walk_at "rd1"))
local macro_rules | `(tactic| walk_at "use") => `(tactic| first
  | ((with_reducible show sp_write _ _ _ _ _ _); refine ⟨_, ?d, rfl, ?h0, ?h1, ?h2, ?h3, (fun _ _ => ?_)⟩; (case h0 => walk_at "pre"); (case h1 => walk_at "pre"); (case h2 => walk_at "pre"); (case h3 => walk_at "pre"))
  | ((with_reducible show sp_Scanner___init _ _ _ _ _); refine ⟨_, ?dx, _, rfl, ?h0, (fun _ _ _ => ?_)⟩; (case h0 => walk_at "pre"))
  | ((with_reducible show sp_Scanner_char _ _ _ _ _); refine ⟨_, ?dx, ?t, ?i, ?r, rfl, ?h0, ?h1, ?h2, ?_⟩; (case h0 => walk_at "pre"); (case h1 => walk_at "pre"); (case h2 => walk_at "pre"))
  | ((with_reducible show sp_Scanner_skip _ _ _ _ _); refine ⟨_, ?dx, ?t, ?i, ?r, _, rfl, ?h0, ?h1, ?h2, ?_⟩; (case h0 => walk_at "pre"); (case h1 => walk_at "pre"); (case h2 => walk_at "pre"))
  | ((with_reducible show sp_Scanner_require _ _ _ _ _); refine ⟨_, rfl, ?_⟩; skip)
  | ((with_reducible show sp_read _ _ _ _ _); refine ⟨_, rfl, ?h0, ?h1, ?h2, (fun _ _ _ _ => ?_)⟩; (case h0 => walk_at "pre"); (case h1 => walk_at "pre"); (case h2 => walk_at "pre"))
  | ((with_reducible show sp_value _ _ _ _ _ _); refine ⟨_, ?dx, ?t, ?i, ?r, ?d, _, rfl, ?h0, ?h1, ?h2, ?h3, ?h4, ?h5, ?h6, (fun _ _ _ _ => ?_)⟩; (case h0 => walk_at "pre"); (case h1 => walk_at "pre"); (case h2 => walk_at "pre"); (case h3 => walk_at "pre"); (case h4 => walk_at "pre"); (case h5 => walk_at "pre"); (case h6 => walk_at "pre"))
  | ((with_reducible show sp_is_digit _ _ _ _ _); refine ⟨_, rfl, ?_⟩; skip)
  | ((with_reducible show sp_digits _ _ _ _ _); refine ⟨_, ?dx, ?t, ?i, ?r, ?m, rfl, ?h0, ?h1, ?h2, ?h3, ?h4, (fun _ _ => ?_)⟩; (case h0 => walk_at "pre"); (case h1 => walk_at "pre"); (case h2 => walk_at "pre"); (case h3 => walk_at "pre"); (case h4 => walk_at "pre"))
  | ((with_reducible show sp_string _ _ _ _ _); refine ⟨_, ?dx, ?t, ?i, ?r, _, rfl, ?h0, ?h1, ?h2, ?h3, ?h4, (fun _ _ => ?_)⟩; (case h0 => walk_at "pre"); (case h1 => walk_at "pre"); (case h2 => walk_at "pre"); (case h3 => walk_at "pre"); (case h4 => walk_at "pre"))
  | ((with_reducible show sp_tuple _ _ _ _ _ _); refine ⟨_, ?dx, ?t, ?i, ?r, ?ds, _, rfl, ?h0, ?h1, ?h2, ?h3, ?h4, ?h5, (fun _ _ _ _ => ?_)⟩; (case h0 => walk_at "pre"); (case h1 => walk_at "pre"); (case h2 => walk_at "pre"); (case h3 => walk_at "pre"); (case h4 => walk_at "pre"); (case h5 => walk_at "pre"))
  | ((with_reducible show sp_law_cell _ _ _ _ _); refine ⟨_, ?ns, _, rfl, ?h0, ?h1, ?h2, (fun _ _ => ?_)⟩; (case h0 => walk_at "pre"); (case h1 => walk_at "pre"); (case h2 => walk_at "pre"))
  | ((with_reducible show sp_law_numbers _ _ _ _ _); refine ⟨_, _, rfl, ?h0, (fun _ _ _ _ _ _ _ _ => ?_)⟩; (case h0 => walk_at "pre"))
  | ((with_reducible show sp_law_tape _ _ _ _ _); refine ⟨_, ?ns, _, _, rfl, ?h0, ?h1, ?h2, ?h3, (fun _ _ _ _ _ _ _ _ _ => ?_)⟩; (case h0 => walk_at "pre"); (case h1 => walk_at "pre"); (case h2 => walk_at "pre"); (case h3 => walk_at "pre"))
  | ((with_reducible show sp_law_char _ _ _ _ _); refine ⟨_, rfl, (fun _ _ => ?_)⟩; skip)
  | ((with_reducible show sp_law_text _ _ _ _ _); refine ⟨_, _, rfl, ?h0, ?h1, (fun _ _ _ _ => ?_)⟩; (case h0 => walk_at "pre"); (case h1 => walk_at "pre"))
  | ((with_reducible show sp_law_integer _ _ _ _ _); refine ⟨_, _, rfl, ?h0, ?h1, (fun _ _ _ _ => ?_)⟩; (case h0 => walk_at "pre"); (case h1 => walk_at "pre"))
  | ((with_reducible show sp_law_leaf _ _ _ _ _); refine ⟨_, _, rfl, ?h0, ?h1, (fun _ _ _ _ _ _ _ _ => ?_)⟩; (case h0 => walk_at "pre"); (case h1 => walk_at "pre"))
  | ((with_reducible show sp_law_value _ _ _ _ _); refine ⟨_, _, ?ns, ?nums, rfl, ?h0, ?h1, ?h2, ?h3, ?h4, (fun _ _ _ _ _ _ _ _ => ?_)⟩; (case h0 => walk_at "pre"); (case h1 => walk_at "pre"); (case h2 => walk_at "pre"); (case h3 => walk_at "pre"); (case h4 => walk_at "pre"))
  | ((with_reducible show sp_law_written _ _ _ _ _ _); refine ⟨_, ?d, rfl, ?h0, ?h1, ?h2, ?h3, (fun _ _ => ?_)⟩; (case h0 => walk_at "pre"); (case h1 => walk_at "pre"); (case h2 => walk_at "pre"); (case h3 => walk_at "pre"))
  | ((with_reducible show sp_law_same _ _ _ _ _ _); refine ⟨_, _, ?d, rfl, ?h0, ?h1, ?h2, ?h3, ?h4, ?_⟩; (case h0 => walk_at "pre"); (case h1 => walk_at "pre"); (case h2 => walk_at "pre"); (case h3 => walk_at "pre"); (case h4 => walk_at "pre"))
  | fail)
theorem lit_0 : Str.ofString ")" = Rd.S [41] := by decide +kernel
theorem lit_1 : Str.ofString "T" = Rd.S [84] := by decide +kernel
theorem lit_2 : Str.ofString "F" = Rd.S [70] := by decide +kernel
theorem lit_3 : Str.ofString ":" = Rd.S [58] := by decide +kernel
theorem lit_4 : Str.ofString "(" = Rd.S [40] := by decide +kernel
theorem lit_5 : Str.ofString " " = Rd.S [32] := by decide +kernel
theorem lit_6 : Str.ofString "" = Rd.S [] := by decide +kernel
theorem lit_7 : Str.ofString "-" = Rd.S [45] := by decide +kernel
theorem lit_8 : Str.ofString "1" = Rd.S [49] := by decide +kernel
theorem lit_9 : Str.ofString "9" = Rd.S [57] := by decide +kernel
theorem lit_10 : Str.ofString "0" = Rd.S [48] := by decide +kernel
theorem lit_11 : Str.ofString "~" = Rd.S [126] := by decide +kernel
theorem lit_12 : Str.ofString " !\"#$&'()*+,-./0123456789:;<=>?@ABCDEFGHIJKLMNOPQRSTUVWXYZ[\\]^_`" = Rd.S [32, 33, 34, 35, 36, 38, 39, 40, 41, 42, 43, 44, 45, 46, 47, 48, 49, 50, 51, 52, 53, 54, 55, 56, 57, 58, 59, 60, 61, 62, 63, 64, 65, 66, 67, 68, 69, 70, 71, 72, 73, 74, 75, 76, 77, 78, 79, 80, 81, 82, 83, 84, 85, 86, 87, 88, 89, 90, 91, 92, 93, 94, 95, 96] := by decide +kernel
theorem lit_13 : Str.ofString "abcdefghijklmnopqrstuvwxyz{|}~" = Rd.S [97, 98, 99, 100, 101, 102, 103, 104, 105, 106, 107, 108, 109, 110, 111, 112, 113, 114, 115, 116, 117, 118, 119, 120, 121, 122, 123, 124, 125, 126] := by decide +kernel
theorem lit_14 : Str.ofString "():0 T-1" = Rd.S [40, 41, 58, 48, 32, 84, 45, 49] := by decide +kernel
theorem lit_15 : Str.ofString "?" = Rd.S [63] := by decide +kernel
def d_Scanner___init : He.DefD := ⟨("Scanner", some "__init__"), "__init__", "Scanner.__init__", defArgs s_Scanner___init, defBody s_Scanner___init, defScope s_Scanner___init, [], []⟩
def d_Scanner_char : He.DefD := ⟨("Scanner", some "char"), "char", "Scanner.char", defArgs s_Scanner_char, defBody s_Scanner_char, defScope s_Scanner_char, [], []⟩
def d_Scanner_require : He.DefD := ⟨("Scanner", some "require"), "require", "Scanner.require", defArgs s_Scanner_require, defBody s_Scanner_require, defScope s_Scanner_require, [], []⟩
def d_is_digit : He.DefD := ⟨("_is_digit", none), "_is_digit", "_is_digit", defArgs s_is_digit, defBody s_is_digit, defScope s_is_digit, [], []⟩
def d_law_cell : He.DefD := ⟨("_law_cell", none), "_law_cell", "_law_cell", defArgs s_law_cell, defBody s_law_cell, defScope s_law_cell, [], []⟩
def d_law_numbers : He.DefD := ⟨("_law_numbers", none), "_law_numbers", "_law_numbers", defArgs s_law_numbers, defBody s_law_numbers, defScope s_law_numbers, [], []⟩
def d_law_char : He.DefD := ⟨("_law_char", none), "_law_char", "_law_char", defArgs s_law_char, defBody s_law_char, defScope s_law_char, [], []⟩
def d_law_integer : He.DefD := ⟨("_law_integer", none), "_law_integer", "_law_integer", defArgs s_law_integer, defBody s_law_integer, defScope s_law_integer, [], []⟩
def d_Scanner_skip : He.DefD := ⟨("Scanner", some "skip"), "skip", "Scanner.skip", defArgs s_Scanner_skip, defBody s_Scanner_skip, defScope s_Scanner_skip, [], []⟩
def d_digits : He.DefD := ⟨("_digits", none), "_digits", "_digits", defArgs s_digits, defBody s_digits, defScope s_digits, [], []⟩
def d_string : He.DefD := ⟨("_string", none), "_string", "_string", defArgs s_string, defBody s_string, defScope s_string, [], []⟩
def d_law_tape : He.DefD := ⟨("_law_tape", none), "_law_tape", "_law_tape", defArgs s_law_tape, defBody s_law_tape, defScope s_law_tape, [], []⟩
def d_law_text : He.DefD := ⟨("_law_text", none), "_law_text", "_law_text", defArgs s_law_text, defBody s_law_text, defScope s_law_text, [], []⟩
def d_law_leaf : He.DefD := ⟨("_law_leaf", none), "_law_leaf", "_law_leaf", defArgs s_law_leaf, defBody s_law_leaf, defScope s_law_leaf, [], []⟩
def d_law_value : He.DefD := ⟨("_law_value", none), "_law_value", "_law_value", defArgs s_law_value, defBody s_law_value, defScope s_law_value, [], []⟩
def d_write : He.DefD := ⟨("write", none), "write", "write", defArgs s_write, defBody s_write, defScope s_write, [], []⟩
def d_law_written : He.DefD := ⟨("_law_written", none), "_law_written", "_law_written", defArgs s_law_written, defBody s_law_written, defScope s_law_written, [], []⟩
def d_law_same : He.DefD := ⟨("_law_same", none), "_law_same", "_law_same", defArgs s_law_same, defBody s_law_same, defScope s_law_same, [], []⟩
def d_tuple : He.DefD := ⟨("_tuple", none), "_tuple", "_tuple", defArgs s_tuple, defBody s_tuple, defScope s_tuple, [], []⟩
def d_value : He.DefD := ⟨("_value", none), "_value", "_value", defArgs s_value, defBody s_value, defScope s_value, [], []⟩
def d_read : He.DefD := ⟨("read", none), "read", "read", defArgs s_read, defBody s_read, defScope s_read, [], []⟩
def d_law : He.DefD := ⟨("law", none), "law", "law", defArgs s_law, defBody s_law, defScope s_law, [], []⟩
def fn : List He.DefD := [d_Scanner___init, d_Scanner_char, d_Scanner_require, d_is_digit, d_law_cell, d_law_numbers, d_law_char, d_law_integer, d_Scanner_skip, d_digits, d_string, d_law_tape, d_law_text, d_law_leaf, d_law_value, d_write, d_law_written, d_law_same, d_tuple, d_value, d_read, d_law]
def fa : List He.Fa := [.glo "_is_digit", .glo "_law_cell", .glo "_law_numbers", .glo "_law_char", .glo "_law_integer", .glo "_digits", .glo "_string", .glo "_law_tape", .glo "_law_text", .glo "_law_leaf", .glo "_law_value", .glo "write", .glo "_law_written", .glo "_law_same", .glo "_tuple", .glo "_value", .glo "read", .glo "law", .free "abs", .free "bool", .free "int", .free "isinstance", .free "len", .free "max", .free "min", .free "ord", .free "range", .free "str", .free "tuple", .cls "Scanner", .glo "Scanner", .mkr "Scanner", .meth "Scanner" "char", .meth "Scanner" "require", .meth "Scanner" "skip", .noat "Scanner" "at", .noat "Scanner" "text", .int "_LONGEST_STRING" 1000, .int "_MOST_DEPTH" 12, .int "_MOST_DIGITS" 60, .int "_PERCENT" 37]
abbrev R : PySem.W.OpenRow := PySem.W.OpenLaw.row PySem.Challenge.rw_keptcoin_k72_notation
def ex (K : PySem.W.Frag) : Bool := true
abbrev hk : PySem.W.Hook := He.hookX 4 fa fn [] [] ex
def ob (s : PySem.W.SharedT) : He.AlX := He.obsX 4 fa fn [] [] ex (HandSHeadRun.getT s)
theorem ob_eq (s : PySem.W.SharedT) : ob s = hk.obs s.abs := He.obsX_eq (HandSHeadRun.getT_eq s)
theorem run (w : World) : HandSHeadRun.RunEq R (PySem.W.view R.prog [28]) hk ob 2000 [("KeptError" : PySem.Str), ("RecordError" : PySem.Str), ("BadNotation" : PySem.Str), ("_MOST_DEPTH" : PySem.Str), ("_MOST_DIGITS" : PySem.Str), ("_LONGEST_STRING" : PySem.Str), ("_PERCENT" : PySem.Str), ("write" : PySem.Str), ("Scanner" : PySem.Str), ("read" : PySem.Str), ("_value" : PySem.Str), ("_is_digit" : PySem.Str), ("_digits" : PySem.Str), ("_string" : PySem.Str), ("_tuple" : PySem.Str), ("_law_cell" : PySem.Str), ("_law_numbers" : PySem.Str), ("_law_tape" : PySem.Str), ("_law_char" : PySem.Str), ("_law_text" : PySem.Str), ("_law_integer" : PySem.Str), ("_law_leaf" : PySem.Str), ("_law_value" : PySem.Str), ("_law_written" : PySem.Str), ("_law_same" : PySem.Str)] w := by
  intro os
  kernel_rfl
section
variable {P : Program} {w : World} {K : PySem.W.Frag} {mg : Str → Option Value} {base : Heap}
theorem fn_Scanner___init {fd : FuncData} (F : FunD K "__init__" "Scanner.__init__" (defArgs s_Scanner___init) (defBody s_Scanner___init) (defScope s_Scanner___init) [] [] (He.fAd K ("Scanner", some "__init__")) fd)   (W_Scanner : CF_Scanner K mg) : FnOk P w K mg base CX0 1 (He.fAd K ("Scanner", some "__init__")) fd ["self", "text"] (sp_Scanner___init K) := by
  have cf_Scanner := W_Scanner
  have cfc_Scanner := cf_Scanner.cls
  have cfn_Scanner_at := cf_Scanner.n_at
  have cfn_Scanner_text := cf_Scanner.n_text
  refine F.ok sc_Scanner___init (fun vs H Q E h => ?_) (fun cdv A outer s H vs Q E hr h => ?_)
  · obtain ⟨s, dx, t, rfl, _⟩ := h; rfl
  · obtain ⟨s, dx, t, rfl, hs, k⟩ := h
    refine ⟨_, PSs.nox (pss_cons (ps_fld (pv 0) (pv 1) rfl)
      (pss_one (ps_fld (pv 0) pe_int rfl))), ?_⟩
    try simp only [Rd.cxK, Re.cxP, Re.cxW]
    refine Rd.seq (Rb.sfld (Rd.var rfl (Rd.var rfl ⟨s, _, dx, [], rfl, hs, cfc_Scanner, cfn_Scanner_text, by decide, ?_⟩)))
    refine Rb.sfld (Rd.cst (Rd.var rfl ⟨s, _, dx, _, rfl, upd_same, cfc_Scanner, cfn_Scanner_at, by show 1 < 1000; decide, ?_⟩))
    refine k _ (fun a o ha e => (upd_ne ha).trans ((upd_ne ha).trans e)) ?_
    exact upd_same
theorem ok_Scanner___init {fd : FuncData} (F : FunD K "__init__" "Scanner.__init__" (defArgs s_Scanner___init) (defBody s_Scanner___init) (defScope s_Scanner___init) [] [] (He.fAd K ("Scanner", some "__init__")) fd)   (W_Scanner : CF_Scanner K mg) : CalM P w K mg base (He.fAd K ("Scanner", some "__init__")) 1 ["self", "text"] [] (sp_Scanner___init K) :=
  ⟨fd, F.bindsN fun _ _ _ _ _ _ us hl => match us, hl with | [_, _], _ => rfl, fn_Scanner___init F W_Scanner, [], .nil, F.bindsN fun _ _ _ _ _ _ us hl => match us, hl with | [_, _], _ => rfl⟩

theorem fn_Scanner_char {fd : FuncData} (F : FunD K "char" "Scanner.char" (defArgs s_Scanner_char) (defBody s_Scanner_char) (defScope s_Scanner_char) [] [] (He.fAd K ("Scanner", some "char")) fd)  (z_len : mg "len" = none) (W_Scanner : CF_Scanner K mg) : FnOk P w K mg base CX0 1 (He.fAd K ("Scanner", some "char")) fd ["self"] (sp_Scanner_char K) := by
  have cf_Scanner := W_Scanner
  have cfc_Scanner := cf_Scanner.cls
  have cfn_Scanner_at := cf_Scanner.n_at
  have cfn_Scanner_text := cf_Scanner.n_text
  refine F.ok sc_Scanner_char (fun vs H Q E h => ?_) (fun cdv A outer s H vs Q E hr h => ?_)
  · obtain ⟨s, dx, t, i, r, rfl, _⟩ := h; rfl
  · obtain ⟨s, dx, t, i, r, rfl, hs, hr1, hl, k⟩ := h
    refine ⟨_, PSs.nox (pss_one (ps_ret (pe_ifExp (pt_cmpR op_lt (pe_fld (pv 0) rfl) (pe_callB call_len_str (by rfl) z_len boot_len (pa_cons (pe_fld (pv 0) rfl) pa_nil)) (nomark _)) (pe_ix ix_str (pe_fld (pv 0) rfl) (pe_fld (pv 0) rfl) (fun _ _ => rfl)) pe_str))), ?_⟩
    try simp only [Rd.cxK, Re.cxP, Re.cxW, lit_6]
    cases r with
    | nil =>
      have h1 : t.length ≤ i := by
        have e := congrArg List.length hr1
        rw [List.length_drop] at e
        simpa using Nat.le_of_sub_eq_zero e
      walk_at "rd"
      exact k
    | cons c r =>
      obtain ⟨h1, h2, h3⟩ := head_at hr1
      walk_at "rd"
      refine ixS2 hl (Rd.atI_of (by omega) h1) ?_
      exact k
theorem ok_Scanner_char {fd : FuncData} (F : FunD K "char" "Scanner.char" (defArgs s_Scanner_char) (defBody s_Scanner_char) (defScope s_Scanner_char) [] [] (He.fAd K ("Scanner", some "char")) fd)  (z_len : mg "len" = none) (W_Scanner : CF_Scanner K mg) : CalM P w K mg base (He.fAd K ("Scanner", some "char")) 1 ["self"] [] (sp_Scanner_char K) :=
  ⟨fd, F.bindsN fun _ _ _ _ _ _ us hl => match us, hl with | [_], _ => rfl, fn_Scanner_char F z_len W_Scanner, [], .nil, F.bindsN fun _ _ _ _ _ _ us hl => match us, hl with | [_], _ => rfl⟩

theorem fn_Scanner_require {fd : FuncData} (F : FunD K "require" "Scanner.require" (defArgs s_Scanner_require) (defBody s_Scanner_require) (defScope s_Scanner_require) [] [] (He.fAd K ("Scanner", some "require")) fd)   : FnOk P w K mg base CX0 1 (He.fAd K ("Scanner", some "require")) fd ["self", "good"] (sp_Scanner_require K) := by
  refine F.ok sc_Scanner_require (fun vs H Q E h => ?_) (fun cdv A outer s H vs Q E hr h => ?_)
  · obtain ⟨s, rfl, _⟩ := h; rfl
  · obtain ⟨s, rfl, k⟩ := h
    refine ⟨_, PSs.nox (pss_one (ps_if (pt_not (pt_val (pv 1))) (pss_one ps_never) pss_nil)), ?_⟩
    try simp only [Rd.cxK, Re.cxP, Re.cxW]
    walk_at "rd"
    exact k
theorem ok_Scanner_require {fd : FuncData} (F : FunD K "require" "Scanner.require" (defArgs s_Scanner_require) (defBody s_Scanner_require) (defScope s_Scanner_require) [] [] (He.fAd K ("Scanner", some "require")) fd)   : CalM P w K mg base (He.fAd K ("Scanner", some "require")) 1 ["self", "good"] [] (sp_Scanner_require K) :=
  ⟨fd, F.bindsN fun _ _ _ _ _ _ us hl => match us, hl with | [_, _], _ => rfl, fn_Scanner_require F , [], .nil, F.bindsN fun _ _ _ _ _ _ us hl => match us, hl with | [_, _], _ => rfl⟩

theorem fn_is_digit {f : Addr} {fd : FuncData} (F : FnP K "_is_digit" s_is_digit f fd)   : FnOk P w K mg base CX0 1 f fd ["char"] (sp_is_digit K) := by
  refine F.ok sc_is_digit (fun vs H Q E h => ?_) (fun cdv A outer s H vs Q E hr h => ?_)
  · obtain ⟨r, rfl, _⟩ := h; rfl
  · obtain ⟨r, rfl, k⟩ := h
    refine ⟨_, PSs.nox (pss_one (ps_ret (pe_chain Ez.op_leS Ez.op_leS pe_str (pv 0) pe_str))), ?_⟩
    try simp only [Rd.cxK, Re.cxP, Re.cxW, lit_10, lit_9]
    cases r with
    | nil =>
      rw [List.take_nil]
      walk_at "rd"
      all_goals first | exact k | (rename_i h; exact absurd lt01 h)
    | cons c r =>
      have e : List.take 1 (c :: r) = [c] := rfl
      rw [e]
      walk_at "rd"
      · rename_i h
        rw [lt11] at h
        have e2 : isd (c :: r) = !decide (([57] : List Nat) < [c]) := by
          show (decide (48 ≤ c) && decide (c ≤ 57)) = _
          rw [decide_eq_true (by omega : 48 ≤ c), Bool.true_and]
          by_cases q : 57 < c
          · rw [decide_eq_false (by omega), decide_eq_true (lt11.mpr q)]; rfl
          · rw [decide_eq_true (by omega), decide_eq_false (fun z => q (lt11.mp z))]; rfl
        rw [← e2]; exact k
      · rename_i h
        rw [lt11] at h
        have e2 : isd (c :: r) = false := by show (decide (48 ≤ c) && decide (c ≤ 57)) = _; rw [decide_eq_false (by omega)]; rfl
        rw [← e2]; exact k
theorem ok_is_digit {f : Addr} {fd : FuncData} (mf : mg "_is_digit" = some (.ref f)) (F : FnP K "_is_digit" s_is_digit f fd)   : Cal P w K mg base "_is_digit" 1 ["char"] (sp_is_digit K) :=
  ⟨f, fd, mf, F.kp, F.bindsN fun _ _ _ _ _ _ us hl => match us, hl with | [_], _ => rfl, fn_is_digit F ⟩

theorem fn_law_cell {f : Addr} {fd : FuncData} (F : FnP K "_law_cell" s_law_cell f fd)  (z_len : mg "len" = none) : FnOk P w K mg base CX0 1 f fd ["script", "k"] (sp_law_cell K) := by
  refine F.ok sc_law_cell (fun vs H Q E h => ?_) (fun cdv A outer s H vs Q E hr h => ?_)
  · obtain ⟨a, ns, i, rfl, _⟩ := h; rfl
  · obtain ⟨a, ns, i, rfl, hS, h0, hbt, k⟩ := h
    refine ⟨_, PSs.nox (pss_cons (ps_if (pt_cmpR op_lt (pv 1) (pe_callB call_len_seq (by rfl) z_len boot_len (pa_cons (pv 0) pa_nil)) (nomark _)) (pss_one (ps_ret (pe_ix ix_list (pv 0) (pv 1) (fun _ _ => rfl)))) pss_nil)
      (pss_one (ps_ret pe_int))), ?_⟩
    try simp only [Rd.cxK, Re.cxP, Re.cxW]
    walk_at "rd"
    · exact k _ (by
        by_cases h : i.toNat < ns.length
        · rw [List.getD_eq_getElem?_getD, List.getElem?_eq_getElem h]; exact hbt _ (List.getElem_mem h)
        · rw [List.getD_eq_getElem?_getD, List.getElem?_eq_none (by omega)]; decide)
    · exact k 0 (by decide)
theorem ok_law_cell {f : Addr} {fd : FuncData} (mf : mg "_law_cell" = some (.ref f)) (F : FnP K "_law_cell" s_law_cell f fd)  (z_len : mg "len" = none) : Cal P w K mg base "_law_cell" 1 ["script", "k"] (sp_law_cell K) :=
  ⟨f, fd, mf, F.kp, F.bindsN fun _ _ _ _ _ _ us hl => match us, hl with | [_, _], _ => rfl, fn_law_cell F z_len⟩

theorem fn_law_numbers {f : Addr} {fd : FuncData} (F : FnP K "_law_numbers" s_law_numbers f fd)  (z_abs : mg "abs" = none) (z_range : mg "range" = none) (z_int : mg "int" = none) : FnOk P w K mg base CX0 1 f fd ["cell", "many"] (sp_law_numbers K) := by
  refine F.ok sc_law_numbers (fun vs H Q E h => ?_) (fun cdv A outer s H vs Q E hr h => ?_)
  · obtain ⟨c, m, rfl, _⟩ := h; rfl
  · obtain ⟨c, m, rfl, hm, k⟩ := h
    refine ⟨_, PSs.nox (pss_cons (ps_set (i := 2) sc_law_numbers.nd rfl (by first | exact Or.inl rfl | exact Or.inr rfl) (pe_callB call_abs (by rfl) z_abs boot_abs (pa_cons (pv 0) pa_nil)))
      (pss_cons (ps_set (i := 3) sc_law_numbers.nd rfl (by first | exact Or.inl rfl | exact Or.inr rfl) (pv 2))
      (pss_cons (ps_set (i := 4) sc_law_numbers.nd rfl (by first | exact Or.inl rfl | exact Or.inr rfl) (pe_lst pa_nil))
      (pss_cons (ps_for PassesOwn.never rfl (pi_range1 (by rfl) z_range (pa_cons (pv 1) pa_nil)) (pg_name (i := 5) sc_law_numbers.nd rfl (by first | exact Or.inl rfl | exact Or.inr rfl)) (pss_one (ps_if (PW.pt (pw_and (pt_cmpR op_ge (pv 2) (pe_op op_pow pe_int pe_int) (nomark _)) (pw_and1 (pt_cmpR op_gt (pv 3) pe_int (nomark _))))) (pss_cons (ps_expr (pe_bm PySem.F.plainAttrs_list PySem.F.slot_list_append PySem.F.type_list_append mt_append (pv 4) (pa_cons (pe_op op_mod (pe_callTy call_int1 (by rfl) z_int boot_int (pa_cons (pv 3) pa_nil)) pe_int) pa_nil)))
      (pss_one (ps_set (i := 3) sc_law_numbers.nd rfl (by first | exact Or.inl rfl | exact Or.inr rfl) (pe_op op_fdiv (pv 3) pe_int)))) (pss_cons (ps_set (i := 6) sc_law_numbers.nd rfl (by first | exact Or.inl rfl | exact Or.inr rfl) (pe_op op_mod (pe_callTy call_int1 (by rfl) z_int boot_int (pa_cons (pe_op op_add (pe_op op_add (pe_op op_mul (pv 2) pe_int) (pe_op op_mul (pv 5) pe_int)) pe_int) pa_nil)) pe_int))
      (pss_cons (ps_set (i := 6) sc_law_numbers.nd rfl (by first | exact Or.inl rfl | exact Or.inr rfl) (pe_op op_mod (pe_callTy call_int1 (by rfl) z_int boot_int (pa_cons (pe_op op_add (pe_op op_add (pe_op op_mul (pv 6) (pv 6)) (pe_op op_mul pe_int (pv 5))) pe_int) pa_nil)) pe_int))
      (pss_one (ps_expr (pe_bm PySem.F.plainAttrs_list PySem.F.slot_list_append PySem.F.type_list_append mt_append (pv 4) (pa_cons (pe_op op_mod (pe_callTy call_int1 (by rfl) z_int boot_int (pa_cons (pe_op op_fdiv (pv 6) pe_int) pa_nil)) pe_int) pa_nil)))))))))
      (pss_one (ps_ret (pv 4))))))), ?_⟩
    try simp only [Rd.cxK, Re.cxP, Re.cxW]
    walk_at "rd"
    rename_i z hz0 hz1 p hp
    refine Rd.rng1 (fun i σ' H' => ∃ (r : Int) (nums : List Int) (kv mv : Option V), σ' = [some (.int c), some (.int m), some (.int z), some (.int r), some (.ref p), kv, mv] ∧ 0 ≤ r ∧ nums.length = i ∧ (∀ x ∈ nums, 0 ≤ x ∧ x < 1000) ∧ Same H H' ∧ H' p = some (.lst (nums.map V.int))) ⟨by omega, by omega⟩ ?_ ?_ ?_
    · exact ⟨z, [], _, _, rfl, hz0, rfl, by simp, Rd.same_new hp, upd_same⟩
    · rintro i σ' H' hi ⟨r, nums, kv, mv, rfl, hr0, hl, hb, hs, hp'⟩
      walk_at "rd"
      all_goals (refine ⟨_, nums ++ [_], _, _, rfl, ?_, ?_, Rd.bd_app hb ?_, Rd.same_mut hs hp, Rd.pushInts⟩ <;> first | omega | simp [hl])
    · rintro σ' H' ⟨r, nums, kv, mv, rfl, hr0, hl, hb, hs, hp'⟩
      walk_at "rd"
      exact k p nums H' hs hp hp' hl hb
theorem ok_law_numbers {f : Addr} {fd : FuncData} (mf : mg "_law_numbers" = some (.ref f)) (F : FnP K "_law_numbers" s_law_numbers f fd)  (z_abs : mg "abs" = none) (z_range : mg "range" = none) (z_int : mg "int" = none) : Cal P w K mg base "_law_numbers" 1 ["cell", "many"] (sp_law_numbers K) :=
  ⟨f, fd, mf, F.kp, F.bindsN fun _ _ _ _ _ _ us hl => match us, hl with | [_, _], _ => rfl, fn_law_numbers F z_abs z_range z_int⟩

theorem fn_law_char {f : Addr} {fd : FuncData} (F : FnP K "_law_char" s_law_char f fd)  (z_int : mg "int" = none) : FnOk P w K mg base CX0 1 f fd ["number"] (sp_law_char K) := by
  refine F.ok sc_law_char (fun vs H Q E h => ?_) (fun cdv A outer s H vs Q E hr h => ?_)
  · obtain ⟨i, rfl, _⟩ := h; rfl
  · obtain ⟨i, rfl, k⟩ := h
    refine ⟨_, PSs.nox (pss_cons (ps_set (i := 1) sc_law_char.nd rfl (by first | exact Or.inl rfl | exact Or.inr rfl) pe_str)
      (pss_cons (ps_set (i := 1) sc_law_char.nd rfl (by first | exact Or.inl rfl | exact Or.inr rfl) (pe_op op_add_str (pv 1) pe_str))
      (pss_one (ps_ret (pe_ix ix_str (pv 1) (pe_op op_mod (pe_callTy call_int1 (by rfl) z_int boot_int (pa_cons (pv 0) pa_nil)) pe_int) (fun _ _ => rfl)))))), ?_⟩
    try simp only [Rd.cxK, Re.cxP, Re.cxW, lit_12, lit_13]
    walk_at "rd"
    all_goals first | exact Rd.ixSall (by decide) (by omega) (by show _ < (94 : Int); omega) (fun c hc => k c (by revert c; decide))
theorem ok_law_char {f : Addr} {fd : FuncData} (mf : mg "_law_char" = some (.ref f)) (F : FnP K "_law_char" s_law_char f fd)  (z_int : mg "int" = none) : Cal P w K mg base "_law_char" 1 ["number"] (sp_law_char K) :=
  ⟨f, fd, mf, F.kp, F.bindsN fun _ _ _ _ _ _ us hl => match us, hl with | [_], _ => rfl, fn_law_char F z_int⟩

theorem fn_law_integer {f : Addr} {fd : FuncData} (F : FnP K "_law_integer" s_law_integer f fd)  (z_int : mg "int" = none) (z_abs : mg "abs" = none) : FnOk P w K mg base CX0 1 f fd ["cell", "number"] (sp_law_integer K) := by
  refine F.ok sc_law_integer (fun vs H Q E h => ?_) (fun cdv A outer s H vs Q E hr h => ?_)
  · obtain ⟨c, i, rfl, _⟩ := h; rfl
  · obtain ⟨c, i, rfl, hc, hi, k⟩ := h
    refine ⟨_, PSs.nox (pss_cons (ps_set (i := 2) sc_law_integer.nd rfl (by first | exact Or.inl rfl | exact Or.inr rfl) (pe_op op_fdiv (pv 1) pe_int))
      (pss_cons (ps_if (pt_cmpR op_eq (pe_op op_mod (pv 2) pe_int) pe_int (nomark _)) (pss_one (ps_ret (pe_op op_sub (pv 2) pe_int))) pss_nil)
      (pss_cons (ps_set (i := 3) sc_law_integer.nd rfl (by first | exact Or.inl rfl | exact Or.inr rfl) (pe_op op_mod (pe_callTy call_int1 (by rfl) z_int boot_int (pa_cons (pe_op op_mulX (pe_op op_add (pe_callB call_abs (by rfl) z_abs boot_abs (pa_cons (pv 0) pa_nil)) (pv 2)) (pe_ix ix_list (pe_lst (pa_cons (pe_op op_pow pe_int pe_int) (pa_cons (pe_op op_pow pe_int pe_int) (pa_cons (pe_op op_pow pe_int pe_int) (pa_cons (pe_op op_pow pe_int pe_int) pa_nil))))) (pe_op op_mod (pe_callTy call_int1 (by rfl) z_int boot_int (pa_cons (pe_op op_fdiv (pv 2) pe_int) pa_nil)) pe_int) (fun _ _ => rfl))) pa_nil)) (pe_op op_pow pe_int pe_int)))
      (pss_cons (ps_if (pt_cmpR op_eq (pe_op op_mod (pv 2) pe_int) pe_int (nomark _)) (pss_one (ps_set (i := 3) sc_law_integer.nd rfl (by first | exact Or.inl rfl | exact Or.inr rfl) (pe_op op_sub (pe_op op_sub (pe_op op_pow pe_int pe_int) pe_int) (pv 3)))) pss_nil)
      (pss_cons (ps_if (pt_cmpR op_eq (pe_op op_mod (pv 2) pe_int) pe_int (nomark _)) (pss_one (ps_ret (pe_un un_neg (pv 3)))) pss_nil)
      (pss_one (ps_ret (pv 3)))))))), ?_⟩
    try simp only [Rd.cxK, Re.cxP, Re.cxW]
    walk_at "rn"
    · exact k _ H (Same.refl _) (gd_int (by omega))
    rename_i z hz0 hz1 l hl
    refine Rd.ixLmem (i := i / 8 / 3 % 4) (xs := [V.int (10 ^ Int.toNat 4), V.int (10 ^ Int.toNat 17), V.int (10 ^ Int.toNat 39), V.int (10 ^ Int.toNat 57)]) (SqL.of upd_same) (by omega) (by show i / 8 / 3 % 4 < (4 : Int); omega) fun v hv => ?_
    have hv2 : ∃ n : Int, v = .int n ∧ 0 ≤ n ∧ n < 2 ^ 200 := by
      simp only [List.mem_cons, List.not_mem_nil, or_false] at hv
      rcases hv with rfl | rfl | rfl | rfl <;> exact ⟨_, rfl, by decide, by decide⟩
    obtain ⟨n, rfl, hn0, hn1⟩ := hv2
    refine ⟨_, _, rfl, rfl, mul_bits hc (by omega) (by omega) ⟨hn0, hn1⟩, ?_⟩
    have g0 : 0 ≤ (z + i / 8) * n % 10 ^ Int.toNat 60 := Int.emod_nonneg _ (by decide)
    have g1 : (z + i / 8) * n % 10 ^ Int.toNat 60 < 10 ^ Int.toNat 60 := Int.emod_lt_of_pos _ (by decide)
    have h1 := i60 g0 g1
    have h2 := i60 h1.2.2.1 h1.2.2.2
    walk_at "rn"
    · exact k _ _ (Rd.same_new hl) h2.2.1
    · exact k _ _ (Rd.same_new hl) h2.1
    · exact k _ _ (Rd.same_new hl) h1.2.1
    · exact k _ _ (Rd.same_new hl) h1.1
theorem ok_law_integer {f : Addr} {fd : FuncData} (mf : mg "_law_integer" = some (.ref f)) (F : FnP K "_law_integer" s_law_integer f fd)  (z_int : mg "int" = none) (z_abs : mg "abs" = none) : Cal P w K mg base "_law_integer" 1 ["cell", "number"] (sp_law_integer K) :=
  ⟨f, fd, mf, F.kp, F.bindsN fun _ _ _ _ _ _ us hl => match us, hl with | [_, _], _ => rfl, fn_law_integer F z_int z_abs⟩

theorem fn_Scanner_skip {fd : FuncData} (F : FunD K "skip" "Scanner.skip" (defArgs s_Scanner_skip) (defBody s_Scanner_skip) (defScope s_Scanner_skip) [] [] (He.fAd K ("Scanner", some "skip")) fd) (C_Scanner_char : CalM P w K mg base (He.fAd K ("Scanner", some "char")) 1 ["self"] [] (sp_Scanner_char K))  (W_Scanner : CF_Scanner K mg) : FnOk P w K mg base CX0 2 (He.fAd K ("Scanner", some "skip")) fd ["self", "char"] (sp_Scanner_skip K) := by
  obtain ⟨fd_Scanner_char, b_Scanner_char, G_Scanner_char, ds_Scanner_char, dr_Scanner_char, db_Scanner_char⟩ := C_Scanner_char.ex
  have cf_Scanner := W_Scanner
  have cfc_Scanner := cf_Scanner.cls
  have cfn_Scanner_at := cf_Scanner.n_at
  refine F.ok sc_Scanner_skip (fun vs H Q E h => ?_) (fun cdv A outer s H vs Q E hr h => ?_)
  · obtain ⟨s, dx, t, i, r, c, rfl, _⟩ := h; rfl
  · obtain ⟨s, dx, t, i, r, c, rfl, hs, hr1, hl, k⟩ := h
    refine ⟨_, PSs.nox (pss_cons (ps_if (pt_cmpR op_ne (pe_meth0 (pv 0) cf_Scanner.cls cf_Scanner.mt_char G_Scanner_char (hr.mono (by decide)) b_Scanner_char .nil pass0) (pv 1) (nomark _)) (pss_one (ps_ret pe_bl)) pss_nil)
      (pss_cons (ps_fldaug (pv 0) pe_int in_add)
      (pss_one (ps_ret pe_bl)))), ?_⟩
    try simp only [Rd.cxK, Re.cxP, Re.cxW]
    obtain ⟨k1, k2⟩ := k
    walk_at "rd"
    · rename_i h
      exact k2 h
    · rename_i h
      exact k1 _ h (Adv.step0 hs (j := i + 1) rfl)
theorem ok_Scanner_skip {fd : FuncData} (F : FunD K "skip" "Scanner.skip" (defArgs s_Scanner_skip) (defBody s_Scanner_skip) (defScope s_Scanner_skip) [] [] (He.fAd K ("Scanner", some "skip")) fd) (C_Scanner_char : CalM P w K mg base (He.fAd K ("Scanner", some "char")) 1 ["self"] [] (sp_Scanner_char K))  (W_Scanner : CF_Scanner K mg) : CalM P w K mg base (He.fAd K ("Scanner", some "skip")) 2 ["self", "char"] [] (sp_Scanner_skip K) :=
  ⟨fd, F.bindsN fun _ _ _ _ _ _ us hl => match us, hl with | [_, _], _ => rfl, fn_Scanner_skip F C_Scanner_char W_Scanner, [], .nil, F.bindsN fun _ _ _ _ _ _ us hl => match us, hl with | [_, _], _ => rfl⟩

theorem fn_digits {f : Addr} {fd : FuncData} (F : FnP K "_digits" s_digits f fd) (C_Scanner_char : CalM P w K mg base (He.fAd K ("Scanner", some "char")) 1 ["self"] [] (sp_Scanner_char K)) (C_is_digit : Cal P w K mg base "_is_digit" 1 ["char"] (sp_is_digit K)) (z_int : mg "int" = none) (W_Scanner : CF_Scanner K mg) (W__MOST_DIGITS : ∃ t, mg "_MOST_DIGITS" = some (.int 60 t)) : FnOk P w K mg base CX0 2 f fd ["scanner"] (sp_digits K) := by
  obtain ⟨fd_Scanner_char, b_Scanner_char, G_Scanner_char, ds_Scanner_char, dr_Scanner_char, db_Scanner_char⟩ := C_Scanner_char.ex
  obtain ⟨f_is_digit, fd_is_digit, m_is_digit, k_is_digit, b_is_digit, G_is_digit⟩ := C_is_digit.ex
  have cf_Scanner := W_Scanner
  have cfc_Scanner := cf_Scanner.cls
  have cfn_Scanner_at := cf_Scanner.n_at
  have cfn_Scanner_text := cf_Scanner.n_text
  obtain ⟨t__MOST_DIGITS, g__MOST_DIGITS⟩ := W__MOST_DIGITS; have g__MOST_DIGITS_r : RelV (.int 60) (.int 60 t__MOST_DIGITS) := ⟨_, rfl⟩
  refine F.ok sc_digits (fun vs H Q E h => ?_) (fun cdv A outer s H vs Q E hr h => ?_)
  · obtain ⟨s, dx, t, i, r, m, rfl, _⟩ := h; rfl
  · obtain ⟨s, dx, t, i, r, m, rfl, hs, hr1, hl, hm, hd, k⟩ := h
    refine ⟨_, PSs.nox (pss_cons (ps_set (i := 1) sc_digits.nd rfl (by first | exact Or.inl rfl | exact Or.inr rfl) (pe_fld (pv 0) rfl))
      (pss_cons (ps_set (i := 2) sc_digits.nd rfl (by first | exact Or.inl rfl | exact Or.inr rfl) (pe_ifExp (pt_cmpR op_eq (pe_meth0 (pv 0) cf_Scanner.cls cf_Scanner.mt_char G_Scanner_char (hr.mono (by decide)) b_Scanner_char .nil pass0) pe_str (nomark _)) pe_int (pe_glob (by rfl) g__MOST_DIGITS g__MOST_DIGITS_r)))
      (pss_cons (ps_while PassesOwn.never (PW.pt (pw_and (pt_val (pe_call G_is_digit (hr.mono (by decide)) (by rfl) m_is_digit k_is_digit b_is_digit .nil pass0 (pa_cons (pe_meth0 (pv 0) cf_Scanner.cls cf_Scanner.mt_char G_Scanner_char (hr.mono (by decide)) b_Scanner_char .nil pass0) pa_nil))) (pw_and1 (pt_cmpR op_lt (pe_fld (pv 0) rfl) (pe_op op_add (pv 1) (pv 2)) (nomark _))))) (pss_one (ps_fldaug (pv 0) pe_int in_add)))
      (pss_one (ps_ret (pe_callTy call_int_str (by rfl) z_int boot_int (pa_cons (pe_slice sl_str (pe_fld (pv 0) rfl) (po_some (pv 1)) (po_some (pe_fld (pv 0) rfl))) pa_nil))))))), ?_⟩
    try simp only [Rd.cxK, Re.cxP, Re.cxW, lit_10]
    obtain ⟨hmi, hml⟩ := numL_int hm
    obtain ⟨c0, r0, he, hc1, hc2, hc3, hc4⟩ := numL_head m
    walk_at "rnj"
    refine ⟨_, ?u1_dx, ?u1_t, ?u1_i, ?u1_r, rfl, ?u1_p0, ?u1_p1, ?u1_p2, ?_⟩
    case u1_p0 => walk_at "pre"
    case u1_p1 => walk_at "pre"
    case u1_p2 => walk_at "pre"
    rw [he]
    walk_at "rd1"
    walk_at "rd1"
    walk_at "rd1"
    refine iteC (fun M => ((TL.numL m).length : Int) ≤ M) (fun h => ?_) (fun _ => by omega) fun M hM => ?_
    · have h2 : c0 = 48 := by simpa using h
      rw [he, hc4 h2]; simp
    refine Rd.whl (fun mm σ' H' => ∃ j : Nat, mm = (TL.numL m).length - j ∧ j ≤ (TL.numL m).length ∧ σ' = [some (.ref s), some (.int i), some (.int M)] ∧ Adv K s dx t (i + j) H H') ⟨_, 0, rfl, Nat.zero_le _, rfl, Adv.refl hs⟩ ?_
    rintro mm σ' H' ⟨j, rfl, hj, rfl, ad⟩
    have hs2 := ad.sc
    have hr2 : t.drop (i + j) = (TL.numL m).drop j ++ r := by
      rw [← List.drop_drop, hr1, List.drop_append_of_le_length hj]
    walk_at "rnj"
    refine ⟨_, ?u2_dx, ?u2_t, ?u2_i, ?u2_r, rfl, ?u2_p0, ?u2_p1, ?u2_p2, ?_⟩
    case u2_p0 => walk_at "pre"
    case u2_p1 => walk_at "pre"
    case u2_p2 => walk_at "pre"
    walk_at "rn"
    refine ⟨_, rfl, ?_⟩
    by_cases hlt : j < (TL.numL m).length
    · obtain ⟨c, r', hcr⟩ : ∃ c r', (TL.numL m).drop j = c :: r' := by
        cases e : (TL.numL m).drop j with
        | nil => rw [List.drop_eq_nil_iff] at e; omega
        | cons c r' => exact ⟨c, r', rfl⟩
      have hcd := TL.numL_digits m c (List.mem_of_mem_drop (i := j) (by rw [hcr]; exact List.mem_cons_self))
      have e : isd ((TL.numL m).drop j ++ r) = true := by rw [hcr]; show (decide (48 ≤ c) && decide (c ≤ 57)) = true; rw [decide_eq_true hcd.1, decide_eq_true hcd.2]; rfl
      rw [e]
      walk_at "rd"
      · refine ⟨_, ?_, j + 1, rfl, hlt, rfl, ad.step (by omega)⟩
        omega
    · have e : isd ((TL.numL m).drop j ++ r) = false := by rw [List.drop_of_length_le (by omega)]; exact hd
      rw [e]
      walk_at "rd"
      have hj2 : j = (TL.numL m).length := by omega
      subst hj2
      have hb := drop_bd hr1 (by rw [he]; simp)
      refine slS2 rfl rfl hl (by omega) ?_
      rw [show i + (TL.numL m).length - i = (TL.numL m).length by omega, hr1, List.take_left]
      walk_at "rd"
      exact Rd.intS hmi (by omega) (k _ ad)
theorem ok_digits {f : Addr} {fd : FuncData} (mf : mg "_digits" = some (.ref f)) (F : FnP K "_digits" s_digits f fd) (C_Scanner_char : CalM P w K mg base (He.fAd K ("Scanner", some "char")) 1 ["self"] [] (sp_Scanner_char K)) (C_is_digit : Cal P w K mg base "_is_digit" 1 ["char"] (sp_is_digit K)) (z_int : mg "int" = none) (W_Scanner : CF_Scanner K mg) (W__MOST_DIGITS : ∃ t, mg "_MOST_DIGITS" = some (.int 60 t)) : Cal P w K mg base "_digits" 2 ["scanner"] (sp_digits K) :=
  ⟨f, fd, mf, F.kp, F.bindsN fun _ _ _ _ _ _ us hl => match us, hl with | [_], _ => rfl, fn_digits F C_Scanner_char C_is_digit z_int W_Scanner W__MOST_DIGITS⟩

theorem fn_string {f : Addr} {fd : FuncData} (F : FnP K "_string" s_string f fd) (C_Scanner_require : CalM P w K mg base (He.fAd K ("Scanner", some "require")) 1 ["self", "good"] [] (sp_Scanner_require K)) (z_ord : mg "ord" = none) (z_len : mg "len" = none) (W_Scanner : CF_Scanner K mg) (W__PERCENT : ∃ t, mg "_PERCENT" = some (.int 37 t)) : FnOk P w K mg base CX0 2 f fd ["scanner", "length"] (sp_string K) := by
  obtain ⟨fd_Scanner_require, b_Scanner_require, G_Scanner_require, ds_Scanner_require, dr_Scanner_require, db_Scanner_require⟩ := C_Scanner_require.ex
  have cf_Scanner := W_Scanner
  have cfc_Scanner := cf_Scanner.cls
  have cfn_Scanner_at := cf_Scanner.n_at
  have cfn_Scanner_text := cf_Scanner.n_text
  obtain ⟨t__PERCENT, g__PERCENT⟩ := W__PERCENT; have g__PERCENT_r : RelV (.int 37) (.int 37 t__PERCENT) := ⟨_, rfl⟩
  refine F.ok sc_string (fun vs H Q E h => ?_) (fun cdv A outer s H vs Q E hr h => ?_)
  · obtain ⟨s, dx, t, i, r, l, rfl, _⟩ := h; rfl
  · obtain ⟨s, dx, t, i, r, l, rfl, hs, hr1, hl, hg, hbd, k⟩ := h
    refine ⟨_, PSs.nox (pss_cons (ps_set (i := 2) sc_string.nd rfl (by first | exact Or.inl rfl | exact Or.inr rfl) (pe_slice sl_str (pe_fld (pv 0) rfl) (po_some (pe_fld (pv 0) rfl)) (po_some (pe_op op_add (pe_fld (pv 0) rfl) (pv 1)))))
      (pss_cons (ps_for PassesOwn.never rfl (pi_str (pv 2)) (pg_name (i := 3) sc_string.nd rfl (by first | exact Or.inl rfl | exact Or.inr rfl)) (pss_cons (ps_expr (pe_meth (pv 0) cf_Scanner.cls cf_Scanner.mt_require G_Scanner_require (hr.mono (by decide)) b_Scanner_require .nil pass0 (pa_cons (pe_and (pe_chain Ez.op_leS Ez.op_leS pe_str (pv 3) pe_str) (pe_one (pe_cmpR op_ne (pe_callB Ez.call_ordK (by rfl) z_ord boot_ord (pa_cons (pv 3) pa_nil)) (pe_glob (by rfl) g__PERCENT g__PERCENT_r) (nomark _)))) pa_nil)))
      (pss_one (ps_fldaug (pv 0) pe_int in_add))))
      (pss_cons (ps_expr (pe_meth (pv 0) cf_Scanner.cls cf_Scanner.mt_require G_Scanner_require (hr.mono (by decide)) b_Scanner_require .nil pass0 (pa_cons (pe_cmpR op_eq (pe_callB call_len_str (by rfl) z_len boot_len (pa_cons (pv 2) pa_nil)) (pv 1) (nomark _)) pa_nil)))
      (pss_one (ps_ret (pv 2)))))), ?_⟩
    try simp only [Rd.cxK, Re.cxP, Re.cxW, lit_11, lit_5]
    have hgl : l.length ≤ 1000 := by
      unfold gs at hg
      rw [Bool.and_eq_true] at hg
      exact of_decide_eq_true hg.1
    have hgc : ∀ c ∈ l, 32 ≤ c ∧ c ≤ 126 ∧ c ≠ 37 := by
      unfold gs at hg
      rw [Bool.and_eq_true] at hg
      intro c hc
      have h := List.all_eq_true.mp hg.2 c hc
      simp only [Bool.and_eq_true, decide_eq_true_eq, Bool.not_eq_true', decide_eq_false_iff_not] at h
      exact ⟨h.1.1, h.1.2, h.2⟩
    walk_at "rd"
    refine slS2 rfl rfl hl hbd ?_
    rw [show i + l.length - i = l.length by omega, hr1, List.take_left]
    walk_at "rnj"
    refine Ez.forS (fun j σ' H' => ∃ c0, σ' = [some (.ref s), some (.int l.length), some (.str (Rd.S l)), c0] ∧ Adv K s dx t (i + j) H H') ⟨_, rfl, Adv.refl hs⟩ ?_ ?_
    · rintro j c σ' H' hj ⟨c0, rfl, ad⟩
      have hs2 := ad.sc
      obtain ⟨h1, h2, h3⟩ := hgc c (List.mem_of_getElem? hj)
      walk_at "rnj"
      · rw [decide_eq_false (show ¬ ((c : Int) = 37) by omega)]
        refine ⟨_, rfl, ?_⟩
        walk_at "rd"
        exact ⟨_, rfl, ad.step (by omega)⟩
      all_goals (rename_i h; first | exact absurd (lt11.mp h) (by omega) | (rename_i h2; exact absurd (lt11.mp h2) (by omega)))
    · rintro σ' H' ⟨c0, rfl, ad⟩
      have hs2 := ad.sc
      walk_at "rnj"
      rw [decide_eq_true (rfl : (l.length : Int) = (l.length : Int))]
      refine ⟨_, rfl, ?_⟩
      walk_at "rd"
      exact k _ ad
theorem ok_string {f : Addr} {fd : FuncData} (mf : mg "_string" = some (.ref f)) (F : FnP K "_string" s_string f fd) (C_Scanner_require : CalM P w K mg base (He.fAd K ("Scanner", some "require")) 1 ["self", "good"] [] (sp_Scanner_require K)) (z_ord : mg "ord" = none) (z_len : mg "len" = none) (W_Scanner : CF_Scanner K mg) (W__PERCENT : ∃ t, mg "_PERCENT" = some (.int 37 t)) : Cal P w K mg base "_string" 2 ["scanner", "length"] (sp_string K) :=
  ⟨f, fd, mf, F.kp, F.bindsN fun _ _ _ _ _ _ us hl => match us, hl with | [_, _], _ => rfl, fn_string F C_Scanner_require z_ord z_len W_Scanner W__PERCENT⟩

theorem fn_law_tape {f : Addr} {fd : FuncData} (F : FnP K "_law_tape" s_law_tape f fd) (C_law_numbers : Cal P w K mg base "_law_numbers" 1 ["cell", "many"] (sp_law_numbers K)) (C_law_cell : Cal P w K mg base "_law_cell" 1 ["script", "k"] (sp_law_cell K))  : FnOk P w K mg base CX0 2 f fd ["script", "first", "others"] (sp_law_tape K) := by
  obtain ⟨f_law_numbers, fd_law_numbers, m_law_numbers, k_law_numbers, b_law_numbers, G_law_numbers⟩ := C_law_numbers.ex
  obtain ⟨f_law_cell, fd_law_cell, m_law_cell, k_law_cell, b_law_cell, G_law_cell⟩ := C_law_cell.ex
  refine F.ok sc_law_tape (fun vs H Q E h => ?_) (fun cdv A outer s H vs Q E hr h => ?_)
  · obtain ⟨a, ns, f, o, rfl, _⟩ := h; rfl
  · obtain ⟨a, ns, f, o, rfl, hS, h63, hbt, hf, k⟩ := h
    refine ⟨_, PSs.nox (pss_cons (ps_set (i := 3) sc_law_tape.nd rfl (by first | exact Or.inl rfl | exact Or.inr rfl) (pe_call G_law_numbers (hr.mono (by decide)) (by rfl) m_law_numbers k_law_numbers b_law_numbers .nil pass0 (pa_cons (pe_call G_law_cell (hr.mono (by decide)) (by rfl) m_law_cell k_law_cell b_law_cell .nil pass0 (pa_cons (pv 0) (pa_cons pe_int pa_nil))) (pa_cons (pv 1) pa_nil))))
      (pss_cons (ps_for PassesOwn.never rfl (pi_list (pe_slice sl_list (pv 0) (po_some pe_int) po_none)) (pg_name (i := 4) sc_law_tape.nd rfl (by first | exact Or.inl rfl | exact Or.inr rfl)) (pss_one (ps_set (i := 3) sc_law_tape.nd rfl (by first | exact Or.inl rfl | exact Or.inr rfl) (pe_op op_cat (pv 3) (pe_call G_law_numbers (hr.mono (by decide)) (by rfl) m_law_numbers k_law_numbers b_law_numbers .nil pass0 (pa_cons (pv 4) (pa_cons (pv 2) pa_nil)))))))
      (pss_one (ps_ret (pv 3))))), ?_⟩
    try simp only [Rd.cxK, Re.cxP, Re.cxW]
    walk_at "rn"
    refine ⟨_, ?u6_ns, _, rfl, ?u6_p0, ?u6_p1, ?u6_p2, fun z0 hz0 => ?_⟩
    case u6_p0 => walk_at "pre"
    case u6_p1 => walk_at "pre"
    case u6_p2 => walk_at "pre"
    walk_at "rn"
    refine ⟨_, _, rfl, ?u7_p0, fun p nums H1 s1 hp hn hl hb3 => ?_⟩
    case u7_p0 => walk_at "pre"
    obtain ⟨ms, ems, hml, hms⟩ := cut_ints (ns := ns) (lo := some 1) (hi := none)
    walk_at "rn"
    rename_i q hq
    rw [ems]
    have s2 : Same H1 (upd H1 q (.lst (ms.map V.int))) := Rd.same_new hq
    have hq1 : SqL K (upd H1 q (.lst (ms.map V.int))) q (ms.map V.int) := SqL.of upd_same
    have hn1 := s2 _ _ hn
    have hp0 := hp
    generalize upd H1 q (.lst (ms.map V.int)) = H2 at *
    refine Rd.forL (fun i σ' H' => ∃ (r : Addr) (nu : List Int), ∃ c4,  σ' = [some (.ref a), some (.int f), some (.int o), some (.ref r), c4] ∧ Same H2 H' ∧ H' r = some (.lst (nu.map V.int)) ∧ nu.length = f.toNat + i * o.toNat ∧ B3 nu ∧ H r = none) hq1 ⟨p, nums, _,  rfl, Same.refl _, hn1, by omega, hb3, hp0⟩ (fun i σ' H' _ ⟨_, _, c4,  _, h, _⟩ => h.seq hq1) ?_ ?_
    · rintro i x σ' H' hi ⟨r, nu, c4,  rfl, hs, hr, hl, hb, hr0⟩
      rw [List.getElem?_map] at hi
      obtain ⟨z, hz, rfl⟩ := Option.map_eq_some_iff.mp hi
      have hil : i < ms.length := (List.getElem?_eq_some_iff.mp hz).1
      walk_at "rn"
      refine ⟨_, _, rfl, ?u8_p0, fun p2 nu2 H3 s3 hp2 hn2 hl2 hb32 => ?_⟩
      case u8_p0 => walk_at "pre"
      have hr3 := s3 _ _ hr
      have ho : i * o.toNat ≤ 63 * 100 := Nat.mul_le_mul (by omega) (by omega)
      refine Rd.catL hr3 hn2 (by simp only [List.length_map]; omega) fun q2 hq2 => ?_
      rw [← List.map_append]
      exact ⟨q2, nu ++ nu2, _,  rfl, (hs.trans s3).trans (Rd.same_new hq2), upd_same, by rw [List.length_append, Nat.succ_mul]; omega, fun x hx => (List.mem_append.mp hx).elim (hb x) (hb32 x), ((s1.trans s2).trans (hs.trans s3)).free hq2⟩
    · rintro σ' H' ⟨r, nu, c4,  rfl, hs, hr, hl, hb, hr0⟩
      walk_at "rn"
      rw [List.length_map] at hl
      exact k r nu H' (s1.trans (s2.trans hs)) hr0 hr (by rw [hl]; exact Nat.add_le_add_left (Nat.mul_le_mul_right _ (by omega)) _) (by omega) hb
theorem ok_law_tape {f : Addr} {fd : FuncData} (mf : mg "_law_tape" = some (.ref f)) (F : FnP K "_law_tape" s_law_tape f fd) (C_law_numbers : Cal P w K mg base "_law_numbers" 1 ["cell", "many"] (sp_law_numbers K)) (C_law_cell : Cal P w K mg base "_law_cell" 1 ["script", "k"] (sp_law_cell K))  : Cal P w K mg base "_law_tape" 2 ["script", "first", "others"] (sp_law_tape K) :=
  ⟨f, fd, mf, F.kp, F.bindsN fun _ _ _ _ _ _ us hl => match us, hl with | [_, _, _], _ => rfl, fn_law_tape F C_law_numbers C_law_cell⟩

theorem fn_law_text {f : Addr} {fd : FuncData} (F : FnP K "_law_text" s_law_text f fd) (C_law_char : Cal P w K mg base "_law_char" 1 ["number"] (sp_law_char K)) (z_int : mg "int" = none) (z_range : mg "range" = none) : FnOk P w K mg base CX0 2 f fd ["number", "size"] (sp_law_text K) := by
  obtain ⟨f_law_char, fd_law_char, m_law_char, k_law_char, b_law_char, G_law_char⟩ := C_law_char.ex
  refine F.ok sc_law_text (fun vs H Q E h => ?_) (fun cdv A outer s H vs Q E hr h => ?_)
  · obtain ⟨i, j, rfl, _⟩ := h; rfl
  · obtain ⟨i, j, rfl, hi, hj, k⟩ := h
    refine ⟨_, PSs.nox (pss_cons (ps_if (pt_cmpR op_eq (pe_op op_mod (pv 0) pe_int) pe_int (nomark _)) (pss_one (ps_ret (Ez.pe_joinK pe_str (pe_lc (own := [("k", 2)]) (g := gName 2) (tt := tYes) rfl sc_law_text.nd (pi_range1 (by rfl) z_range (pa_cons (pv 1) pa_nil)) (blkOk_by (N := N_law_text) (sc := defScope s_law_text) (by decide +kernel)) (fun _ _ _ _ _ => pg_name (i := 2) sc_law_text.nd rfl (by first | exact Or.inl rfl | exact Or.inr rfl)) (fun _ _ _ _ _ => pts_nil) (fun _ _ _ _ _ => (pe_ix ix_str pe_str (pe_op op_mod (pe_callTy call_int1 (by rfl) z_int boot_int (pa_cons (pe_op op_add (pe_op op_fdiv (pv 0) pe_int) (pe_op op_mul (pv 2) (pe_op op_add (pe_op op_fdiv (pv 0) pe_int) pe_int))) pa_nil)) pe_int) (fun _ _ => rfl))))))) pss_nil)
      (pss_one (ps_ret (Ez.pe_joinK pe_str (pe_lc (own := [("k", 2)]) (g := gName 2) (tt := tYes) rfl sc_law_text.nd (pi_range1 (by rfl) z_range (pa_cons (pv 1) pa_nil)) (blkOk_by (N := N_law_text) (sc := defScope s_law_text) (by decide +kernel)) (fun _ _ _ _ _ => pg_name (i := 2) sc_law_text.nd rfl (by first | exact Or.inl rfl | exact Or.inr rfl)) (fun _ _ _ _ _ => pts_nil) (fun _ _ _ _ _ => (pe_call G_law_char (hr.mono (by decide)) (by rfl) m_law_char k_law_char b_law_char .nil pass0 (pa_cons (pe_op op_add (pv 0) (pe_op op_mul (pv 2) (pe_op op_add (pe_op op_fdiv (pv 0) pe_int) pe_int))) pa_nil)))))))), ?_⟩
    try simp only [Rd.cxK, Re.cxP, Re.cxW, lit_14, lit_6]
    walk_at "rn"
    · refine Rd.lcR1 (fun D i acc H' => ∃ cs : List Nat, acc = cs.map (fun c => V.str (Rd.S [c])) ∧ cs.length = i ∧ ∀ c ∈ cs, 32 ≤ c ∧ c ≤ 126 ∧ c ≠ 37) (by omega) (fun D H' _ _ _ => ⟨[], rfl, rfl, by simp⟩) ?_ ?_
      · rintro i acc D H' hD s hi hl hDl ⟨cs, rfl, hcl, hcs⟩
        walk_at "rn"
        refine Rd.ixSall (by decide) (Int.emod_nonneg _ (by omega)) (Int.emod_lt_of_pos _ (by decide)) (fun c hc => ?_)
        have hcc : 32 ≤ c ∧ c ≤ 126 ∧ c ≠ 37 := by revert c; decide
        exact Rd.lcE hD hDl s hl (by omega) ⟨cs ++ [c], by simp, by simp [hcl], fun x hx => by
          rcases List.mem_append.mp hx with h | h
          · exact hcs x h
          · rw [List.mem_singleton.mp h]; exact hcc⟩
      · rintro D acc H2 hD s hDl hal ⟨cs, rfl, hcl, hcs⟩
        have e1 : (cs.map fun c => V.str (Rd.S [c])) = (cs.map fun c => [c]).map fun y => V.str (Rd.S y) := by rw [List.map_map]; rfl
        rw [e1] at hDl
        refine joinS (SqL.of hDl) (joinOk (by omega)) ?_
        rw [joinE]; exact k cs _ s (gs_of (by omega) hcs)
    · refine Rd.lcR1 (fun D i acc H' => ∃ cs : List Nat, acc = cs.map (fun c => V.str (Rd.S [c])) ∧ cs.length = i ∧ ∀ c ∈ cs, 32 ≤ c ∧ c ≤ 126 ∧ c ≠ 37) (by omega) (fun D H' _ _ _ => ⟨[], rfl, rfl, by simp⟩) ?_ ?_
      · rintro i acc D H' hD s hi hl hDl ⟨cs, rfl, hcl, hcs⟩
        walk_at "rn"
        refine ⟨_, rfl, fun c hc => ?_⟩
        exact Rd.lcE hD hDl s hl (by omega) ⟨cs ++ [c], by simp, by simp [hcl], fun x hx => by
          rcases List.mem_append.mp hx with h | h
          · exact hcs x h
          · rw [List.mem_singleton.mp h]; exact hc⟩
      · rintro D acc H2 hD s hDl hal ⟨cs, rfl, hcl, hcs⟩
        have e1 : (cs.map fun c => V.str (Rd.S [c])) = (cs.map fun c => [c]).map fun y => V.str (Rd.S y) := by rw [List.map_map]; rfl
        rw [e1] at hDl
        refine joinS (SqL.of hDl) (joinOk (by omega)) ?_
        rw [joinE]; exact k cs _ s (gs_of (by omega) hcs)
theorem ok_law_text {f : Addr} {fd : FuncData} (mf : mg "_law_text" = some (.ref f)) (F : FnP K "_law_text" s_law_text f fd) (C_law_char : Cal P w K mg base "_law_char" 1 ["number"] (sp_law_char K)) (z_int : mg "int" = none) (z_range : mg "range" = none) : Cal P w K mg base "_law_text" 2 ["number", "size"] (sp_law_text K) :=
  ⟨f, fd, mf, F.kp, F.bindsN fun _ _ _ _ _ _ us hl => match us, hl with | [_, _], _ => rfl, fn_law_text F C_law_char z_int z_range⟩

theorem fn_law_leaf {f : Addr} {fd : FuncData} (F : FnP K "_law_leaf" s_law_leaf f fd) (C_law_integer : Cal P w K mg base "_law_integer" 1 ["cell", "number"] (sp_law_integer K)) (C_law_text : Cal P w K mg base "_law_text" 2 ["number", "size"] (sp_law_text K)) (z_int : mg "int" = none) : FnOk P w K mg base CX0 3 f fd ["cell", "number"] (sp_law_leaf K) := by
  obtain ⟨f_law_integer, fd_law_integer, m_law_integer, k_law_integer, b_law_integer, G_law_integer⟩ := C_law_integer.ex
  obtain ⟨f_law_text, fd_law_text, m_law_text, k_law_text, b_law_text, G_law_text⟩ := C_law_text.ex
  refine F.ok sc_law_leaf (fun vs H Q E h => ?_) (fun cdv A outer s H vs Q E hr h => ?_)
  · obtain ⟨c, i, rfl, _⟩ := h; rfl
  · obtain ⟨c, i, rfl, hc, hi, k⟩ := h
    refine ⟨_, PSs.nox (pss_cons (ps_set (i := 2) sc_law_leaf.nd rfl (by first | exact Or.inl rfl | exact Or.inr rfl) (pe_op op_fdiv (pv 1) pe_int))
      (pss_cons (ps_if (pt_cmpR op_eq (pe_op op_mod (pv 1) pe_int) pe_int (nomark _)) (pss_one (ps_ret (pe_cmpR op_eq (pe_op op_mod (pv 2) pe_int) pe_int (nomark _)))) pss_nil)
      (pss_cons (ps_if (PW.pt (pw_or (pt_cmpR op_eq (pe_op op_mod (pv 1) pe_int) pe_int (nomark _)) (pw_or1 (pt_cmpR op_eq (pe_op op_mod (pv 1) pe_int) pe_int (nomark _))))) (pss_one (ps_ret (pe_call G_law_integer (hr.mono (by decide)) (by rfl) m_law_integer k_law_integer b_law_integer .nil pass0 (pa_cons (pv 0) (pa_cons (pv 1) pa_nil))))) pss_nil)
      (pss_cons (ps_set (i := 3) sc_law_leaf.nd rfl (by first | exact Or.inl rfl | exact Or.inr rfl) (pe_op op_mod (pv 2) pe_int))
      (pss_cons (ps_if (pt_cmpR op_eq (pe_op op_mod (pv 2) pe_int) pe_int (nomark _)) (pss_one (ps_set (i := 3) sc_law_leaf.nd rfl (by first | exact Or.inl rfl | exact Or.inr rfl) (pe_ix ix_list (pe_lst (pa_cons pe_int (pa_cons pe_int (pa_cons pe_int (pa_cons pe_int (pa_cons pe_int (pa_cons pe_int (pa_cons pe_int (pa_cons pe_int pa_nil))))))))) (pe_op op_mod (pe_callTy call_int1 (by rfl) z_int boot_int (pa_cons (pe_op op_fdiv (pv 2) pe_int) pa_nil)) pe_int) (fun _ _ => rfl)))) pss_nil)
      (pss_one (ps_ret (pe_call G_law_text (hr.mono (by decide)) (by rfl) m_law_text k_law_text b_law_text .nil pass0 (pa_cons (pv 1) (pa_cons (pv 3) pa_nil)))))))))), ?_⟩
    try simp only [Rd.cxK, Re.cxP, Re.cxW]
    walk_at "rn"
    · exact k _ (.bool _) H (Same.refl _) (.bl _) rfl rfl (by simp only [wr, List.length_cons, List.length_nil]; decide)
    iterate 2
      · refine ⟨_, _, rfl, ?u10_p0, ?u10_p1, fun z H1 s1 hg => ?_⟩
        case u10_p0 => walk_at "pre"
        case u10_p1 => walk_at "pre"
        exact k _ _ H1 s1 (.int z) hg rfl (Nat.le_trans (int_len hg) (by decide))
    · rename_i l hl
      refine Rd.ixLmem (i := i / 8 / 9 % 8) (xs := [V.int 0, V.int 1, V.int 9, V.int 10, V.int 99, V.int 100, V.int 999, V.int 1000]) (SqL.of upd_same) (by omega) (by show i / 8 / 9 % 8 < (8 : Int); omega) fun v hv => ?_
      have hv2 : ∃ n : Int, v = .int n ∧ 0 ≤ n ∧ n ≤ 1000 := by
        simp only [List.mem_cons, List.not_mem_nil, or_false] at hv
        rcases hv with rfl | rfl | rfl | rfl | rfl | rfl | rfl | rfl <;> exact ⟨_, rfl, by decide, by decide⟩
      obtain ⟨n, rfl, hn0, hn1⟩ := hv2
      walk_at "rn"
      refine ⟨_, _, rfl, ?u11_p0, ?u11_p1, fun l1 H1 s1 hg => ?_⟩
      case u11_p0 => walk_at "pre"
      case u11_p1 => walk_at "pre"
      exact k _ _ H1 ((Rd.same_new hl).trans s1) (.str _) (gd_str hg) rfl (str_len hg)
    · refine ⟨_, _, rfl, ?u12_p0, ?u12_p1, fun l1 H1 s1 hg => ?_⟩
      case u12_p0 => walk_at "pre"
      case u12_p1 => walk_at "pre"
      exact k _ _ H1 s1 (.str _) (gd_str hg) rfl (str_len hg)
theorem ok_law_leaf {f : Addr} {fd : FuncData} (mf : mg "_law_leaf" = some (.ref f)) (F : FnP K "_law_leaf" s_law_leaf f fd) (C_law_integer : Cal P w K mg base "_law_integer" 1 ["cell", "number"] (sp_law_integer K)) (C_law_text : Cal P w K mg base "_law_text" 2 ["number", "size"] (sp_law_text K)) (z_int : mg "int" = none) : Cal P w K mg base "_law_leaf" 3 ["cell", "number"] (sp_law_leaf K) :=
  ⟨f, fd, mf, F.kp, F.bindsN fun _ _ _ _ _ _ us hl => match us, hl with | [_, _], _ => rfl, fn_law_leaf F C_law_integer C_law_text z_int⟩

theorem fn_law_value {f : Addr} {fd : FuncData} (F : FnP K "_law_value" s_law_value f fd) (C_law_leaf : Cal P w K mg base "_law_leaf" 3 ["cell", "number"] (sp_law_leaf K)) (C_law_cell : Cal P w K mg base "_law_cell" 1 ["script", "k"] (sp_law_cell K)) (z_range : mg "range" = none) (z_len : mg "len" = none) (z_min : mg "min" = none) (z_max : mg "max" = none) (z_tuple : mg "tuple" = none) : FnOk P w K mg base CX0 4 f fd ["script", "numbers"] (sp_law_value K) := by
  obtain ⟨f_law_leaf, fd_law_leaf, m_law_leaf, k_law_leaf, b_law_leaf, G_law_leaf⟩ := C_law_leaf.ex
  obtain ⟨f_law_cell, fd_law_cell, m_law_cell, k_law_cell, b_law_cell, G_law_cell⟩ := C_law_cell.ex
  refine F.ok sc_law_value (fun vs H Q E h => ?_) (fun cdv A outer s H vs Q E hr h => ?_)
  · obtain ⟨a, b, ns, nums, rfl, _⟩ := h; rfl
  · obtain ⟨a, b, ns, nums, rfl, hS, hbt, hb, hb3, hl, k⟩ := h
    refine ⟨_, PSs.nox (pss_cons (ps_set (i := 2) sc_law_value.nd rfl (by first | exact Or.inl rfl | exact Or.inr rfl) (pe_lst pa_nil))
      (pss_cons (ps_set (i := 3) sc_law_value.nd rfl (by first | exact Or.inl rfl | exact Or.inr rfl) (pe_lst pa_nil))
      (pss_cons (ps_for PassesOwn.never rfl (pi_range1 (by rfl) z_range (pa_cons (pe_callB call_len_seq (by rfl) z_len boot_len (pa_cons (pv 1) pa_nil)) pa_nil)) (pg_name (i := 4) sc_law_value.nd rfl (by first | exact Or.inl rfl | exact Or.inr rfl)) (pss_cons (ps_set (i := 5) sc_law_value.nd rfl (by first | exact Or.inl rfl | exact Or.inr rfl) (pe_ix ix_list (pv 1) (pv 4) (fun _ _ => rfl)))
      (pss_cons (ps_set (i := 6) sc_law_value.nd rfl (by first | exact Or.inl rfl | exact Or.inr rfl) pe_int)
      (pss_cons (ps_if (PW.pt (pw_or (pt_cmpR op_eq (pe_op op_mod (pv 5) pe_int) pe_int (nomark _)) (pw_or1 (pt_cmpR op_eq (pe_op op_mod (pv 5) pe_int) pe_int (nomark _))))) (pss_one (ps_set (i := 6) sc_law_value.nd rfl (by first | exact Or.inl rfl | exact Or.inr rfl) (pe_callB (call_min2 rfl) (by rfl) z_min boot_min (pa_cons (pe_op op_mod (pe_op op_fdiv (pv 5) pe_int) pe_int) (pa_cons (pe_callB call_len_seq (by rfl) z_len boot_len (pa_cons (pv 2) pa_nil)) pa_nil))))) pss_nil)
      (pss_cons (ps_if (pt_cmpR op_eq (pe_op op_mod (pv 5) pe_int) pe_int (nomark _)) (pss_one (ps_set (i := 6) sc_law_value.nd rfl (by first | exact Or.inl rfl | exact Or.inr rfl) (pe_callB (call_min2 rfl) (by rfl) z_min boot_min (pa_cons pe_int (pa_cons (pe_callB call_len_seq (by rfl) z_len boot_len (pa_cons (pv 2) pa_nil)) pa_nil))))) pss_nil)
      (pss_cons (ps_set (i := 7) sc_law_value.nd rfl (by first | exact Or.inl rfl | exact Or.inr rfl) (pe_op op_add (pe_callB (cr_max rfl) (by rfl) z_max boot_max (pa_cons (pe_op op_cat (pe_lst (pa_cons pe_int pa_nil)) (pe_slice sl_list (pv 3) (po_some (pe_op op_sub (pe_callB call_len_seq (by rfl) z_len boot_len (pa_cons (pv 2) pa_nil)) (pv 6))) po_none)) pa_nil)) pe_int))
      (pss_one (ps_if (PW.pt (pw_and (pt_cmpR op_ge (pe_op op_mod (pv 5) pe_int) pe_int (nomark _)) (pw_and1 (pt_cmpR op_le (pv 7) pe_int (nomark _))))) (pss_cons (ps_set (i := 8) sc_law_value.nd rfl (by first | exact Or.inl rfl | exact Or.inr rfl) (pe_slice sl_list (pv 2) (po_some (pe_op op_sub (pe_callB call_len_seq (by rfl) z_len boot_len (pa_cons (pv 2) pa_nil)) (pv 6))) po_none))
      (pss_cons (ps_set (i := 2) sc_law_value.nd rfl (by first | exact Or.inl rfl | exact Or.inr rfl) (pe_op op_cat (pe_slice sl_list (pv 2) po_none (po_some (pe_op op_sub (pe_callB call_len_seq (by rfl) z_len boot_len (pa_cons (pv 2) pa_nil)) (pv 6)))) (pe_lst (pa_cons (pe_callTy call_tuple_of (by rfl) z_tuple boot_tuple (pa_cons (pv 8) pa_nil)) pa_nil))))
      (pss_one (ps_set (i := 3) sc_law_value.nd rfl (by first | exact Or.inl rfl | exact Or.inr rfl) (pe_op op_cat (pe_slice sl_list (pv 3) po_none (po_some (pe_op op_sub (pe_callB call_len_seq (by rfl) z_len boot_len (pa_cons (pv 3) pa_nil)) (pv 6)))) (pe_lst (pa_cons (pv 7) pa_nil))))))) (pss_cons (ps_expr (pe_bm PySem.F.plainAttrs_list PySem.F.slot_list_append PySem.F.type_list_append mt_append (pv 2) (pa_cons (pe_call G_law_leaf (hr.mono (by decide)) (by rfl) m_law_leaf k_law_leaf b_law_leaf .nil pass0 (pa_cons (pe_call G_law_cell (hr.mono (by decide)) (by rfl) m_law_cell k_law_cell b_law_cell .nil pass0 (pa_cons (pv 0) (pa_cons (pv 4) pa_nil))) (pa_cons (pv 5) pa_nil))) pa_nil)))
      (pss_one (ps_expr (pe_bm PySem.F.plainAttrs_list PySem.F.slot_list_append PySem.F.type_list_append mt_append (pv 3) (pa_cons pe_int pa_nil)))))))))))))
      (pss_cons (ps_if (pt_cmpR op_eq (pe_callB call_len_seq (by rfl) z_len boot_len (pa_cons (pv 2) pa_nil)) pe_int (nomark _)) (pss_one (ps_ret (pe_ix ix_list (pv 2) pe_int (fun _ _ => rfl)))) pss_nil)
      (pss_one (ps_ret (pe_callTy call_tuple_of (by rfl) z_tuple boot_tuple (pa_cons (pv 2) pa_nil)))))))), ?_⟩
    try simp only [Rd.cxK, Re.cxP, Re.cxW]
    walk_at "rn"
    rename_i q1 hq1 q2 hq2
    have nq : q2 ≠ q1 := fun e => by rw [e, upd_same] at hq2; cases hq2
    have s0 : Same H (upd (upd H q1 (.lst [])) q2 (.lst [])) := (Rd.same_new hq1).trans (Rd.same_new hq2)
    refine Rd.rng1 (fun i σ' H' => ∃ (q1 q2 : Addr) (xs : List V) (ds : List PyData) (es : List Int), ∃ c4 c5 c6 c7 c8,  σ' = [some (.ref a), some (.ref b), some (.ref q1), some (.ref q2), c4, c5, c6, c7, c8] ∧ Same H H' ∧ H' q1 = some (.lst xs) ∧ H' q2 = some (.lst (es.map V.int)) ∧ DpAll K H' xs ds ∧ (∀ d ∈ ds, gd d = true) ∧ Dpt ds es ∧ wt ds ≤ 1012 * i ∧ ds.length ≤ i ∧ H q1 = none ∧ H q2 = none ∧ q2 ≠ q1) (by omega) ⟨q1, q2, [], [], [], _, _, _, _, _,  rfl, s0, (upd_ne nq.symm).trans upd_same, upd_same, .nil, by simp, Dpt.nil, by rw [wt_nil]; omega, by simp, hq1, (Rd.same_new hq1).free hq2, nq⟩ ?_ ?_
    · clear hq1 hq2 nq s0
      rintro i σ' H' hi ⟨q1, q2, xs, ds, es, c4, c5, c6, c7, c8,  rfl, hs, hx, hes, hd, hg, hdt, hw, hdl, hq1, hq2, nq⟩
      have hb' := hs.seq hb
      have hxl : xs.length = ds.length := Rd.dpAll_len hd
      have hel := hdt.1
      have hebd := hdt.bd
      have hnl : nlAll ds = true := gds_nl (gds_mem.mpr hg)
      walk_at "rnj"
      rename_i v hv0 hv1
      refine Rd.join (fun σ' H2 => ∃ m : Int, ∃ c7 c8,  σ' = [some (.ref a), some (.ref b), some (.ref q1), some (.ref q2), some (.int (i : Int)), some (.int v), some (.int m), c7, c8] ∧ H' = H2 ∧ 0 ≤ m ∧ m ≤ ds.length) ?_ ?_
      · intro N hN
        walk_at "rn"
        all_goals exact hN _ _ ⟨_, _, _,  rfl, rfl, by omega, by omega⟩
      rintro σ' H2 ⟨m, c7, c8,  rfl, rfl, hm0, hm1⟩
      refine Rd.join (fun σ' H2 => ∃ m : Int, ∃ c7 c8,  σ' = [some (.ref a), some (.ref b), some (.ref q1), some (.ref q2), some (.int (i : Int)), some (.int v), some (.int m), c7, c8] ∧ H' = H2 ∧ 0 ≤ m ∧ m ≤ ds.length) ?_ ?_
      · intro N hN
        walk_at "rn"
        all_goals exact hN _ _ ⟨_, _, _,  rfl, rfl, by omega, by omega⟩
      clear hm0 hm1
      rintro σ' H2 ⟨m, c7, c8,  rfl, rfl, hm0, hm1⟩
      walk_at "rnj"
      rename_i l0 hl0 l1 hl1
      obtain ⟨n, hn, hnd⟩ : ∃ n : Nat, (xs.length : Int) - m = (n : Int) ∧ n ≤ ds.length := ⟨((xs.length : Int) - m).toNat, by omega, by omega⟩
      rw [hn, cut_dropN (by rw [List.length_map]; omega), ← List.map_drop]
      have t0 : Same H' (upd (upd H' l0 (.lst [V.int 0])) l1 (.lst ((es.drop n).map V.int))) := (Rd.same_new hl0).trans (Rd.same_new hl1)
      refine Rd.catL (xs := [V.int 0]) (ys := (es.drop n).map V.int) (Rd.same_new hl1 _ _ upd_same) upd_same (by rw [List.length_map, List.length_drop]; simp; omega) fun l2 hl2 => ?_
      rw [show [V.int 0] ++ (es.drop n).map V.int = (0 :: es.drop n).map V.int from rfl]
      have t1 := t0.trans (Rd.same_new (o := .lst ((0 :: es.drop n).map V.int)) hl2)
      have hl3 : SqL K (upd (upd (upd H' l0 (.lst [V.int 0])) l1 (.lst ((es.drop n).map V.int))) l2 (.lst ((0 :: es.drop n).map V.int))) l2 ((0 :: es.drop n).map V.int) := SqL.of upd_same
      generalize upd (upd (upd H' l0 (.lst [V.int 0])) l1 (.lst ((es.drop n).map V.int))) l2 (.lst ((0 :: es.drop n).map V.int)) = H5 at *
      walk_at "rn"
      refine maxL hl3 (by simp) fun mx hmx hmax => ?_
      have hm2 := hmax 0 (by simp)
      have hm3 : mx ≤ 11 := by
        rcases List.mem_cons.mp hmx with h | h
        · omega
        · exact (hebd mx (List.mem_of_mem_drop h)).2
      replace hdt := hdt
      have hdp := (hdt.drop n).all (m := mx) (fun e he => hmax e (List.mem_cons_of_mem _ he)) hm2
      have hS5 := (hs.trans t1).seq hS
      have s5 := hs.trans t1
      replace hx := t1 _ _ hx
      replace hes := t1 _ _ hes
      replace hd := dpAll_same t1 hd
      clear t1 t0 hl3 hmx hmax hl0 hl1 hl2 hs hb'
      have ea : cutV xs (some ((xs.length : Int) - m)) none = xs.drop n := by rw [hn]; exact cut_dropN (by omega)
      have eb : cutV xs none (some ((xs.length : Int) - m)) = xs.take n := by rw [hn, Rd.cut_take (Int.natCast_nonneg _), Int.toNat_natCast]
      have ec : cutV (es.map V.int) none (some ((es.length : Int) - m)) = (es.take n).map V.int := by
        rw [show (es.length : Int) - m = (n : Int) by omega, Rd.cut_take (Int.natCast_nonneg _), Int.toNat_natCast, List.map_take]
      walk_at "rn"
      · rename_i hca hcb l3 hl3 l4 hl4 t5 ht5 l6 hl6
        simp only [ea, eb] at hl4 ht5 hl6 ⊢
        have u1 := Rd.same_new (o := .lst (xs.drop n)) hl3
        have u2 := Rd.same_new (o := .lst (xs.take n)) hl4
        have u3 := Rd.same_new (o := .tup (xs.drop n)) ht5
        have u4 := Rd.same_new (o := .lst [V.ref t5]) hl6
        have g4 := (u3.trans u4) _ _ (upd_same (a := l4) (o := .lst (xs.take n)))
        have g5 := u4 _ _ (upd_same (a := t5) (o := .tup (xs.drop n)))
        have s6 := (u1.trans u2).trans (u3.trans u4)
        refine Rd.catL (xs := xs.take n) (ys := [V.ref t5]) g4 upd_same (by rw [List.length_take]; simp; omega) fun l7 hl7 => ?_
        have u5 := Rd.same_new (o := .lst (xs.take n ++ [V.ref t5])) hl7
        have g7 := upd_same (H := upd (upd (upd (upd H5 l3 (.lst (xs.drop n))) l4 (.lst (xs.take n))) t5 (.tup (xs.drop n))) l6 (.lst [V.ref t5])) (a := l7) (o := HO.lst (xs.take n ++ [V.ref t5]))
        replace g5 := u5 _ _ g5
        replace s6 := s6.trans u5
        have f7 := (s5.trans ((u1.trans u2).trans (u3.trans u4))).free hl7
        generalize upd (upd (upd (upd (upd H5 l3 (.lst (xs.drop n))) l4 (.lst (xs.take n))) t5 (.tup (xs.drop n))) l6 (.lst [V.ref t5])) l7 (.lst (xs.take n ++ [V.ref t5])) = H6 at *
        clear u1 u2 u3 u4 u5 g4 hl3 hl4 ht5 hl6
        replace hes := s6 _ _ hes
        replace hd := dpAll_same s6 hd
        replace s6 := s5.trans s6
        clear s5 hx hl7
        walk_at "rn"
        rename_i l8 hl8 l9 hl9
        simp only [ec] at hl9 ⊢
        have u1 := Rd.same_new (o := .lst ((es.take n).map V.int)) hl8
        have u2 := Rd.same_new (o := .lst [V.int (mx + 1)]) hl9
        refine Rd.catL (xs := (es.take n).map V.int) (ys := [V.int (mx + 1)]) (u2 _ _ upd_same) upd_same (by rw [List.length_map, List.length_take]; simp; omega) fun l10 hl10 => ?_
        rw [show (es.take n).map V.int ++ [V.int (mx + 1)] = (es.take n ++ [mx + 1]).map V.int by simp]
        have u3 := (u1.trans u2).trans (Rd.same_new (o := .lst ((es.take n ++ [mx + 1]).map V.int)) hl10)
        have hw2 := wr_wt (ds.drop n)
        have hw3 := wt_split ds n
        refine ⟨l7, l10, xs.take n ++ [V.ref t5], ds.take n ++ [.tuple (ds.drop n)], es.take n ++ [mx + 1], _, _, _, _, _,  rfl, s6.trans u3, u3 _ _ g7, upd_same, dpAll_app (dp_take n (dpAll_same u3 hd)) (dpAll_one (.tup (SqT.of (u3 _ _ g5)) (dp_drop n (dpAll_same u3 hd)))), fun d hd2 => ?_, (hdt.take n).snoc ⟨by simp only [PyData.depth]; omega, by omega, by omega⟩, by rw [wt_app, wt_cons, wt_nil]; omega, by rw [List.length_append, List.length_take]; simp; omega, f7, (s6.trans (u1.trans u2)).free hl10, fun e => by have h2 := (u1.trans u2) _ _ g7; rw [← e, hl10] at h2; cases h2⟩
        rcases List.mem_append.mp hd2 with h | h
        · exact hg d (List.mem_of_mem_take h)
        · rw [List.mem_singleton.mp h]
          exact gd_tuple (by rw [List.length_drop]; omega) fun x hx => hg x (List.mem_of_mem_drop hx)
      all_goals (
        refine ⟨_, ?u13_ns, _, rfl, ?u13_p0, ?u13_p1, ?u13_p2, fun z hz => ?_⟩
        case u13_p0 => walk_at "pre"
        case u13_p1 => walk_at "pre"
        case u13_p2 => walk_at "pre"
        walk_at "rn"
        refine ⟨_, _, rfl, ?u14_p0, ?u14_p1, fun u d H6 s6 hu hgd hdp2 hwl => ?_⟩
        case u14_p0 => walk_at "pre"
        case u14_p1 => walk_at "pre"
        have hx6 := s6 _ _ hx
        have hes6 := s6 _ _ hes
        walk_at "rn"
        refine ⟨q1, q2, xs ++ [u], ds ++ [d], es ++ [0], _, _, _, _, _,  rfl, Rd.same_mut (Rd.same_mut (s5.trans s6) hq1) hq2, (upd_ne nq.symm).trans upd_same, by rw [List.map_append]; exact upd_same, dpAll_keep (.put ((upd_ne nq).trans hes6)) (gds_nl (gds_mem.mpr fun x hx => (List.mem_append.mp hx).elim (hg x) fun h => by rw [List.mem_singleton.mp h]; exact hgd)) (push hd hnl s6 hx6 hu (gd_nl hgd)), fun x hx => (List.mem_append.mp hx).elim (hg x) fun h => by rw [List.mem_singleton.mp h]; exact hgd, hdt.snoc ⟨by omega, by omega, by omega⟩, by rw [wt_app, wt_cons, wt_nil]; omega, by rw [List.length_append, List.length_singleton]; omega, hq1, hq2, nq⟩)
    · rintro σ' H' ⟨q1, q2, xs, ds, es, c4, c5, c6, c7, c8,  rfl, hs, hx, hes, hd, hg, hdt, hw, hdl, hq1, hq2, nq⟩
      have hxl : xs.length = ds.length := Rd.dpAll_len hd
      have hil : (((nums.length : Nat) : Int)).toNat = nums.length := Int.toNat_natCast _
      rw [hil] at hw hdl
      walk_at "rn"
      · rename_i hl1
        have hl2 : ds.length = 1 := by omega
        obtain ⟨d, rfl⟩ := List.length_eq_one_iff.mp hl2
        cases hd with
        | cons h1 h2 =>
          cases h2
          refine Rd.ixL (SqL.of hx) rfl ?_
          have h3 := hdt.all11
          rw [wt_cons] at hw
          exact k _ d H' hs h1 (hg d (by simp)) (Nat.le_trans (depth_mem.mp h3 d (by simp)) (by decide)) (by omega)
      · rename_i t ht
        have h4 := wr_wt ds
        refine k _ (.tuple ds) _ (hs.trans (Rd.same_new ht)) (.tup (SqT.of upd_same) (dpAll_same (Rd.same_new ht) hd)) (gd_tuple (by omega) hg) ?_ (by omega)
        have h3 := hdt.all11
        simp only [PyData.depth]; omega
theorem ok_law_value {f : Addr} {fd : FuncData} (mf : mg "_law_value" = some (.ref f)) (F : FnP K "_law_value" s_law_value f fd) (C_law_leaf : Cal P w K mg base "_law_leaf" 3 ["cell", "number"] (sp_law_leaf K)) (C_law_cell : Cal P w K mg base "_law_cell" 1 ["script", "k"] (sp_law_cell K)) (z_range : mg "range" = none) (z_len : mg "len" = none) (z_min : mg "min" = none) (z_max : mg "max" = none) (z_tuple : mg "tuple" = none) : Cal P w K mg base "_law_value" 4 ["script", "numbers"] (sp_law_value K) :=
  ⟨f, fd, mf, F.kp, F.bindsN fun _ _ _ _ _ _ us hl => match us, hl with | [_, _], _ => rfl, fn_law_value F C_law_leaf C_law_cell z_range z_len z_min z_max z_tuple⟩

theorem step_write {f : Addr} {fd : FuncData} (F : FnP K "write" s_write f fd) {n : Nat} (C_write : Cal P w K mg base "write" (0 + n) ["value"] (sp_write K n))  (z_isinstance : mg "isinstance" = none) (z_bool : mg "bool" = none) (z_int : mg "int" = none) (z_str : mg "str" = none) (z_len : mg "len" = none) : FnOk P w K mg base CX0 (0 + n + 1) f fd ["value"] (sp_write K (n + 1)) := by
  obtain ⟨f_write, fd_write, m_write, k_write, b_write, G_write⟩ := C_write.ex
  refine F.ok sc_write (fun vs H Q E h => ?_) (fun cdv A outer s H vs Q E hr h => ?_)
  · obtain ⟨v, d, rfl, _⟩ := h; rfl
  · obtain ⟨v, d, rfl, hv, hg, hl, hn, k⟩ := h
    refine ⟨_, PSs.nox (pss_cons (ps_if (pt_val (pe_callB call_isi (by rfl) z_isinstance boot_isinstance (pa_cons (pv 0) (pa_cons (pe_bltn (v := .ty "bool") (by rfl) z_bool boot_bool rfl) pa_nil)))) (pss_one (ps_ret (pe_ifExp (pt_val (pv 0)) pe_str pe_str))) pss_nil)
      (pss_cons (ps_if (pt_val (pe_callB call_isi (by rfl) z_isinstance boot_isinstance (pa_cons (pv 0) (pa_cons (pe_bltn (v := .ty "int") (by rfl) z_int boot_int rfl) pa_nil)))) (pss_one (ps_ret (pe_callTy call_str_int (by rfl) z_str boot_str (pa_cons (pv 0) pa_nil)))) pss_nil)
      (pss_cons (ps_if (pt_val (pe_callB call_isi (by rfl) z_isinstance boot_isinstance (pa_cons (pv 0) (pa_cons (pe_bltn (v := .ty "str") (by rfl) z_str boot_str rfl) pa_nil)))) (pss_one (ps_ret (pe_joined (.cons (pe_fmt (pe_callB call_len_str (by rfl) z_len boot_len (pa_cons (pv 0) pa_nil))) (.cons pe_str (.cons (pe_fmt (pv 0)) .nil)))))) pss_nil)
      (pss_one (ps_ret (pe_op op_add_str (pe_op op_add_str pe_str (Ez.pe_joinK pe_str (pe_lc (own := [("item", 1)]) (g := gName 1) (tt := tYes) rfl sc_write.nd (pi_tup (pv 0)) (blkOk_by (N := N_write) (sc := defScope s_write) (by decide +kernel)) (fun _ _ _ _ _ => pg_name (i := 1) sc_write.nd rfl (by first | exact Or.inl rfl | exact Or.inr rfl)) (fun _ _ _ _ _ => pts_nil) (fun _ _ _ _ _ => (pe_call G_write (hr.mono (by omega)) (by rfl) m_write k_write b_write .nil pass0 (pa_cons (pv 1) pa_nil)))))) pe_str)))))), ?_⟩
    try simp only [Rd.cxK, Re.cxP, Re.cxW, lit_0, lit_1, lit_2, lit_3, lit_4, lit_5]
    cases d with
    | none => simp [gd] at hg
    | list _ => simp [gd] at hg
    | dict _ => simp [gd] at hg
    | bool b =>
      cases hv
      walk_at "rn"
      all_goals (cases b <;> first | contradiction | exact k _ (Same.refl H))
    | int z =>
      cases hv
      walk_at "rn"
      exact strI2 hg (k _ (Same.refl H))
    | str z =>
      cases hv
      have hgz : gs z.cps.toList = true := by simpa only [gd] using hg
      have hgl := gs_len hgz
      obtain ⟨l, rfl⟩ : ∃ l, z = Rd.S l := ⟨_, Rd.S_of z⟩
      rw [Rd.S_tl] at hgl
      have hw : wr (.str (Rd.S l)) = TL.numL l.length ++ 58 :: l := by simp only [wr, Rd.S_tl]
      rw [hw] at k
      have hnl := TL.numL_len (n := l.length) (k := 4) (by decide) (by omega)
      have hz : l.length < 10 ^ 60 := Nat.lt_of_le_of_lt hgl (by decide)
      walk_at "rn"
      rw [show TL.numL l.length ++ [58] ++ l = TL.numL l.length ++ 58 :: l by simp]
      exact k _ (Same.refl H)
    | tuple ds =>
      obtain ⟨hdl, hgm1⟩ := gd_tup hg
      have hgm := gds_mem.mp hgm1
      simp only [wr, List.length_cons, List.length_append, List.length_nil] at hl
      simp only [PyData.depth] at hn
      have hj := join_sum (wrl ds)
      have hwl : (wrl ds).length = ds.length := by rw [wrl_map, List.length_map]
      cases hv with
      | tup h1 d1 =>
        have e1 := Rd.dpAll_len d1
        walk_at "rn"
        refine lcDT (R := ds) (fun d => d) (fun d => .str (Rd.S (wr d))) h1 (by rw [List.map_id']; exact d1) (by omega) (fun _ _ => rfl) ?_ ?_
        · rintro e x D acc H' C hD s he hx hDl hC
          have hm := join_mem (y := wr e) (ys := wrl ds) (by rw [wrl_map]; exact List.mem_map_of_mem he)
          have hd1 := depth_mem.mp (Nat.le_refl (PyData.depthAll ds)) e he
          walk_at "rn"
          refine ⟨_, e, rfl, ?u15_p0, (hgm e he), (by omega), (by omega), fun H2 s2 => ?_⟩
          case u15_p0 => walk_at "pre"
          exact hC _ _ s2 (.str _)
        · rintro D acc H' hD s hDl hacc
          have hacc2 := dp_strs hacc
          subst hacc2
          walk_at "rn"
          refine joinS (SqL.of hDl) (by rw [List.length_cons, List.length_nil]; omega) ?_
          walk_at "rn"
          have e : [40] ++ TL.joinL [32] (wrl ds) ++ [41] = wr (.tuple ds) := by simp only [wr, List.cons_append, List.nil_append]
          rw [e]
          exact k _ s
theorem fn_write {f : Addr} {fd : FuncData} (mf : mg "write" = some (.ref f)) (F : FnP K "write" s_write f fd)  (z_isinstance : mg "isinstance" = none) (z_bool : mg "bool" = none) (z_int : mg "int" = none) (z_str : mg "str" = none) (z_len : mg "len" = none) : ∀ n : Nat, FnOk P w K mg base CX0 (0 + n) f fd ["value"] (sp_write K n)
  | 0 => Rd.none_left fun vs H Q E h => by obtain ⟨v, d, rfl, hv, hg, hl, hn, k⟩ := h; omega
  | n + 1 => step_write F ⟨f, fd, mf, F.kp, F.bindsN fun _ _ _ _ _ _ us hl => match us, hl with | [_], _ => rfl, fn_write mf F z_isinstance z_bool z_int z_str z_len n⟩ z_isinstance z_bool z_int z_str z_len
theorem ok_write {f : Addr} {fd : FuncData} (mf : mg "write" = some (.ref f)) (F : FnP K "write" s_write f fd)  (z_isinstance : mg "isinstance" = none) (z_bool : mg "bool" = none) (z_int : mg "int" = none) (z_str : mg "str" = none) (z_len : mg "len" = none) : Cal P w K mg base "write" 13 ["value"] (sp_write K 13) :=
  ⟨f, fd, mf, F.kp, F.bindsN fun _ _ _ _ _ _ us hl => match us, hl with | [_], _ => rfl, fn_write mf F z_isinstance z_bool z_int z_str z_len 13⟩

theorem step_law_written {f : Addr} {fd : FuncData} (F : FnP K "_law_written" s_law_written f fd) {n : Nat} (C_law_written : Cal P w K mg base "_law_written" (0 + n) ["value"] (sp_law_written K n))  (z_isinstance : mg "isinstance" = none) (z_bool : mg "bool" = none) (z_int : mg "int" = none) (z_str : mg "str" = none) (z_len : mg "len" = none) (z_tuple : mg "tuple" = none) : FnOk P w K mg base CX0 (0 + n + 1) f fd ["value"] (sp_law_written K (n + 1)) := by
  obtain ⟨f_law_written, fd_law_written, m_law_written, k_law_written, b_law_written, G_law_written⟩ := C_law_written.ex
  refine F.ok sc_law_written (fun vs H Q E h => ?_) (fun cdv A outer s H vs Q E hr h => ?_)
  · obtain ⟨v, d, rfl, _⟩ := h; rfl
  · obtain ⟨v, d, rfl, hv, hg, hl, hn, k⟩ := h
    refine ⟨_, PSs.nox (pss_cons (ps_if (pt_val (pe_callB call_isi (by rfl) z_isinstance boot_isinstance (pa_cons (pv 0) (pa_cons (pe_bltn (v := .ty "bool") (by rfl) z_bool boot_bool rfl) pa_nil)))) (pss_one (ps_ret (pe_ix ix_list (pe_lst (pa_cons pe_str (pa_cons pe_str pa_nil))) (pe_callTy call_int1 (by rfl) z_int boot_int (pa_cons (pv 0) pa_nil)) (fun _ _ => rfl)))) pss_nil)
      (pss_cons (ps_if (pt_val (pe_callB call_isi (by rfl) z_isinstance boot_isinstance (pa_cons (pv 0) (pa_cons (pe_bltn (v := .ty "int") (by rfl) z_int boot_int rfl) pa_nil)))) (pss_one (ps_ret (pe_callTy call_str_int (by rfl) z_str boot_str (pa_cons (pv 0) pa_nil)))) pss_nil)
      (pss_cons (ps_if (pt_val (pe_callB call_isi (by rfl) z_isinstance boot_isinstance (pa_cons (pv 0) (pa_cons (pe_bltn (v := .ty "str") (by rfl) z_str boot_str rfl) pa_nil)))) (pss_one (ps_ret (pe_op op_add_str (pe_op op_add_str (pe_callTy call_str_int (by rfl) z_str boot_str (pa_cons (pe_callB call_len_str (by rfl) z_len boot_len (pa_cons (pv 0) pa_nil)) pa_nil)) pe_str) (pv 0)))) pss_nil)
      (pss_cons (ps_if (pt_val (pe_callB call_isi (by rfl) z_isinstance boot_isinstance (pa_cons (pv 0) (pa_cons (pe_bltn (v := .ty "tuple") (by rfl) z_tuple boot_tuple rfl) pa_nil)))) (pss_one (ps_ret (pe_op op_add_str (pe_op op_add_str pe_str (Ez.pe_joinK pe_str (pe_lc (own := [("item", 1)]) (g := gName 1) (tt := tYes) rfl sc_law_written.nd (pi_tup (pv 0)) (blkOk_by (N := N_law_written) (sc := defScope s_law_written) (by decide +kernel)) (fun _ _ _ _ _ => pg_name (i := 1) sc_law_written.nd rfl (by first | exact Or.inl rfl | exact Or.inr rfl)) (fun _ _ _ _ _ => pts_nil) (fun _ _ _ _ _ => (pe_call G_law_written (hr.mono (by omega)) (by rfl) m_law_written k_law_written b_law_written .nil pass0 (pa_cons (pv 1) pa_nil)))))) pe_str))) pss_nil)
      (pss_one (ps_ret pe_str)))))), ?_⟩
    try simp only [Rd.cxK, Re.cxP, Re.cxW, lit_0, lit_1, lit_15, lit_2, lit_3, lit_4, lit_5]
    cases d with
    | none => simp [gd] at hg
    | list _ => simp [gd] at hg
    | dict _ => simp [gd] at hg
    | bool b =>
      cases hv
      walk_at "rn"
      cases b <;> (refine Rd.ixL Rd.slL rfl ?_; exact k _ (Rd.same_new ‹_›))
    | int z =>
      cases hv
      walk_at "rn"
      exact strI2 hg (k _ (Same.refl H))
    | str z =>
      cases hv
      have hgz : gs z.cps.toList = true := by simpa only [gd] using hg
      have hgl := gs_len hgz
      obtain ⟨l, rfl⟩ : ∃ l, z = Rd.S l := ⟨_, Rd.S_of z⟩
      rw [Rd.S_tl] at hgl
      have hw : wr (.str (Rd.S l)) = TL.numL l.length ++ 58 :: l := by simp only [wr, Rd.S_tl]
      rw [hw] at k
      have hnl := TL.numL_len (n := l.length) (k := 4) (by decide) (by omega)
      have hz : l.length < 10 ^ 60 := Nat.lt_of_le_of_lt hgl (by decide)
      walk_at "rn"
      refine strN hz ?_
      walk_at "rn"
      rw [show TL.numL l.length ++ [58] ++ l = TL.numL l.length ++ 58 :: l by simp]
      exact k _ (Same.refl H)
    | tuple ds =>
      obtain ⟨hdl, hgm1⟩ := gd_tup hg
      have hgm := gds_mem.mp hgm1
      simp only [wr, List.length_cons, List.length_append, List.length_nil] at hl
      simp only [PyData.depth] at hn
      have hj := join_sum (wrl ds)
      have hwl : (wrl ds).length = ds.length := by rw [wrl_map, List.length_map]
      cases hv with
      | tup h1 d1 =>
        have e1 := Rd.dpAll_len d1
        walk_at "rn"
        refine lcDT (R := ds) (fun d => d) (fun d => .str (Rd.S (wr d))) h1 (by rw [List.map_id']; exact d1) (by omega) (fun _ _ => rfl) ?_ ?_
        · rintro e x D acc H' C hD s he hx hDl hC
          have hm := join_mem (y := wr e) (ys := wrl ds) (by rw [wrl_map]; exact List.mem_map_of_mem he)
          have hd1 := depth_mem.mp (Nat.le_refl (PyData.depthAll ds)) e he
          walk_at "rn"
          refine ⟨_, e, rfl, ?u16_p0, (hgm e he), (by omega), (by omega), fun H2 s2 => ?_⟩
          case u16_p0 => walk_at "pre"
          exact hC _ _ s2 (.str _)
        · rintro D acc H' hD s hDl hacc
          have hacc2 := dp_strs hacc
          subst hacc2
          walk_at "rn"
          refine joinS (SqL.of hDl) (by rw [List.length_cons, List.length_nil]; omega) ?_
          walk_at "rn"
          have e : [40] ++ TL.joinL [32] (wrl ds) ++ [41] = wr (.tuple ds) := by simp only [wr, List.cons_append, List.nil_append]
          rw [e]
          exact k _ s
theorem fn_law_written {f : Addr} {fd : FuncData} (mf : mg "_law_written" = some (.ref f)) (F : FnP K "_law_written" s_law_written f fd)  (z_isinstance : mg "isinstance" = none) (z_bool : mg "bool" = none) (z_int : mg "int" = none) (z_str : mg "str" = none) (z_len : mg "len" = none) (z_tuple : mg "tuple" = none) : ∀ n : Nat, FnOk P w K mg base CX0 (0 + n) f fd ["value"] (sp_law_written K n)
  | 0 => Rd.none_left fun vs H Q E h => by obtain ⟨v, d, rfl, hv, hg, hl, hn, k⟩ := h; omega
  | n + 1 => step_law_written F ⟨f, fd, mf, F.kp, F.bindsN fun _ _ _ _ _ _ us hl => match us, hl with | [_], _ => rfl, fn_law_written mf F z_isinstance z_bool z_int z_str z_len z_tuple n⟩ z_isinstance z_bool z_int z_str z_len z_tuple
theorem ok_law_written {f : Addr} {fd : FuncData} (mf : mg "_law_written" = some (.ref f)) (F : FnP K "_law_written" s_law_written f fd)  (z_isinstance : mg "isinstance" = none) (z_bool : mg "bool" = none) (z_int : mg "int" = none) (z_str : mg "str" = none) (z_len : mg "len" = none) (z_tuple : mg "tuple" = none) : Cal P w K mg base "_law_written" 13 ["value"] (sp_law_written K 13) :=
  ⟨f, fd, mf, F.kp, F.bindsN fun _ _ _ _ _ _ us hl => match us, hl with | [_], _ => rfl, fn_law_written mf F z_isinstance z_bool z_int z_str z_len z_tuple 13⟩

theorem step_law_same {f : Addr} {fd : FuncData} (F : FnP K "_law_same" s_law_same f fd) {n : Nat} (C_law_same : Cal P w K mg base "_law_same" (0 + n) ["actual", "expected"] (sp_law_same K n))  (z_isinstance : mg "isinstance" = none) (z_tuple : mg "tuple" = none) (z_len : mg "len" = none) (z_range : mg "range" = none) (z_bool : mg "bool" = none) (z_str : mg "str" = none) (z_int : mg "int" = none) : FnOk P w K mg base CX0 (0 + n + 1) f fd ["actual", "expected"] (sp_law_same K (n + 1)) := by
  obtain ⟨f_law_same, fd_law_same, m_law_same, k_law_same, b_law_same, G_law_same⟩ := C_law_same.ex
  refine F.ok sc_law_same (fun vs H Q E h => ?_) (fun cdv A outer s H vs Q E hr h => ?_)
  · obtain ⟨x, y, d, rfl, _⟩ := h; rfl
  · obtain ⟨x, y, d, rfl, hx, hy, hg, hl, hn, k⟩ := h
    refine ⟨_, PSs.nox (pss_cons (ps_if (pt_val (pe_callB call_isi (by rfl) z_isinstance boot_isinstance (pa_cons (pv 1) (pa_cons (pe_bltn (v := .ty "tuple") (by rfl) z_tuple boot_tuple rfl) pa_nil)))) (pss_cons (ps_if (PW.pt (pw_or (pt_not (pt_val (pe_callB call_isi (by rfl) z_isinstance boot_isinstance (pa_cons (pv 0) (pa_cons (pe_bltn (v := .ty "tuple") (by rfl) z_tuple boot_tuple rfl) pa_nil))))) (pw_or1 (pt_cmpR op_ne (pe_callB call_len_seq (by rfl) z_len boot_len (pa_cons (pv 0) pa_nil)) (pe_callB call_len_seq (by rfl) z_len boot_len (pa_cons (pv 1) pa_nil)) (nomark _))))) (pss_one (ps_ret pe_bl)) pss_nil)
      (pss_cons (ps_for PassesOwn.never rfl (pi_range1 (by rfl) z_range (pa_cons (pe_callB call_len_seq (by rfl) z_len boot_len (pa_cons (pv 1) pa_nil)) pa_nil)) (pg_name (i := 2) sc_law_same.nd rfl (by first | exact Or.inl rfl | exact Or.inr rfl)) (pss_one (ps_if (pt_not (pt_val (pe_call G_law_same (hr.mono (by omega)) (by rfl) m_law_same k_law_same b_law_same .nil pass0 (pa_cons (pe_ix ix_tup (pv 0) (pv 2) (fun _ _ => rfl)) (pa_cons (pe_ix ix_tup (pv 1) (pv 2) (fun _ _ => rfl)) pa_nil))))) (pss_one (ps_ret pe_bl)) pss_nil)))
      (pss_one (ps_ret pe_bl)))) pss_nil)
      (pss_cons (ps_if (pt_val (pe_callB call_isi (by rfl) z_isinstance boot_isinstance (pa_cons (pv 1) (pa_cons (pe_bltn (v := .ty "bool") (by rfl) z_bool boot_bool rfl) pa_nil)))) (pss_one (ps_ret (pe_and (pe_callB call_isi (by rfl) z_isinstance boot_isinstance (pa_cons (pv 0) (pa_cons (pe_bltn (v := .ty "bool") (by rfl) z_bool boot_bool rfl) pa_nil))) (pe_one (pe_cmpR op_eq (pv 0) (pv 1) (nomark _)))))) pss_nil)
      (pss_cons (ps_if (pt_val (pe_callB call_isi (by rfl) z_isinstance boot_isinstance (pa_cons (pv 1) (pa_cons (pe_bltn (v := .ty "str") (by rfl) z_str boot_str rfl) pa_nil)))) (pss_one (ps_ret (pe_and (pe_callB call_isi (by rfl) z_isinstance boot_isinstance (pa_cons (pv 0) (pa_cons (pe_bltn (v := .ty "str") (by rfl) z_str boot_str rfl) pa_nil))) (pe_one (pe_cmpR op_eq (pv 0) (pv 1) (nomark _)))))) pss_nil)
      (pss_one (ps_ret (pe_and (pe_callB call_isi (by rfl) z_isinstance boot_isinstance (pa_cons (pv 0) (pa_cons (pe_bltn (v := .ty "int") (by rfl) z_int boot_int rfl) pa_nil))) (pe_and (pe_not (pe_callB call_isi (by rfl) z_isinstance boot_isinstance (pa_cons (pv 0) (pa_cons (pe_bltn (v := .ty "bool") (by rfl) z_bool boot_bool rfl) pa_nil)))) (pe_one (pe_cmpR op_eq (pv 0) (pv 1) (nomark _)))))))))), ?_⟩
    try simp only [Rd.cxK, Re.cxP, Re.cxW]
    cases d with
    | none => simp [gd] at hg
    | list _ => simp [gd] at hg
    | dict _ => simp [gd] at hg
    | bool b =>
      cases hx; cases hy
      walk_at "rd"
      all_goals first | contradiction | simpa using k
    | int i =>
      cases hx; cases hy
      walk_at "rd"
      all_goals first | contradiction | simpa using k
    | str z =>
      cases hx; cases hy
      walk_at "rd"
      all_goals first | contradiction | simpa using k
    | tuple ds =>
      obtain ⟨hdl, hgm1⟩ := gd_tup hg
      have hgm := gds_mem.mp hgm1
      simp only [wr, List.length_cons, List.length_append, List.length_nil] at hl
      simp only [PyData.depth] at hn
      cases hx with
      | tup h1 d1 =>
        cases hy with
        | tup h2 d2 =>
          have e1 := Rd.dpAll_len d1
          have e2 := Rd.dpAll_len d2
          walk_at "rn"
          refine Rd.rng1 (fun i σ' H' => ∃ kv, σ' = [some (.ref _), some (.ref _), kv] ∧ H' = H) (by omega) ⟨_, rfl, rfl⟩ ?_ ?_
          · rintro i σ' H' hi ⟨kv, rfl, rfl⟩
            have hi' : i < ds.length := by omega
            obtain ⟨u, hu, du⟩ := Rd.dpAll_get d1 i hi'
            obtain ⟨w, hw, dw⟩ := Rd.dpAll_get d2 i hi'
            have hmem : ds.getD i .none ∈ ds := by rw [List.getD_eq_getElem?_getD, List.getElem?_eq_getElem hi']; exact List.getElem_mem hi'
            have hm := join_mem (y := wr (ds.getD i .none)) (ys := wrl ds) (by rw [wrl_map]; exact List.mem_map_of_mem hmem)
            have hd1 := depth_mem.mp (Nat.le_refl (PyData.depthAll ds)) _ hmem
            walk_at "rn"
            refine Rd.ixT h1 (Rd.atI_of (Int.natCast_nonneg _) (by rw [Int.toNat_natCast]; exact hu)) ?_
            walk_at "rn"
            refine Rd.ixT h2 (Rd.atI_of (Int.natCast_nonneg _) (by rw [Int.toNat_natCast]; exact hw)) ?_
            walk_at "rn"
            refine ⟨_, _, ds.getD i .none, rfl, du, dw, (hgm _ hmem), (by omega), (by omega), ?_⟩
            walk_at "rn"
            exact ⟨_, rfl, rfl⟩
          · rintro σ' H' ⟨kv, rfl, rfl⟩
            walk_at "rn"
            exact k
theorem fn_law_same {f : Addr} {fd : FuncData} (mf : mg "_law_same" = some (.ref f)) (F : FnP K "_law_same" s_law_same f fd)  (z_isinstance : mg "isinstance" = none) (z_tuple : mg "tuple" = none) (z_len : mg "len" = none) (z_range : mg "range" = none) (z_bool : mg "bool" = none) (z_str : mg "str" = none) (z_int : mg "int" = none) : ∀ n : Nat, FnOk P w K mg base CX0 (0 + n) f fd ["actual", "expected"] (sp_law_same K n)
  | 0 => Rd.none_left fun vs H Q E h => by obtain ⟨x, y, d, rfl, hx, hy, hg, hl, hn, k⟩ := h; omega
  | n + 1 => step_law_same F ⟨f, fd, mf, F.kp, F.bindsN fun _ _ _ _ _ _ us hl => match us, hl with | [_, _], _ => rfl, fn_law_same mf F z_isinstance z_tuple z_len z_range z_bool z_str z_int n⟩ z_isinstance z_tuple z_len z_range z_bool z_str z_int
theorem ok_law_same {f : Addr} {fd : FuncData} (mf : mg "_law_same" = some (.ref f)) (F : FnP K "_law_same" s_law_same f fd)  (z_isinstance : mg "isinstance" = none) (z_tuple : mg "tuple" = none) (z_len : mg "len" = none) (z_range : mg "range" = none) (z_bool : mg "bool" = none) (z_str : mg "str" = none) (z_int : mg "int" = none) : Cal P w K mg base "_law_same" 13 ["actual", "expected"] (sp_law_same K 13) :=
  ⟨f, fd, mf, F.kp, F.bindsN fun _ _ _ _ _ _ us hl => match us, hl with | [_, _], _ => rfl, fn_law_same mf F z_isinstance z_tuple z_len z_range z_bool z_str z_int 13⟩


theorem fn_tuple {f : Addr} {fd : FuncData} (F : FnP K "_tuple" s_tuple f fd) {n : Nat} (C_value : Cal P w K mg base "_value" (2 + 2 * n) ["scanner", "deep"] (sp_value K n)) (C_Scanner_skip : CalM P w K mg base (He.fAd K ("Scanner", some "skip")) 2 ["self", "char"] [] (sp_Scanner_skip K)) (C_Scanner_require : CalM P w K mg base (He.fAd K ("Scanner", some "require")) 1 ["self", "good"] [] (sp_Scanner_require K)) (z_tuple : mg "tuple" = none) (W_Scanner : CF_Scanner K mg) : FnOk P w K mg base CX0 (2 + 2 * n + 1) f fd ["scanner", "deep"] (sp_tuple K n) := by
  obtain ⟨fd_Scanner_skip, b_Scanner_skip, G_Scanner_skip, ds_Scanner_skip, dr_Scanner_skip, db_Scanner_skip⟩ := C_Scanner_skip.ex
  obtain ⟨fd_Scanner_require, b_Scanner_require, G_Scanner_require, ds_Scanner_require, dr_Scanner_require, db_Scanner_require⟩ := C_Scanner_require.ex
  obtain ⟨f_value, fd_value, m_value, k_value, b_value, G_value⟩ := C_value.ex
  have cf_Scanner := W_Scanner
  have cfc_Scanner := cf_Scanner.cls
  have cfn_Scanner_at := cf_Scanner.n_at
  refine F.ok sc_tuple (fun vs H Q E h => ?_) (fun cdv A outer s H vs Q E hr h => ?_)
  · obtain ⟨s, dx, t, i, r, ds, dp, rfl, _⟩ := h; rfl
  · obtain ⟨s, dx, t, i, r, ds, dp, rfl, hs, hr1, hl, hg, hdp, hn, k⟩ := h
    refine ⟨_, PSs.nox (pss_cons (ps_fldaug (pv 0) pe_int in_add)
      (pss_cons (ps_if (pt_val (pe_meth (pv 0) cf_Scanner.cls cf_Scanner.mt_skip G_Scanner_skip (hr.mono (by omega)) b_Scanner_skip .nil pass0 (pa_cons pe_str pa_nil))) (pss_one (ps_ret (pe_tup pa_nil))) pss_nil)
      (pss_cons (ps_set (i := 2) sc_tuple.nd rfl (by first | exact Or.inl rfl | exact Or.inr rfl) (pe_lst (pa_cons (pe_call G_value (hr.mono (by omega)) (by rfl) m_value k_value b_value .nil pass0 (pa_cons (pv 0) (pa_cons (pv 1) pa_nil))) pa_nil)))
      (pss_cons (ps_while PassesOwn.never (pt_val (pe_meth (pv 0) cf_Scanner.cls cf_Scanner.mt_skip G_Scanner_skip (hr.mono (by omega)) b_Scanner_skip .nil pass0 (pa_cons pe_str pa_nil))) (pss_one (ps_expr (pe_bm PySem.F.plainAttrs_list PySem.F.slot_list_append PySem.F.type_list_append mt_append (pv 2) (pa_cons (pe_call G_value (hr.mono (by omega)) (by rfl) m_value k_value b_value .nil pass0 (pa_cons (pv 0) (pa_cons (pv 1) pa_nil))) pa_nil)))))
      (pss_cons (ps_expr (pe_meth (pv 0) cf_Scanner.cls cf_Scanner.mt_require G_Scanner_require (hr.mono (by omega)) b_Scanner_require .nil pass0 (pa_cons (pe_meth (pv 0) cf_Scanner.cls cf_Scanner.mt_skip G_Scanner_skip (hr.mono (by omega)) b_Scanner_skip .nil pass0 (pa_cons pe_str pa_nil)) pa_nil)))
      (pss_one (ps_ret (pe_callTy call_tuple_of (by rfl) z_tuple boot_tuple (pa_cons (pv 2) pa_nil))))))))), ?_⟩
    try simp only [Rd.cxK, Re.cxP, Re.cxW, lit_0, lit_5]
    obtain ⟨e1, e2, e3⟩ := head_at (r := TL.joinL [32] (wrl ds) ++ [41] ++ r) (show t.drop i = 40 :: _ by rw [hr1]; simp only [wr, List.cons_append])
    walk_at "rn"
    have ad1 : Adv K s dx t (i + 1) H (upd H s (scO K dx t ((i : Int) + 1))) := Adv.step0 hs (j := i + 1) rfl
    have hs1 := ad1.sc
    refine ⟨_, ?u18_dx, ?u18_t, ?u18_i, ?u18_r, _, rfl, ?u18_p0, ?u18_p1, ?u18_p2, ?_⟩
    case u18_p0 => walk_at "pre"
    case u18_p1 => walk_at "pre"
    case u18_p2 => walk_at "pre"
    cases ds with
    | nil =>
      refine ⟨fun H2 hq ad2 => ?_, fun hq => absurd (by simp [wrl, TL.joinL]) hq⟩
      walk_at "rd"
      refine k _ _ ((ad1.trans ad2).new ‹_›) (.tup (SqT.of upd_same) .nil)
    | cons d ds =>
      simp only [gds, Bool.and_eq_true] at hg
      simp only [PyData.depthAll] at hdp hn
      have e4 : t.drop (i + 1) = wr d ++ (tlw ds ++ 41 :: r) := by rw [e3, wr_tup]; simp only [List.append_assoc, List.cons_append, List.nil_append]
      obtain ⟨c, l, ec, hc1, hc2⟩ := wr_head hg.1
      refine ⟨fun H2 hq ad2 => ?_, fun hq => ?_⟩
      · exfalso
        rw [← e3, e4, ec] at hq
        simp at hq
        exact hc2 hq
      · walk_at "rn"
        refine ⟨_, dx, t, i + 1, tlw ds ++ 41 :: r, d, _, rfl, ?u19_p0, e4, ?u19_p2, hg.1, (by omega), stp_tlw _ _, (by omega), fun H3 v ad3 hv => ?_⟩
        case u19_p0 => walk_at "pre"
        case u19_p2 => walk_at "pre"
        walk_at "rn"
        rename_i p hp
        have hp1 := ad3.free hp
        have hp0 := ad1.free hp1
        have ad4 := (ad1.trans ad3).new (o := .lst [v]) hp
        have hall : ∀ e ∈ d :: ds, gd e = true ∧ PyData.depth e + dp ≤ 12 ∧ PyData.depth e < n := by
          intro e he
          have q1 : PyData.depthAll (d :: ds) ≤ max (PyData.depth d) (PyData.depthAll ds) := by simp only [PyData.depthAll]; exact Nat.le_refl _
          have q2 := depth_mem.mp q1 e he
          refine ⟨?_, by omega, by omega⟩
          rcases List.mem_cons.mp he with rfl | he
          · exact hg.1
          · exact gds_mem.mp hg.2 e he
        have hnl : ∀ done es, d :: ds = done ++ es → nlAll done = true := fun done es h => nlAll_mem.mpr fun e he => gd_nl (hall e (by rw [h]; exact List.mem_append_left _ he)).1
        have hlen := wr_len d ds
        have hbd := drop_bd hr1 (by simp [wr])
        refine Rd.whl (fun mm σ' H' => ∃ (done es : List PyData) (vs : List V) (q : Nat), d :: ds = done ++ es ∧ mm = es.length ∧ σ' = [some (.ref s), some (.int dp), some (.ref p)] ∧ H' p = some (.lst vs) ∧ DpAll K H' vs done ∧ t.drop q = tlw es ++ 41 :: r ∧ q + (tlw es).length + 1 = i + (wr (.tuple (d :: ds))).length ∧ Adv K s dx t q H H')
          ⟨_, [d], ds, [v], i + 1 + (wr d).length, rfl, rfl, rfl, upd_same, dpAll_one (dp_keep (.of (Rd.same_new hp)) (gd_nl hg.1) hv), drop_app e4, by omega, ad4⟩ ?_
        rintro mm σ' H5 ⟨done, es, vs, q, hde, rfl, rfl, hp5, hvs, hr5, hq5, ad5⟩
        have hs5 := ad5.sc
        have hvl := Rd.dpAll_len hvs
        walk_at "rn"
        refine ⟨_, dx, t, q, tlw es ++ 41 :: r, _, rfl, ?u20_p0, hr5, ?u20_p2, ?_⟩
        case u20_p0 => walk_at "pre"
        case u20_p2 => walk_at "pre"
        cases es with
        | nil =>
          refine ⟨fun H6 hq6 ad6 => absurd hq6 (by simp [tlw]), fun _ => ?_⟩
          walk_at "rn"
          refine ⟨_, dx, t, q, 41 :: r, _, rfl, ?u21_p0, hr5, ?u21_p2, ?_⟩
          case u21_p0 => walk_at "pre"
          case u21_p2 => walk_at "pre"
          refine ⟨fun H6 hq6 ad6 => ?_, fun hq6 => absurd rfl hq6⟩
          have hp6 := ad6.at hs5 hp5
          walk_at "rn"
          refine ⟨_, rfl, ?_⟩
          walk_at "rn"
          rename_i p2 hp2
          rw [List.append_nil] at hde
          have ad7 := (ad5.trans ad6).new (o := .tup vs) hp2
          simp only [tlw, List.length_nil, Nat.add_zero] at hq5
          rw [hq5] at ad7
          refine k _ _ ad7 (.tup (SqT.of upd_same) ?_)
          rw [hde]
          exact dpAll_same (Rd.same_new hp2) (ad6.dpAll hs5 hvs)
        | cons e es =>
          obtain ⟨x1, x2, x3⟩ := head_at (c := 32) (r := wr e ++ (tlw es ++ 41 :: r)) (by rw [hr5]; simp only [tlw, List.cons_append, List.append_assoc])
          obtain ⟨g1, g2, g3⟩ := hall e (by rw [hde]; exact List.mem_append_right _ List.mem_cons_self)
          refine ⟨fun H6 hq6 ad6 => ?_, fun hq6 => absurd rfl hq6⟩
          have hs6 := ad6.sc
          have hp6 := ad6.at hs5 hp5
          walk_at "rn"
          refine ⟨_, dx, t, q + 1, tlw es ++ 41 :: r, e, _, rfl, ?u23_p0, x3, ?u23_p2, g1, g2, stp_tlw _ _, g3, fun H7 v2 ad7 hv2 => ?_⟩
          case u23_p0 => walk_at "pre"
          case u23_p2 => walk_at "pre"
          have hp7 := ad7.at hs6 hp6
          have hvs7 := ad7.dpAll hs6 (ad6.dpAll hs5 hvs)
          have hll := len_tlw ds
          have hle : (d :: ds).length = (done ++ e :: es).length := by rw [hde]
          simp only [List.length_cons, List.length_append] at hle
          walk_at "rn"
          refine appd2 hp7 (by omega) ?_
          walk_at "rn"
          refine ⟨_, Nat.lt_succ_self _, done ++ [e], es, vs ++ [v2], q + 1 + (wr e).length, by rw [hde]; simp, rfl, rfl, upd_same, ?_, drop_app x3, ?_, ((ad5.trans ad6).trans ad7).mut hp0 hs⟩
          · exact dpAll_app (dpAll_keep (.put hp7) (hnl done (e :: es) hde) hvs7) (dpAll_one (dp_keep (.put hp7) (gd_nl g1) hv2))
          · simp only [tlw, List.length_cons, List.length_append] at hq5
            omega
theorem step_value {f : Addr} {fd : FuncData} (F : FnP K "_value" s_value f fd) {n : Nat} (C_tuple : Cal P w K mg base "_tuple" (2 + 2 * n + 1) ["scanner", "deep"] (sp_tuple K n)) (C_Scanner_char : CalM P w K mg base (He.fAd K ("Scanner", some "char")) 1 ["self"] [] (sp_Scanner_char K)) (C_Scanner_require : CalM P w K mg base (He.fAd K ("Scanner", some "require")) 1 ["self", "good"] [] (sp_Scanner_require K)) (C_digits : Cal P w K mg base "_digits" 2 ["scanner"] (sp_digits K)) (C_is_digit : Cal P w K mg base "_is_digit" 1 ["char"] (sp_is_digit K)) (C_Scanner_skip : CalM P w K mg base (He.fAd K ("Scanner", some "skip")) 2 ["self", "char"] [] (sp_Scanner_skip K)) (C_string : Cal P w K mg base "_string" 2 ["scanner", "length"] (sp_string K))  (W_Scanner : CF_Scanner K mg) (W__MOST_DEPTH : ∃ t, mg "_MOST_DEPTH" = some (.int 12 t)) (W__LONGEST_STRING : ∃ t, mg "_LONGEST_STRING" = some (.int 1000 t)) : FnOk P w K mg base CX0 (2 + 2 * n + 2) f fd ["scanner", "deep"] (sp_value K (n + 1)) := by
  obtain ⟨fd_Scanner_char, b_Scanner_char, G_Scanner_char, ds_Scanner_char, dr_Scanner_char, db_Scanner_char⟩ := C_Scanner_char.ex
  obtain ⟨fd_Scanner_require, b_Scanner_require, G_Scanner_require, ds_Scanner_require, dr_Scanner_require, db_Scanner_require⟩ := C_Scanner_require.ex
  obtain ⟨f_digits, fd_digits, m_digits, k_digits, b_digits, G_digits⟩ := C_digits.ex
  obtain ⟨f_is_digit, fd_is_digit, m_is_digit, k_is_digit, b_is_digit, G_is_digit⟩ := C_is_digit.ex
  obtain ⟨fd_Scanner_skip, b_Scanner_skip, G_Scanner_skip, ds_Scanner_skip, dr_Scanner_skip, db_Scanner_skip⟩ := C_Scanner_skip.ex
  obtain ⟨f_string, fd_string, m_string, k_string, b_string, G_string⟩ := C_string.ex
  obtain ⟨f_tuple, fd_tuple, m_tuple, k_tuple, b_tuple, G_tuple⟩ := C_tuple.ex
  have cf_Scanner := W_Scanner
  have cfc_Scanner := cf_Scanner.cls
  have cfn_Scanner_at := cf_Scanner.n_at
  obtain ⟨t__MOST_DEPTH, g__MOST_DEPTH⟩ := W__MOST_DEPTH; have g__MOST_DEPTH_r : RelV (.int 12) (.int 12 t__MOST_DEPTH) := ⟨_, rfl⟩
  obtain ⟨t__LONGEST_STRING, g__LONGEST_STRING⟩ := W__LONGEST_STRING; have g__LONGEST_STRING_r : RelV (.int 1000) (.int 1000 t__LONGEST_STRING) := ⟨_, rfl⟩
  refine F.ok sc_value (fun vs H Q E h => ?_) (fun cdv A outer s H vs Q E hr h => ?_)
  · obtain ⟨s, dx, t, i, r, d, dp, rfl, _⟩ := h; rfl
  · obtain ⟨s, dx, t, i, r, d, dp, rfl, hs, hr1, hl, hg, hdp, hst, hn, k⟩ := h
    refine ⟨_, PSs.nox (pss_cons (ps_set (i := 2) sc_value.nd rfl (by first | exact Or.inl rfl | exact Or.inr rfl) (pe_meth0 (pv 0) cf_Scanner.cls cf_Scanner.mt_char G_Scanner_char (hr.mono (by omega)) b_Scanner_char .nil pass0))
      (pss_cons (ps_if (pt_cmpR op_eq (pv 2) pe_str (nomark _)) (pss_cons (ps_expr (pe_meth (pv 0) cf_Scanner.cls cf_Scanner.mt_require G_Scanner_require (hr.mono (by omega)) b_Scanner_require .nil pass0 (pa_cons (pe_cmpR op_lt (pv 1) (pe_glob (by rfl) g__MOST_DEPTH g__MOST_DEPTH_r) (nomark _)) pa_nil)))
      (pss_one (ps_ret (pe_call G_tuple (hr.mono (by omega)) (by rfl) m_tuple k_tuple b_tuple .nil pass0 (pa_cons (pv 0) (pa_cons (pe_op op_add (pv 1) pe_int) pa_nil)))))) pss_nil)
      (pss_cons (ps_if (PW.pt (pw_or (pt_cmpR op_eq (pv 2) pe_str (nomark _)) (pw_or1 (pt_cmpR op_eq (pv 2) pe_str (nomark _))))) (pss_cons (ps_fldaug (pv 0) pe_int in_add)
      (pss_one (ps_ret (pe_cmpR op_eq (pv 2) pe_str (nomark _))))) pss_nil)
      (pss_cons (ps_if (pt_cmpR op_eq (pv 2) pe_str (nomark _)) (pss_cons (ps_fldaug (pv 0) pe_int in_add)
      (pss_cons (ps_expr (pe_meth (pv 0) cf_Scanner.cls cf_Scanner.mt_require G_Scanner_require (hr.mono (by omega)) b_Scanner_require .nil pass0 (pa_cons (pe_chain Ez.op_leS Ez.op_leS pe_str (pe_meth0 (pv 0) cf_Scanner.cls cf_Scanner.mt_char G_Scanner_char (hr.mono (by omega)) b_Scanner_char .nil pass0) pe_str) pa_nil)))
      (pss_one (ps_ret (pe_un un_neg (pe_call G_digits (hr.mono (by omega)) (by rfl) m_digits k_digits b_digits .nil pass0 (pa_cons (pv 0) pa_nil))))))) pss_nil)
      (pss_cons (ps_expr (pe_meth (pv 0) cf_Scanner.cls cf_Scanner.mt_require G_Scanner_require (hr.mono (by omega)) b_Scanner_require .nil pass0 (pa_cons (pe_call G_is_digit (hr.mono (by omega)) (by rfl) m_is_digit k_is_digit b_is_digit .nil pass0 (pa_cons (pv 2) pa_nil)) pa_nil)))
      (pss_cons (ps_set (i := 3) sc_value.nd rfl (by first | exact Or.inl rfl | exact Or.inr rfl) (pe_call G_digits (hr.mono (by omega)) (by rfl) m_digits k_digits b_digits .nil pass0 (pa_cons (pv 0) pa_nil)))
      (pss_cons (ps_if (PW.pt (pw_and (pt_cmpR op_le (pv 3) (pe_glob (by rfl) g__LONGEST_STRING g__LONGEST_STRING_r) (nomark _)) (pw_and1 (pt_val (pe_meth (pv 0) cf_Scanner.cls cf_Scanner.mt_skip G_Scanner_skip (hr.mono (by omega)) b_Scanner_skip .nil pass0 (pa_cons pe_str pa_nil)))))) (pss_one (ps_ret (pe_call G_string (hr.mono (by omega)) (by rfl) m_string k_string b_string .nil pass0 (pa_cons (pv 0) (pa_cons (pv 3) pa_nil))))) pss_nil)
      (pss_one (ps_ret (pv 3)))))))))), ?_⟩
    try simp only [Rd.cxK, Re.cxP, Re.cxW, lit_1, lit_2, lit_3, lit_4, lit_7, lit_8, lit_9]
    cases d with
    | none => simp [gd] at hg
    | list _ => simp [gd] at hg
    | dict _ => simp [gd] at hg
    | tuple ds =>
      have hw : wr (.tuple ds) ++ r = 40 :: (TL.joinL [32] (wrl ds) ++ [41] ++ r) := by simp only [wr, List.cons_append]
      simp only [PyData.depth] at hdp hn
      walk_at "rn"
      refine ⟨_, ?u24_dx, ?u24_t, ?u24_i, ?u24_r, rfl, ?u24_p0, ?u24_p1, ?u24_p2, ?_⟩
      case u24_p0 => walk_at "pre"
      case u24_p1 => walk_at "pre"
      case u24_p2 => walk_at "pre"
      rw [hw, show List.take 1 (40 :: (TL.joinL [32] (wrl ds) ++ [41] ++ r)) = [40] from rfl]
      walk_at "rn"
      rw [decide_eq_true (show (dp : Int) < 12 by omega)]
      refine ⟨_, rfl, ?_⟩
      walk_at "rn"
      refine ⟨s, dx, t, i, r, ds, dp + 1, rfl, hs, hr1, hl, (gd_tup hg).2, by omega, by omega, fun H' v ad hv => ?_⟩
      exact k H' v ad hv
    | bool b =>
      obtain ⟨c, hc, hc2⟩ : ∃ c : Nat, wr (.bool b) = [c] ∧ ((c = 84 ∧ b = true) ∨ (c = 70 ∧ b = false)) := by cases b <;> simp [wr]
      walk_at "rn"
      refine ⟨_, ?u26_dx, ?u26_t, ?u26_i, ?u26_r, rfl, ?u26_p0, ?u26_p1, ?u26_p2, ?_⟩
      case u26_p0 => walk_at "pre"
      case u26_p1 => walk_at "pre"
      case u26_p2 => walk_at "pre"
      rw [hc, show List.take 1 ([c] ++ r) = [c] from rfl]
      rw [hc] at k
      rcases hc2 with ⟨rfl, rfl⟩ | ⟨rfl, rfl⟩
      · walk_at "rn"
        exact k _ _ (Adv.step0 hs rfl) (.bl true)
      · walk_at "rn"
        exact k _ _ (Adv.step0 hs rfl) (.bl false)
    | int z =>
      by_cases hz : z < 0
      · obtain ⟨m, rfl⟩ : ∃ m : Nat, z = -(m : Int) := ⟨z.natAbs, by omega⟩
        have hm := gd_neg hg
        rw [wr_neg (by omega)] at hr1 k
        walk_at "rn"
        refine ⟨_, ?u27_dx, ?u27_t, ?u27_i, ?u27_r, rfl, ?u27_p0, ?u27_p1, ?u27_p2, ?_⟩
        case u27_p0 => walk_at "pre"
        case u27_p1 => walk_at "pre"
        case u27_p2 => walk_at "pre"
        rw [show List.take 1 (45 :: TL.numL m ++ r) = [45] from rfl]
        walk_at "rn"
        have ad1 : Adv K s dx t (i + 1) H (upd H s (scO K dx t ((i : Int) + 1))) := Adv.step0 hs (j := i + 1) rfl
        have hs1 := ad1.sc
        obtain ⟨e1, e2, e3⟩ := head_at hr1
        obtain ⟨c0, r0, he, h1, h2, h3, h4⟩ := numL_head m
        have h5 := h3 (by omega)
        refine ⟨_, dx, t, i + 1, c0 :: (r0 ++ r), rfl, ?u28_p0, (by rw [e3, he]; rfl), ?u28_p2, ?_⟩
        case u28_p0 => walk_at "pre"
        case u28_p2 => walk_at "pre"
        rw [show List.take 1 (c0 :: (r0 ++ r)) = [c0] from rfl]
        walk_at "rn"
        rw [decide_eq_false (show ¬ ([57] : List Nat) < [c0] by rw [lt11]; omega)]
        refine ⟨_, rfl, ?_⟩
        walk_at "rn"
        refine ⟨_, dx, t, i + 1, r, m, rfl, ?u30_p0, e3, ?u30_p2, hm, stp_isd hst, fun H2 ad2 => ?_⟩
        case u30_p0 => walk_at "pre"
        case u30_p2 => walk_at "pre"
        walk_at "rn"
        refine k _ _ ?_ (.int _)
        have := ad1.trans ad2
        rw [List.length_cons, show i + ((TL.numL m).length + 1) = i + 1 + (TL.numL m).length by omega]
        exact this
      · obtain ⟨m, rfl⟩ : ∃ m : Nat, z = (m : Int) := ⟨z.natAbs, by omega⟩
        have hm := gd_nat hg
        rw [wr_nat] at hr1 k
        obtain ⟨c0, r0, he, h1, h2, h3, h4⟩ := numL_head m
        walk_at "rn"
        refine ⟨_, dx, t, i, c0 :: (r0 ++ r), rfl, ?u31_p0, (by rw [hr1, he]; rfl), ?u31_p2, ?_⟩
        case u31_p0 => walk_at "pre"
        case u31_p2 => walk_at "pre"
        rw [show List.take 1 (c0 :: (r0 ++ r)) = [c0] from rfl]
        walk_at "rn"
        refine ⟨c0 :: r0, rfl, ?_⟩
        rw [show isd (c0 :: r0) = true by show (decide (48 ≤ c0) && decide (c0 ≤ 57)) = true; rw [decide_eq_true h1, decide_eq_true h2]; rfl]
        refine ⟨_, rfl, ?_⟩
        walk_at "rn"
        refine ⟨_, dx, t, i, r, m, rfl, ?u33_p0, hr1, ?u33_p2, hm, stp_isd hst, fun H2 ad2 => ?_⟩
        case u33_p0 => walk_at "pre"
        case u33_p2 => walk_at "pre"
        have hs2 := ad2.sc
        walk_at "rn"
        · refine ⟨_, dx, t, i + (TL.numL m).length, r, _, rfl, ?u34_p0, drop_app hr1, ?u34_p2, ?_⟩
          case u34_p0 => walk_at "pre"
          case u34_p2 => walk_at "pre"
          refine ⟨fun H3 hq ad3 => ?_, fun hq => ?_⟩
          · exfalso
            cases r with
            | nil => cases hq
            | cons c l =>
              have h6 := hst c l rfl
              simp at hq
              omega
          · walk_at "rn"
            exact k _ _ ad2 (.int _)
        · exact k _ _ ad2 (.int _)
    | str z =>
      have hgz : gs z.cps.toList = true := by simpa only [gd] using hg
      have hgl := gs_len hgz
      obtain ⟨l, hzl⟩ : ∃ l, z.cps.toList = l := ⟨_, rfl⟩
      have hw : wr (.str z) = TL.numL l.length ++ 58 :: l := by simp only [wr, hzl]
      rw [hzl] at hgz hgl
      rw [hw] at hr1 k
      have hr2 : t.drop i = TL.numL l.length ++ (58 :: (l ++ r)) := by rw [hr1]; simp only [List.append_assoc, List.cons_append]
      obtain ⟨c0, r0, he, h1, h2, h3, h4⟩ := numL_head l.length
      walk_at "rn"
      refine ⟨_, dx, t, i, c0 :: (r0 ++ (58 :: (l ++ r))), rfl, ?u35_p0, (by rw [hr2, he]; rfl), ?u35_p2, ?_⟩
      case u35_p0 => walk_at "pre"
      case u35_p2 => walk_at "pre"
      rw [show List.take 1 (c0 :: (r0 ++ (58 :: (l ++ r)))) = [c0] from rfl]
      walk_at "rn"
      refine ⟨c0 :: r0, rfl, ?_⟩
      rw [show isd (c0 :: r0) = true by show (decide (48 ≤ c0) && decide (c0 ≤ 57)) = true; rw [decide_eq_true h1, decide_eq_true h2]; rfl]
      refine ⟨_, rfl, ?_⟩
      walk_at "rn"
      refine ⟨_, dx, t, i, 58 :: (l ++ r), l.length, rfl, ?u37_p0, hr2, ?u37_p2, (Nat.lt_of_le_of_lt hgl (by decide)), rfl, fun H2 ad2 => ?_⟩
      case u37_p0 => walk_at "pre"
      case u37_p2 => walk_at "pre"
      have hs2 := ad2.sc
      walk_at "rn"
      have hr3 := drop_app hr2
      refine ⟨_, dx, t, i + (TL.numL l.length).length, 58 :: (l ++ r), _, rfl, ?u38_p0, hr3, ?u38_p2, ?_⟩
      case u38_p0 => walk_at "pre"
      case u38_p2 => walk_at "pre"
      refine ⟨fun H3 hq ad3 => ?_, fun hq => absurd rfl hq⟩
      have hs3 := ad3.sc
      obtain ⟨e1, e2, e3⟩ := head_at hr3
      walk_at "rn"
      refine ⟨_, dx, t, i + (TL.numL l.length).length + 1, r, l, rfl, ?u39_p0, e3, ?u39_p2, hgz, (by omega), fun H4 ad4 => ?_⟩
      case u39_p0 => walk_at "pre"
      case u39_p2 => walk_at "pre"
      walk_at "rn"
      refine k _ _ ?_ ?_
      · have := (ad2.trans ad3).trans ad4
        rw [List.length_append, List.length_cons, show i + ((TL.numL l.length).length + (l.length + 1)) = i + (TL.numL l.length).length + 1 + l.length by omega]
        exact this
      · have e : Rd.S l = z := by rw [← hzl]; exact (Rd.S_of z).symm
        rw [e]
        exact .str z
theorem fn_value {f : Addr} {fd : FuncData} (mf : mg "_value" = some (.ref f)) (F : FnP K "_value" s_value f fd) {f2 : Addr} {fd2 : FuncData} (mf2 : mg "_tuple" = some (.ref f2)) (F2 : FnP K "_tuple" s_tuple f2 fd2) (C_Scanner_char : CalM P w K mg base (He.fAd K ("Scanner", some "char")) 1 ["self"] [] (sp_Scanner_char K)) (C_Scanner_require : CalM P w K mg base (He.fAd K ("Scanner", some "require")) 1 ["self", "good"] [] (sp_Scanner_require K)) (C_digits : Cal P w K mg base "_digits" 2 ["scanner"] (sp_digits K)) (C_is_digit : Cal P w K mg base "_is_digit" 1 ["char"] (sp_is_digit K)) (C_Scanner_skip : CalM P w K mg base (He.fAd K ("Scanner", some "skip")) 2 ["self", "char"] [] (sp_Scanner_skip K)) (C_string : Cal P w K mg base "_string" 2 ["scanner", "length"] (sp_string K))  (W_Scanner : CF_Scanner K mg) (W__MOST_DEPTH : ∃ t, mg "_MOST_DEPTH" = some (.int 12 t)) (W__LONGEST_STRING : ∃ t, mg "_LONGEST_STRING" = some (.int 1000 t)) (z_tuple : mg "tuple" = none) : ∀ n : Nat, FnOk P w K mg base CX0 (2 + 2 * n) f fd ["scanner", "deep"] (sp_value K n)
  | 0 => Rd.none_left fun vs H Q E h => by obtain ⟨s, dx, t, i, r, d, dp, rfl, hs, hr1, hl, hg, hdp, hst, hn, k⟩ := h; omega
  | n + 1 => step_value F ⟨f2, fd2, mf2, F2.kp, F2.bindsN fun _ _ _ _ _ _ us hl => match us, hl with | [_, _], _ => rfl, fn_tuple F2 ⟨f, fd, mf, F.kp, F.bindsN fun _ _ _ _ _ _ us hl => match us, hl with | [_, _], _ => rfl, fn_value mf F mf2 F2 C_Scanner_char C_Scanner_require C_digits C_is_digit C_Scanner_skip C_string W_Scanner W__MOST_DEPTH W__LONGEST_STRING z_tuple n⟩ C_Scanner_skip C_Scanner_require z_tuple W_Scanner⟩ C_Scanner_char C_Scanner_require C_digits C_is_digit C_Scanner_skip C_string W_Scanner W__MOST_DEPTH W__LONGEST_STRING
theorem ok_value {f : Addr} {fd : FuncData} (mf : mg "_value" = some (.ref f)) (F : FnP K "_value" s_value f fd) {f2 : Addr} {fd2 : FuncData} (mf2 : mg "_tuple" = some (.ref f2)) (F2 : FnP K "_tuple" s_tuple f2 fd2) (C_Scanner_char : CalM P w K mg base (He.fAd K ("Scanner", some "char")) 1 ["self"] [] (sp_Scanner_char K)) (C_Scanner_require : CalM P w K mg base (He.fAd K ("Scanner", some "require")) 1 ["self", "good"] [] (sp_Scanner_require K)) (C_digits : Cal P w K mg base "_digits" 2 ["scanner"] (sp_digits K)) (C_is_digit : Cal P w K mg base "_is_digit" 1 ["char"] (sp_is_digit K)) (C_Scanner_skip : CalM P w K mg base (He.fAd K ("Scanner", some "skip")) 2 ["self", "char"] [] (sp_Scanner_skip K)) (C_string : Cal P w K mg base "_string" 2 ["scanner", "length"] (sp_string K))  (W_Scanner : CF_Scanner K mg) (W__MOST_DEPTH : ∃ t, mg "_MOST_DEPTH" = some (.int 12 t)) (W__LONGEST_STRING : ∃ t, mg "_LONGEST_STRING" = some (.int 1000 t)) (z_tuple : mg "tuple" = none) : Cal P w K mg base "_value" 28 ["scanner", "deep"] (sp_value K 13) :=
  ⟨f, fd, mf, F.kp, F.bindsN fun _ _ _ _ _ _ us hl => match us, hl with | [_, _], _ => rfl, fn_value mf F mf2 F2 C_Scanner_char C_Scanner_require C_digits C_is_digit C_Scanner_skip C_string W_Scanner W__MOST_DEPTH W__LONGEST_STRING z_tuple 13⟩

theorem fn_read {f : Addr} {fd : FuncData} (F : FnP K "read" s_read f fd) (C_Scanner___init : CalM P w K mg base (He.fAd K ("Scanner", some "__init__")) 1 ["self", "text"] [] (sp_Scanner___init K)) (C_value : Cal P w K mg base "_value" 28 ["scanner", "deep"] (sp_value K 13)) (C_Scanner_require : CalM P w K mg base (He.fAd K ("Scanner", some "require")) 1 ["self", "good"] [] (sp_Scanner_require K)) (C_Scanner_char : CalM P w K mg base (He.fAd K ("Scanner", some "char")) 1 ["self"] [] (sp_Scanner_char K))  (W_Scanner : CF_Scanner K mg) : FnOk P w K mg base CX0 29 f fd ["text"] (sp_read K) := by
  obtain ⟨fd_Scanner___init, b_Scanner___init, G_Scanner___init, ds_Scanner___init, dr_Scanner___init, db_Scanner___init⟩ := C_Scanner___init.ex
  obtain ⟨f_value, fd_value, m_value, k_value, b_value, G_value⟩ := C_value.ex
  obtain ⟨fd_Scanner_require, b_Scanner_require, G_Scanner_require, ds_Scanner_require, dr_Scanner_require, db_Scanner_require⟩ := C_Scanner_require.ex
  obtain ⟨fd_Scanner_char, b_Scanner_char, G_Scanner_char, ds_Scanner_char, dr_Scanner_char, db_Scanner_char⟩ := C_Scanner_char.ex
  have cf_Scanner := W_Scanner
  have cfc_Scanner := cf_Scanner.cls
  refine F.ok sc_read (fun vs H Q E h => ?_) (fun cdv A outer s H vs Q E hr h => ?_)
  · obtain ⟨d, rfl, _⟩ := h; rfl
  · obtain ⟨d, rfl, hl, hg, hdp, k⟩ := h
    refine ⟨_, PSs.nox (pss_cons (ps_set (i := 1) sc_read.nd rfl (by first | exact Or.inl rfl | exact Or.inr rfl) (pe_make cf_Scanner.mkr G_Scanner___init (hr.mono (by decide)) (by rfl) cf_Scanner.m b_Scanner___init .nil pass0 (pa_cons (pv 0) pa_nil)))
      (pss_cons (ps_set (i := 2) sc_read.nd rfl (by first | exact Or.inl rfl | exact Or.inr rfl) (pe_call G_value (hr.mono (by decide)) (by rfl) m_value k_value b_value .nil pass0 (pa_cons (pv 1) (pa_cons pe_int pa_nil))))
      (pss_cons (ps_expr (pe_meth (pv 1) cf_Scanner.cls cf_Scanner.mt_require G_Scanner_require (hr.mono (by decide)) b_Scanner_require .nil pass0 (pa_cons (pe_cmpR op_eq (pe_meth0 (pv 1) cf_Scanner.cls cf_Scanner.mt_char G_Scanner_char (hr.mono (by decide)) b_Scanner_char .nil pass0) pe_str (nomark _)) pa_nil)))
      (pss_one (ps_ret (pv 2)))))), ?_⟩
    try simp only [Rd.cxK, Re.cxP, Re.cxW, lit_6]
    walk_at "rn"
    rintro s dx hs1 hdx hne
    have s0 : Same H (upd (upd H dx (.own s)) s (.ins (He.ga K "Scanner") dx [])) := (Rd.same_new hdx).trans (Rd.same_new (by rw [upd_ne (Ne.symm hne)]; exact hs1))
    refine ⟨s, dx, wr d, rfl, upd_same, fun H2 b2 sc2 => ⟨rfl, ?_⟩⟩
    walk_at "rn"
    refine ⟨s, dx, wr d, 0, [], d, 0, rfl, sc2, by simp, hl, hg, by omega, stp_nil, by omega, fun H3 v ad3 hv => ?_⟩
    have hs3 := ad3.sc
    walk_at "rn"
    refine ⟨_, dx, wr d, 0 + (wr d).length, [], rfl, ad3.sc, (by simp), ?u40_p2, ?_⟩
    case u40_p2 => walk_at "pre"
    walk_at "rn"
    rw [show decide (List.take 1 ([] : List Nat) = []) = true from rfl]
    refine ⟨_, rfl, ?_⟩
    walk_at "rn"
    exact k _ v (fun a o ha => ad3.keep _ _ (fun e => by subst e; rw [hs1] at ha; cases ha) (b2 _ _ (fun e => by subst e; rw [hs1] at ha; cases ha) (s0 _ _ ha))) hv
theorem ok_read {f : Addr} {fd : FuncData} (mf : mg "read" = some (.ref f)) (F : FnP K "read" s_read f fd) (C_Scanner___init : CalM P w K mg base (He.fAd K ("Scanner", some "__init__")) 1 ["self", "text"] [] (sp_Scanner___init K)) (C_value : Cal P w K mg base "_value" 28 ["scanner", "deep"] (sp_value K 13)) (C_Scanner_require : CalM P w K mg base (He.fAd K ("Scanner", some "require")) 1 ["self", "good"] [] (sp_Scanner_require K)) (C_Scanner_char : CalM P w K mg base (He.fAd K ("Scanner", some "char")) 1 ["self"] [] (sp_Scanner_char K))  (W_Scanner : CF_Scanner K mg) : Cal P w K mg base "read" 29 ["text"] (sp_read K) :=
  ⟨f, fd, mf, F.kp, F.bindsN fun _ _ _ _ _ _ us hl => match us, hl with | [_], _ => rfl, fn_read F C_Scanner___init C_value C_Scanner_require C_Scanner_char W_Scanner⟩

theorem fn_law {f : Addr} {fd : FuncData} (F : FnP K "law" s_law f fd) (C_law_tape : Cal P w K mg base "_law_tape" 2 ["script", "first", "others"] (sp_law_tape K)) (C_law_value : Cal P w K mg base "_law_value" 4 ["script", "numbers"] (sp_law_value K)) (C_law_written : Cal P w K mg base "_law_written" 13 ["value"] (sp_law_written K 13)) (C_write : Cal P w K mg base "write" 13 ["value"] (sp_write K 13)) (C_law_same : Cal P w K mg base "_law_same" 13 ["actual", "expected"] (sp_law_same K 13)) (C_read : Cal P w K mg base "read" 29 ["text"] (sp_read K)) (z_isinstance : mg "isinstance" = none) (z_str : mg "str" = none) : FnOk P w K mg base CX0 30 f fd ["script"] (sp_law K) := by
  obtain ⟨f_law_tape, fd_law_tape, m_law_tape, k_law_tape, b_law_tape, G_law_tape⟩ := C_law_tape.ex
  obtain ⟨f_law_value, fd_law_value, m_law_value, k_law_value, b_law_value, G_law_value⟩ := C_law_value.ex
  obtain ⟨f_law_written, fd_law_written, m_law_written, k_law_written, b_law_written, G_law_written⟩ := C_law_written.ex
  obtain ⟨f_write, fd_write, m_write, k_write, b_write, G_write⟩ := C_write.ex
  obtain ⟨f_law_same, fd_law_same, m_law_same, k_law_same, b_law_same, G_law_same⟩ := C_law_same.ex
  obtain ⟨f_read, fd_read, m_read, k_read, b_read, G_read⟩ := C_read.ex
  refine F.ok sc_law (fun vs H Q E h => ?_) (fun cdv A outer s H vs Q E hr h => ?_)
  · obtain ⟨a, ns, rfl, _⟩ := h; rfl
  · obtain ⟨a, ns, rfl, hS, h63, hbt, k⟩ := h
    refine ⟨_, PSs.nox (pss_cons (ps_set (i := 1) sc_law.nd rfl (by first | exact Or.inl rfl | exact Or.inr rfl) (pe_call G_law_tape (hr.mono (by decide)) (by rfl) m_law_tape k_law_tape b_law_tape .nil pass0 (pa_cons (pv 0) (pa_cons pe_int (pa_cons pe_int pa_nil)))))
      (pss_cons (ps_set (i := 2) sc_law.nd rfl (by first | exact Or.inl rfl | exact Or.inr rfl) (pe_call G_law_value (hr.mono (by decide)) (by rfl) m_law_value k_law_value b_law_value .nil pass0 (pa_cons (pv 0) (pa_cons (pv 1) pa_nil))))
      (pss_cons (ps_set (i := 3) sc_law.nd rfl (by first | exact Or.inl rfl | exact Or.inr rfl) (pe_call G_law_value (hr.mono (by decide)) (by rfl) m_law_value k_law_value b_law_value .nil pass0 (pa_cons (pe_slice sl_list (pv 0) (po_some pe_int) po_none) (pa_cons (pe_slice sl_list (pv 1) (po_some pe_int) (po_some pe_int)) pa_nil))))
      (pss_cons (ps_set (i := 4) sc_law.nd rfl (by first | exact Or.inl rfl | exact Or.inr rfl) (pe_call G_law_written (hr.mono (by decide)) (by rfl) m_law_written k_law_written b_law_written .nil pass0 (pa_cons (pv 2) pa_nil)))
      (pss_cons (ps_set (i := 5) sc_law.nd rfl (by first | exact Or.inl rfl | exact Or.inr rfl) (pe_call G_write (hr.mono (by decide)) (by rfl) m_write k_write b_write .nil pass0 (pa_cons (pv 2) pa_nil)))
      (pss_cons (ps_if (PW.pt (pw_or (pt_not (pt_val (pe_callB call_isi (by rfl) z_isinstance boot_isinstance (pa_cons (pv 5) (pa_cons (pe_bltn (v := .ty "str") (by rfl) z_str boot_str rfl) pa_nil))))) (pw_or1 (pt_cmpR op_ne (pv 5) (pv 4) (nomark _))))) (pss_one (ps_ret pe_bl)) pss_nil)
      (pss_cons (ps_if (pt_not (pt_val (pe_call G_law_same (hr.mono (by decide)) (by rfl) m_law_same k_law_same b_law_same .nil pass0 (pa_cons (pe_call G_read (hr.mono (by decide)) (by rfl) m_read k_read b_read .nil pass0 (pa_cons (pv 4) pa_nil)) (pa_cons (pv 2) pa_nil))))) (pss_one (ps_ret pe_bl)) pss_nil)
      (pss_cons (ps_if (PW.pt (pw_or (pt_cmpR op_ne (pe_call G_write (hr.mono (by decide)) (by rfl) m_write k_write b_write .nil pass0 (pa_cons (pv 3) pa_nil)) (pe_call G_law_written (hr.mono (by decide)) (by rfl) m_law_written k_law_written b_law_written .nil pass0 (pa_cons (pv 3) pa_nil)) (nomark _)) (pw_or1 (pt_not (pt_val (pe_call G_law_same (hr.mono (by decide)) (by rfl) m_law_same k_law_same b_law_same .nil pass0 (pa_cons (pe_call G_read (hr.mono (by decide)) (by rfl) m_read k_read b_read .nil pass0 (pa_cons (pe_call G_law_written (hr.mono (by decide)) (by rfl) m_law_written k_law_written b_law_written .nil pass0 (pa_cons (pv 3) pa_nil)) pa_nil)) (pa_cons (pv 3) pa_nil)))))))) (pss_one (ps_ret pe_bl)) pss_nil)
      (pss_one (ps_ret (pe_and (pe_call G_law_same (hr.mono (by decide)) (by rfl) m_law_same k_law_same b_law_same .nil pass0 (pa_cons (pe_call G_read (hr.mono (by decide)) (by rfl) m_read k_read b_read .nil pass0 (pa_cons (pv 5) pa_nil)) (pa_cons (pv 2) pa_nil))) (pe_one (pe_cmpR op_eq (pe_call G_write (hr.mono (by decide)) (by rfl) m_write k_write b_write .nil pass0 (pa_cons (pv 2) pa_nil)) (pv 4) (nomark _)))))))))))))), ?_⟩
    try simp only [Rd.cxK, Re.cxP, Re.cxW]
    walk_at "rn"
    refine ⟨_, ?u42_ns, _, _, rfl, ?u42_p0, ?u42_p1, ?u42_p2, ?u42_p3, fun p nums H1 s1 hp hn hl hl2 hb3 => ?_⟩
    case u42_p0 => walk_at "pre"
    case u42_p1 => walk_at "pre"
    case u42_p2 => walk_at "pre"
    case u42_p3 => walk_at "pre"
    have hS1 := s1.seq hS
    have hn1 : SqL K H1 p (nums.map V.int) := SqL.of hn
    walk_at "rn"
    refine ⟨_, _, ?u43_ns, ?u43_nums, rfl, ?u43_p0, ?u43_p1, ?u43_p2, ?u43_p3, ?u43_p4, fun v1 d1 H2 s2 h1 hg1 hd1 hw1 => ?_⟩
    case u43_p0 => walk_at "pre"
    case u43_p1 => walk_at "pre"
    case u43_p2 => walk_at "pre"
    case u43_p3 => walk_at "pre"
    case u43_p4 => walk_at "pre"
    have hS2 := s2.seq hS1
    have hn2 := s2.seq hn1
    obtain ⟨ms, ems, hml, hms⟩ := cut_ints (ns := ns) (lo := some 1) (hi := none)
    obtain ⟨mu, emu, hmul, hmus⟩ := cut_ints (ns := nums) (lo := some 5) (hi := some 9)
    walk_at "rn"
    rename_i q1 hq1 q2 hq2
    rw [ems] at hq2 ⊢
    rw [emu]
    have t1 : Same H2 (upd H2 q1 (.lst (ms.map V.int))) := Rd.same_new hq1
    have t2 : Same (upd H2 q1 (.lst (ms.map V.int))) (upd (upd H2 q1 (.lst (ms.map V.int))) q2 (.lst (mu.map V.int))) := Rd.same_new hq2
    have g1 : SqL K (upd (upd H2 q1 (.lst (ms.map V.int))) q2 (.lst (mu.map V.int))) q1 (ms.map V.int) := SqL.of (t2 _ _ upd_same)
    have g2 : SqL K (upd (upd H2 q1 (.lst (ms.map V.int))) q2 (.lst (mu.map V.int))) q2 (mu.map V.int) := SqL.of upd_same
    have h12 := Rd.dp_same (t1.trans t2) h1
    generalize upd (upd H2 q1 (.lst (ms.map V.int))) q2 (.lst (mu.map V.int)) = H3 at *
    have hbm : ∀ z ∈ ms, Builtin.Int.intBits z ≤ 1048576 := fun z hz => hbt z (hms z hz)
    have hb3m : B3 mu := fun x hx => hb3 x (hmus x hx)
    refine ⟨_, _, ?u44_ns, ?u44_nums, rfl, ?u44_p0, ?u44_p1, ?u44_p2, ?u44_p3, ?u44_p4, fun v2 d2 H4 s4 h2 hg2 hd2 hw2 => ?_⟩
    case u44_p0 => walk_at "pre"
    case u44_p1 => walk_at "pre"
    case u44_p2 => walk_at "pre"
    case u44_p3 => walk_at "pre"
    case u44_p4 => walk_at "pre"
    have h14 := Rd.dp_same s4 h12
    walk_at "rn"
    refine ⟨_, d1, rfl, h14, hg1, hw1, (by omega), fun H5 s5 => ?_⟩
    have h15 := Rd.dp_same s5 h14
    have h25 := Rd.dp_same s5 h2
    walk_at "rn"
    refine ⟨_, d1, rfl, h15, hg1, hw1, (by omega), fun H6 s6 => ?_⟩
    have h16 := Rd.dp_same s6 h15
    have h26 := Rd.dp_same s6 h25
    walk_at "rn"
    iterate 2 all_goals try contradiction
    refine ⟨d1, rfl, hw1, hg1, hd1, fun H7 v3 s7 h3 => ?_⟩
    have h17 := Rd.dp_same s7 h16
    have h27 := Rd.dp_same s7 h26
    walk_at "rn"
    refine ⟨_, _, d1, rfl, h3, h17, hg1, hw1, (by omega), ?_⟩
    walk_at "rn"
    refine ⟨_, d2, rfl, h27, hg2, hw2, (by omega), fun H8 s8 => ?_⟩
    have h18 := Rd.dp_same s8 h17
    have h28 := Rd.dp_same s8 h27
    walk_at "rn"
    refine ⟨_, d2, rfl, h28, hg2, hw2, (by omega), fun H9 s9 => ?_⟩
    have h19 := Rd.dp_same s9 h18
    have h29 := Rd.dp_same s9 h28
    walk_at "rn"
    iterate 2 all_goals try contradiction
    refine ⟨_, d2, rfl, h29, hg2, hw2, (by omega), fun H10 s10 => ?_⟩
    have h110 := Rd.dp_same s10 h19
    have h210 := Rd.dp_same s10 h29
    walk_at "rn"
    refine ⟨d2, rfl, hw2, hg2, hd2, fun H11 v4 s11 h4 => ?_⟩
    have h111 := Rd.dp_same s11 h110
    have h211 := Rd.dp_same s11 h210
    walk_at "rn"
    refine ⟨_, _, d2, rfl, h4, h211, hg2, hw2, (by omega), ?_⟩
    walk_at "rn"
    refine ⟨d1, rfl, hw1, hg1, hd1, fun H12 v5 s12 h5 => ?_⟩
    have h112 := Rd.dp_same s12 h111
    walk_at "rn"
    refine ⟨_, _, d1, rfl, h5, h112, hg1, hw1, (by omega), ?_⟩
    walk_at "rn"
    refine ⟨_, d1, rfl, h112, hg1, hw1, (by omega), fun H13 s13 => ?_⟩
    walk_at "rn"
    rw [decide_eq_true rfl]
    exact k _
theorem ok_law {f : Addr} {fd : FuncData} (mf : mg "law" = some (.ref f)) (F : FnP K "law" s_law f fd) (C_law_tape : Cal P w K mg base "_law_tape" 2 ["script", "first", "others"] (sp_law_tape K)) (C_law_value : Cal P w K mg base "_law_value" 4 ["script", "numbers"] (sp_law_value K)) (C_law_written : Cal P w K mg base "_law_written" 13 ["value"] (sp_law_written K 13)) (C_write : Cal P w K mg base "write" 13 ["value"] (sp_write K 13)) (C_law_same : Cal P w K mg base "_law_same" 13 ["actual", "expected"] (sp_law_same K 13)) (C_read : Cal P w K mg base "read" 29 ["text"] (sp_read K)) (z_isinstance : mg "isinstance" = none) (z_str : mg "str" = none) : Cal P w K mg base "law" 30 ["script"] (sp_law K) :=
  ⟨f, fd, mf, F.kp, F.bindsN fun _ _ _ _ _ _ us hl => match us, hl with | [_], _ => rfl, fn_law F C_law_tape C_law_value C_law_written C_write C_law_same C_read z_isinstance z_str⟩

end
theorem facts {P : Program} {w : World} {K : PySem.W.Frag} {h : Heap} {mg : Str → Option Value} {f : Addr} (X : K.In h) (G : h.Ns mainGlobals mg) (hfa : mg ("law" : Str) = some (.ref f)) (cx : ex K = true) (c : He.SaysD fa fn K) :
    ∃ fd : FuncData, (∀ (s : Shared) (v : Value), BindsTo s fd ⟨[v], []⟩ [("script", v)]) ∧ ∀ base : Heap, K.In base → base.Ns mainGlobals mg → FnOk P w K mg base CX0 30 f fd ["script"] (sp_law K) := by
  obtain ⟨fd_Scanner___init, F_Scanner___init⟩ := c.def_ 0 (d := d_Scanner___init) rfl
  obtain ⟨fd_Scanner_char, F_Scanner_char⟩ := c.def_ 1 (d := d_Scanner_char) rfl
  obtain ⟨fd_Scanner_require, F_Scanner_require⟩ := c.def_ 2 (d := d_Scanner_require) rfl
  obtain ⟨fd_is_digit, F_is_digit⟩ := c.def_ 3 (d := d_is_digit) rfl
  have m_is_digit := He.glo_ok X G (c.fact 0 (f := .glo "_is_digit") rfl)
  obtain ⟨fd_law_cell, F_law_cell⟩ := c.def_ 4 (d := d_law_cell) rfl
  have m_law_cell := He.glo_ok X G (c.fact 1 (f := .glo "_law_cell") rfl)
  obtain ⟨fd_law_numbers, F_law_numbers⟩ := c.def_ 5 (d := d_law_numbers) rfl
  have m_law_numbers := He.glo_ok X G (c.fact 2 (f := .glo "_law_numbers") rfl)
  obtain ⟨fd_law_char, F_law_char⟩ := c.def_ 6 (d := d_law_char) rfl
  have m_law_char := He.glo_ok X G (c.fact 3 (f := .glo "_law_char") rfl)
  obtain ⟨fd_law_integer, F_law_integer⟩ := c.def_ 7 (d := d_law_integer) rfl
  have m_law_integer := He.glo_ok X G (c.fact 4 (f := .glo "_law_integer") rfl)
  obtain ⟨fd_Scanner_skip, F_Scanner_skip⟩ := c.def_ 8 (d := d_Scanner_skip) rfl
  obtain ⟨fd_digits, F_digits⟩ := c.def_ 9 (d := d_digits) rfl
  have m_digits := He.glo_ok X G (c.fact 5 (f := .glo "_digits") rfl)
  obtain ⟨fd_string, F_string⟩ := c.def_ 10 (d := d_string) rfl
  have m_string := He.glo_ok X G (c.fact 6 (f := .glo "_string") rfl)
  obtain ⟨fd_law_tape, F_law_tape⟩ := c.def_ 11 (d := d_law_tape) rfl
  have m_law_tape := He.glo_ok X G (c.fact 7 (f := .glo "_law_tape") rfl)
  obtain ⟨fd_law_text, F_law_text⟩ := c.def_ 12 (d := d_law_text) rfl
  have m_law_text := He.glo_ok X G (c.fact 8 (f := .glo "_law_text") rfl)
  obtain ⟨fd_law_leaf, F_law_leaf⟩ := c.def_ 13 (d := d_law_leaf) rfl
  have m_law_leaf := He.glo_ok X G (c.fact 9 (f := .glo "_law_leaf") rfl)
  obtain ⟨fd_law_value, F_law_value⟩ := c.def_ 14 (d := d_law_value) rfl
  have m_law_value := He.glo_ok X G (c.fact 10 (f := .glo "_law_value") rfl)
  obtain ⟨fd_write, F_write⟩ := c.def_ 15 (d := d_write) rfl
  have m_write := He.glo_ok X G (c.fact 11 (f := .glo "write") rfl)
  obtain ⟨fd_law_written, F_law_written⟩ := c.def_ 16 (d := d_law_written) rfl
  have m_law_written := He.glo_ok X G (c.fact 12 (f := .glo "_law_written") rfl)
  obtain ⟨fd_law_same, F_law_same⟩ := c.def_ 17 (d := d_law_same) rfl
  have m_law_same := He.glo_ok X G (c.fact 13 (f := .glo "_law_same") rfl)
  obtain ⟨fd_tuple, F_tuple⟩ := c.def_ 18 (d := d_tuple) rfl
  have m_tuple := He.glo_ok X G (c.fact 14 (f := .glo "_tuple") rfl)
  obtain ⟨fd_value, F_value⟩ := c.def_ 19 (d := d_value) rfl
  have m_value := He.glo_ok X G (c.fact 15 (f := .glo "_value") rfl)
  obtain ⟨fd_read, F_read⟩ := c.def_ 20 (d := d_read) rfl
  have m_read := He.glo_ok X G (c.fact 16 (f := .glo "read") rfl)
  obtain ⟨fd_law, F_law⟩ := c.def_ 21 (d := d_law) rfl
  have m_law := He.glo_ok X G (c.fact 17 (f := .glo "law") rfl)
  have z_abs := He.free_ok X G (c.fact 18 (f := .free "abs") rfl)
  have z_bool := He.free_ok X G (c.fact 19 (f := .free "bool") rfl)
  have z_int := He.free_ok X G (c.fact 20 (f := .free "int") rfl)
  have z_isinstance := He.free_ok X G (c.fact 21 (f := .free "isinstance") rfl)
  have z_len := He.free_ok X G (c.fact 22 (f := .free "len") rfl)
  have z_max := He.free_ok X G (c.fact 23 (f := .free "max") rfl)
  have z_min := He.free_ok X G (c.fact 24 (f := .free "min") rfl)
  have z_ord := He.free_ok X G (c.fact 25 (f := .free "ord") rfl)
  have z_range := He.free_ok X G (c.fact 26 (f := .free "range") rfl)
  have z_str := He.free_ok X G (c.fact 27 (f := .free "str") rfl)
  have z_tuple := He.free_ok X G (c.fact 28 (f := .free "tuple") rfl)
  have W_Scanner : CF_Scanner K mg := ⟨He.cls_ok (c.fact 29 (f := .cls "Scanner") rfl), He.glo_ok X G (c.fact 30 (f := .glo "Scanner") rfl), He.mkr_ok (c.fact 31 (f := .mkr "Scanner") rfl), He.meth_ok (c.fact 32 (f := .meth "Scanner" "char") rfl), He.meth_ok (c.fact 33 (f := .meth "Scanner" "require") rfl), He.meth_ok (c.fact 34 (f := .meth "Scanner" "skip") rfl), He.noat_ok (c.fact 35 (f := .noat "Scanner" "at") rfl), He.noat_ok (c.fact 36 (f := .noat "Scanner" "text") rfl)⟩
  have W__LONGEST_STRING := He.int_ok X G (c.fact 37 (f := .int "_LONGEST_STRING" 1000) rfl)
  have W__MOST_DEPTH := He.int_ok X G (c.fact 38 (f := .int "_MOST_DEPTH" 12) rfl)
  have W__MOST_DIGITS := He.int_ok X G (c.fact 39 (f := .int "_MOST_DIGITS" 60) rfl)
  have W__PERCENT := He.int_ok X G (c.fact 40 (f := .int "_PERCENT" 37) rfl)
  have e := hfa.symm.trans m_law
  cases e
  have b := FunD.bindsA (ps := ["script"]) F_law fun _ _ _ _ _ _ us hl => match us, hl with | [_], _ => rfl
  refine ⟨fd_law, fun s v => b s [v] rfl, fun base _ _ => ?_⟩
  have C_Scanner___init := ok_Scanner___init (P := P) (w := w) (mg := mg) (base := base) F_Scanner___init W_Scanner
  have C_Scanner_char := ok_Scanner_char (P := P) (w := w) (mg := mg) (base := base) F_Scanner_char z_len W_Scanner
  have C_Scanner_require := ok_Scanner_require (P := P) (w := w) (mg := mg) (base := base) F_Scanner_require 
  have C_is_digit := ok_is_digit (P := P) (w := w) (mg := mg) (base := base) m_is_digit F_is_digit 
  have C_law_cell := ok_law_cell (P := P) (w := w) (mg := mg) (base := base) m_law_cell F_law_cell z_len
  have C_law_numbers := ok_law_numbers (P := P) (w := w) (mg := mg) (base := base) m_law_numbers F_law_numbers z_abs z_range z_int
  have C_law_char := ok_law_char (P := P) (w := w) (mg := mg) (base := base) m_law_char F_law_char z_int
  have C_law_integer := ok_law_integer (P := P) (w := w) (mg := mg) (base := base) m_law_integer F_law_integer z_int z_abs
  have C_Scanner_skip := ok_Scanner_skip (P := P) (w := w) (mg := mg) (base := base) F_Scanner_skip C_Scanner_char W_Scanner
  have C_digits := ok_digits (P := P) (w := w) (mg := mg) (base := base) m_digits F_digits C_Scanner_char C_is_digit z_int W_Scanner W__MOST_DIGITS
  have C_string := ok_string (P := P) (w := w) (mg := mg) (base := base) m_string F_string C_Scanner_require z_ord z_len W_Scanner W__PERCENT
  have C_law_tape := ok_law_tape (P := P) (w := w) (mg := mg) (base := base) m_law_tape F_law_tape C_law_numbers C_law_cell
  have C_law_text := ok_law_text (P := P) (w := w) (mg := mg) (base := base) m_law_text F_law_text C_law_char z_int z_range
  have C_law_leaf := ok_law_leaf (P := P) (w := w) (mg := mg) (base := base) m_law_leaf F_law_leaf C_law_integer C_law_text z_int
  have C_law_value := ok_law_value (P := P) (w := w) (mg := mg) (base := base) m_law_value F_law_value C_law_leaf C_law_cell z_range z_len z_min z_max z_tuple
  have C_write := ok_write (P := P) (w := w) (mg := mg) (base := base) m_write F_write z_isinstance z_bool z_int z_str z_len
  have C_law_written := ok_law_written (P := P) (w := w) (mg := mg) (base := base) m_law_written F_law_written z_isinstance z_bool z_int z_str z_len z_tuple
  have C_law_same := ok_law_same (P := P) (w := w) (mg := mg) (base := base) m_law_same F_law_same z_isinstance z_tuple z_len z_range z_bool z_str z_int
  have C_value := ok_value (P := P) (w := w) (mg := mg) (base := base) m_value F_value m_tuple F_tuple C_Scanner_char C_Scanner_require C_digits C_is_digit C_Scanner_skip C_string W_Scanner W__MOST_DEPTH W__LONGEST_STRING z_tuple
  have C_read := ok_read (P := P) (w := w) (mg := mg) (base := base) m_read F_read C_Scanner___init C_value C_Scanner_require C_Scanner_char W_Scanner
  exact fn_law (P := P) (w := w) (mg := mg) (base := base) F_law C_law_tape C_law_value C_law_written C_write C_law_same C_read z_isinstance z_str
end NK72
open PySem PySem.W PySem.Calls PyProof.Rows
set_option maxRecDepth 100000 in
set_option maxHeartbeats 0 in
theorem PySem.Challenge.cw_keptcoin_k72_notation_holds : PySem.Challenge.rw_keptcoin_k72_notation.Holds := by
  w_on; o_law
  refine HandSHeadRun.head_any (r := OpenLaw.row PySem.Challenge.rw_keptcoin_k72_notation) (q := view (OpenLaw.row PySem.Challenge.rw_keptcoin_k72_notation).prog [28]) (H := NK72.hk) (ob := NK72.ob) (M := 2000) (loose := [("KeptError" : PySem.Str), ("RecordError" : PySem.Str), ("BadNotation" : PySem.Str), ("_MOST_DEPTH" : PySem.Str), ("_MOST_DIGITS" : PySem.Str), ("_LONGEST_STRING" : PySem.Str), ("_PERCENT" : PySem.Str), ("write" : PySem.Str), ("Scanner" : PySem.Str), ("read" : PySem.Str), ("_value" : PySem.Str), ("_is_digit" : PySem.Str), ("_digits" : PySem.Str), ("_string" : PySem.Str), ("_tuple" : PySem.Str), ("_law_cell" : PySem.Str), ("_law_numbers" : PySem.Str), ("_law_tape" : PySem.Str), ("_law_char" : PySem.Str), ("_law_text" : PySem.Str), ("_law_integer" : PySem.Str), ("_law_leaf" : PySem.Str), ("_law_value" : PySem.Str), ("_law_written" : PySem.Str), ("_law_same" : PySem.Str)]) (d := HandSHeadRun.topDef (OpenLaw.row PySem.Challenge.rw_keptcoin_k72_notation).prog 28) (kwd := []) NK72.ob_eq
    (by kernel_rfl) (fun s => by kernel_rfl) NK72.run (by kernel_rfl) (by kernel_rfl) (by kernel_rfl) (by rfl) (by first | assumption | decide +kernel) (by decide +kernel) ⟨rfl, rfl, rfl, rfl, rfl, by decide +kernel⟩ ?hw ?hc
  case hw => w_witness2
  case hc =>
    refine L2.walk_ofEB (l := PySem.Challenge.rw_keptcoin_k72_notation) (n := 63) (k := 30) (x := "script") (CX := L2.CX0) rfl (by decide) (by kernel_rfl) ⟨rfl, by decide, by decide⟩ ?F (fun _ _ _ _ z => z)
    intro w mg fa h Y G hmg0
    obtain ⟨K, KX, c⟩ := Y
    have hmg : mg ("law" : PySem.Str) = some (.ref fa) := by
      have e : (HandSHeadRun.topDef (OpenLaw.row PySem.Challenge.rw_keptcoin_k72_notation).prog 28).name = ("law" : PySem.Str) := by kernel_rfl
      rw [← e]
      exact hmg0
    obtain ⟨fd, hb, hF⟩ := NK72.facts (P := (PySem.Challenge.rw_keptcoin_k72_notation).prog) (w := w) KX G hmg c.more c.t.d
    exact ⟨K, fd, NK72.sp_law K, KX, hb, fun H a ns hl hbits _ hS => ⟨a, ns, rfl, hS, hl, hbits, fun _ => rfl⟩, hF⟩


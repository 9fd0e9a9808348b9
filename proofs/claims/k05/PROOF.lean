import PyProof.Rows.All
import Wide.All
import OpenK.AllK
import Wide.FinOn
import KE.KStateDown
import HandS.Base
import HandS.Call
import HandS.List
import HandS.Comp
import HandS.Ends
import HandS.Dict
import HandS.Iter
import HandS.Text
import HandS.More
import HandS.Words
import HandS.WordsList
import HandS.WordsExc
import HandS.Defaults
import HandS.Wide
import HandS.IsInst
import HandS.Flow
import HandS.TupAny
import HandS.Head0
import HandS.Head1
import HandS.Head2
import HandS.HeadEnd
import HandS.HeadHook1
import HandS.HeadHook2
import HandS.HeadHook3
import HandS.HeadHook4
import HandS.Style
import HandS.Steps
import KE.KOpsOwn
import HandS.OwnEq
import HandS.SortOrd
import HandS.DictTup
import HandS.DictComp
import HandS.Conv
import PyProof.TupleOfGen
import HandS.Deep
import PyProof.InstNe
import HandS.Codes
import KE.KOwnIter
import HandS.IterVal
import HandS.SetBool
import HandS.Strs
import PySem.Challenge.RW_keptcoin_k05_split_and_policies
set_option Elab.async false
set_option linter.all false
set_option maxRecDepth 100000
/-! Reading rules: each reading of the hand layer as one step towards what follows. -/
namespace Rd
open PySem PySem.Spec PyProof.Rows L2

/-! ### heaps -/
theorem same_new {H : Hp} {p : Addr} {o : HO} (h : H p = none) : Same H (upd H p o) := fun b x e => by
  rw [upd_ne (ne_of_none e h)]
  exact e
/-- an object that H does not know may change -/
theorem same_mut {H H' : Hp} {p : Addr} {o : HO} (e : Same H H') (h : H p = none) : Same H (upd H' p o) := fun a u ha => by
  rw [upd_ne (ne_of_none ha h)]
  exact e a u ha
theorem same_tup {K : PySem.W.Frag} {H H' : Hp} {a : Addr} {xs : List V} (e : Same H H') (h : SqT K H a xs) : SqT K H' a xs := by
  rcases h with (h | ⟨o, h⟩) | h
  · exact .inl (.inl (e _ _ h))
  · exact .inl (.inr ⟨o, e _ _ h⟩)
  · exact .inr h
theorem nl {K : PySem.W.Frag} {H : Hp} {p a : Addr} {o : HO} {xs : List V} (hp : H p = none) (h : SqL K H a xs) : SqL K (upd H p o) a xs := (same_new hp).seq h
theorem nt {K : PySem.W.Frag} {H : Hp} {p a : Addr} {o : HO} {xs : List V} (hp : H p = none) (h : SqT K H a xs) : SqT K (upd H p o) a xs := same_tup (same_new hp) h
theorem nh {H : Hp} {p a : Addr} {o u : HO} (hp : H p = none) (h : H a = some u) : upd H p o a = some u := same_new hp _ _ h
theorem slT {K : PySem.W.Frag} {H : Hp} {p : Addr} {xs : List V} : SqT K (upd H p (.tup xs)) p xs := SqT.of upd_same
theorem slL {K : PySem.W.Frag} {H : Hp} {p : Addr} {xs : List V} : SqL K (upd H p (.lst xs)) p xs := SqL.of upd_same
theorem small {n : Nat} (h : n ≤ 100000) : n ≤ sizeLine := Nat.le_trans h (by decide)
theorem smallT {n : Nat} (h : n < 100000) : n < sizeLine := Nat.lt_of_lt_of_le h (by decide)

theorem ul {K : PySem.W.Frag} {H : Hp} {p a : Addr} {o : HO} {xs : List V} (hp : a ≠ p) (h : SqL K H a xs) : SqL K (upd H p o) a xs := by
  rcases h with (h | ⟨u, h⟩) | h
  · exact .inl (.inl ((upd_ne hp).trans h))
  · exact .inl (.inr ⟨u, (upd_ne hp).trans h⟩)
  · exact .inr h
theorem ut {K : PySem.W.Frag} {H : Hp} {p a : Addr} {o : HO} {xs : List V} (hp : a ≠ p) (h : SqT K H a xs) : SqT K (upd H p o) a xs := by
  rcases h with (h | ⟨u, h⟩) | h
  · exact .inl (.inl ((upd_ne hp).trans h))
  · exact .inl (.inr ⟨u, (upd_ne hp).trans h⟩)
  · exact .inr h
theorem uh {H : Hp} {p a : Addr} {o u : HO} (hp : a ≠ p) (h : H a = some u) : upd H p o a = some u := (upd_ne hp).trans h
/-! ### expressions -/
section
variable {σ : L2.St} {H : Hp} {Q : VK} {ta tb te tc : TE} {K : PySem.W.Frag}
theorem var {i : Nat} {v : V} (h : σ[i]? = some (some v)) (k : Q v H) : tVar i σ H Q := ⟨v, h, k⟩
theorem cst {v : V} (k : Q v H) : tC v σ H Q := k
theorem op {r : R2} (k : ta σ H fun x H1 => tb σ H1 fun y H2 => r x y H2 Q) : tOp r ta tb σ H Q := k
theorem un {r : V → Hp → VK → Prop} (k : ta σ H fun x H1 => r x H1 Q) : tUn r ta σ H Q := k
theorem opI0 {g : Int → Int → V} {i j : Int} (k : Q (g i j) H) : rI0 g (.int i) (.int j) H Q := ⟨i, j, rfl, rfl, k⟩
theorem opI {C : Int → Int → Prop} {g : Int → Int → V} {i j : Int} (c : C i j) (k : Q (g i j) H) : rI C g (.int i) (.int j) H Q := ⟨i, j, rfl, rfl, c, k⟩
theorem opU {g : Int → V} {i : Int} (k : Q (g i) H) : rU g (.int i) H Q := ⟨i, rfl, k⟩
theorem eqI {i j : Int} (k : Q (.bl (decide (i = j))) H) : rEq (.int i) (.int j) H Q := ⟨rfl, by
  have e : decide (V.int i = V.int j) = decide (i = j) := by simp
  rw [e]; exact k⟩
theorem neI {i j : Int} (k : Q (.bl (!decide (i = j))) H) : rNe (.int i) (.int j) H Q := ⟨rfl, by
  have e : decide (V.int i = V.int j) = decide (i = j) := by simp
  rw [e]; exact k⟩
theorem eqS {i j : Str} (k : Q (.bl (decide (i = j))) H) : rEq (.str i) (.str j) H Q := ⟨rfl, by
  have e : decide (V.str i = V.str j) = decide (i = j) := by simp
  rw [e]; exact k⟩
theorem neS {i j : Str} (k : Q (.bl (!decide (i = j))) H) : rNe (.str i) (.str j) H Q := ⟨rfl, by
  have e : decide (V.str i = V.str j) = decide (i = j) := by simp
  rw [e]; exact k⟩
theorem eqB {i j : Bool} (k : Q (.bl (decide (i = j))) H) : rEq (.bl i) (.bl j) H Q := ⟨rfl, by
  have e : decide (V.bl i = V.bl j) = decide (i = j) := by simp
  rw [e]; exact k⟩
theorem neB {i j : Bool} (k : Q (.bl (!decide (i = j))) H) : rNe (.bl i) (.bl j) H Q := ⟨rfl, by
  have e : decide (V.bl i = V.bl j) = decide (i = j) := by simp
  rw [e]; exact k⟩
theorem chain {r r' : R2} (k : ta σ H fun x H1 => tb σ H1 fun y H2 => r x y H2 fun z H3 => ∃ k, z = .bl k ∧ (if k = true then tc σ H3 fun w' H4 => r' y w' H4 Q else Q (.bl false) H3)) : tChain r r' ta tb tc σ H Q := k
theorem bl {b : Bool} {P : Bool → Prop} (k : P b) : ∃ c, V.bl b = V.bl c ∧ P c := ⟨b, rfl, k⟩
theorem andV (k : ta σ H fun x H1 => ∃ c, x = .bl c ∧ if c = true then tb σ H1 Q else Q (.bl false) H1) : tAndV ta tb σ H Q := k
theorem orV (k : ta σ H fun x H1 => ∃ c, x = .bl c ∧ if c = true then Q (.bl true) H1 else tb σ H1 Q) : tOrV ta tb σ H Q := k
theorem notV (k : ta σ H fun x H1 => ∃ c, x = .bl c ∧ Q (.bl (!c)) H1) : tNotV ta σ H Q := k
theorem ifE {t : TT} (k : t σ H fun c H1 => if c = true then ta σ H1 Q else tb σ H1 Q) : tIf t ta tb σ H Q := k
theorem nil {Q : List V → Hp → Prop} (k : Q [] H) : tNil σ H Q := k
theorem cons {tr : TA} {Q : List V → Hp → Prop} (k : ta σ H fun x H1 => tr σ H1 fun xs H2 => Q (x :: xs) H2) : tCons ta tr σ H Q := k
theorem callN {sp : Sp} {E : XK} {t : TA} (k : t σ H fun vs H1 => sp vs H1 Q E) : tCall sp [] E t σ H Q := by
  unfold tCall
  simp only [List.append_nil]
  exact k
theorem cb {r : List V → Hp → VK → Prop} {t : TA} (k : t σ H fun vs H1 => r vs H1 Q) : tCB r t σ H Q := k
theorem tup {t : TA} (k : t σ H fun xs H1 => xs.length ≤ sizeLine ∧ ∀ p, H1 p = none → Q (.ref p) (upd H1 p (.tup xs))) : tTup t σ H Q := k
theorem lst {t : TA} (k : t σ H fun xs H1 => xs.length ≤ sizeLine ∧ ∀ p, H1 p = none → Q (.ref p) (upd H1 p (.lst xs))) : tLst t σ H Q := k
theorem ixL {p : Addr} {xs : List V} {i : Int} {v : V} (h : SqL K H p xs) (a : atI xs i = some v) (k : Q v H) : rIxL K (.ref p) (.int i) H Q := ⟨p, xs, i, v, rfl, rfl, h, a, k⟩
theorem ixT {p : Addr} {xs : List V} {i : Int} {v : V} (h : SqT K H p xs) (a : atI xs i = some v) (k : Q v H) : rIxT K (.ref p) (.int i) H Q := ⟨p, xs, i, v, rfl, rfl, h, a, k⟩
theorem sl {r : V → Option Int → Option Int → Hp → VK → Prop} {tl th : TO} (k : te σ H fun x H1 => tl σ H1 fun lo H2 => th σ H2 fun hi H3 => r x lo hi H3 Q) : tSl r te tl th σ H Q := k
/-! built-ins whose readings are written out: each by a name -/
def LenK (K : PySem.W.Frag) (xs : List V) (H : Hp) (Q : VK) : Prop := ∃ p ys, xs = [.ref p] ∧ (SqL K H p ys ∨ SqT K H p ys) ∧ Q (.int ys.length) H
def LenSK (xs : List V) (H : Hp) (Q : VK) : Prop := ∃ z : Str, xs = [.str z] ∧ z.length ≤ sizeLine ∧ Q (.int z.length) H
def IntK (xs : List V) (H : Hp) (Q : VK) : Prop := (∃ i, xs = [.int i] ∧ Q (.int i) H) ∨ ∃ k, xs = [.bl k] ∧ Q (.int (if k then 1 else 0)) H
def AbsK (xs : List V) (H : Hp) (Q : VK) : Prop := ∃ i, xs = [.int i] ∧ Q (.int (if i < 0 then -i else i)) H
def StrIK (xs : List V) (H : Hp) (Q : VK) : Prop := ∃ i, xs = [.int i] ∧ i.natAbs.log2 < 1920 ∧ Q (.str (toString i)) H
def LstK (K : PySem.W.Frag) (xs : List V) (H : Hp) (Q : VK) : Prop := ∃ p ys, xs = [.ref p] ∧ (SqL K H p ys ∨ SqT K H p ys) ∧ ∀ l, H l = none → Q (.ref l) (upd H l (.lst ys))
def TupK (K : PySem.W.Frag) (xs : List V) (H : Hp) (Q : VK) : Prop := ∃ p ys, xs = [.ref p] ∧ ((SqL K H p ys ∧ ∀ l, H l = none → Q (.ref l) (upd H l (.tup ys))) ∨ (SqT K H p ys ∧ Q (.ref p) H))
def Max2K (xs : List V) (H : Hp) (Q : VK) : Prop := ∃ i j, xs = [.int i, .int j] ∧ Q (.int (if j > i then j else i)) H
def Min2K (xs : List V) (H : Hp) (Q : VK) : Prop := ∃ i j, xs = [.int i, .int j] ∧ Q (.int (if j < i then j else i)) H
theorem cbLen {t : TA} (k : t σ H fun vs H1 => LenK K vs H1 Q) : tCB (fun xs H Q => ∃ p ys, xs = [V.ref p] ∧ (SqL K H p ys ∨ SqT K H p ys) ∧ Q (.int ys.length) H) t σ H Q := k
theorem cbLenS {t : TA} (k : t σ H fun vs H1 => LenSK vs H1 Q) : tCB (fun xs H Q => ∃ z, xs = [V.str z] ∧ z.length ≤ sizeLine ∧ Q (.int z.length) H) t σ H Q := k
theorem cbInt {t : TA} (k : t σ H fun vs H1 => IntK vs H1 Q) : tCB (fun xs H Q => (∃ i, xs = [V.int i] ∧ Q (.int i) H) ∨ ∃ k, xs = [V.bl k] ∧ Q (.int (if k then 1 else 0)) H) t σ H Q := k
theorem cbAbs {t : TA} (k : t σ H fun vs H1 => AbsK vs H1 Q) : tCB (fun xs H Q => ∃ i, xs = [V.int i] ∧ Q (.int (if i < 0 then -i else i)) H) t σ H Q := k
theorem cbStrI {t : TA} (k : t σ H fun vs H1 => StrIK vs H1 Q) : tCB (fun xs H Q => ∃ i, xs = [V.int i] ∧ i.natAbs.log2 < 1920 ∧ Q (.str (toString i)) H) t σ H Q := k
theorem cbLst {t : TA} (k : t σ H fun vs H1 => LstK K vs H1 Q) : tCB (fun xs H Q => ∃ p ys, xs = [V.ref p] ∧ (SqL K H p ys ∨ SqT K H p ys) ∧ ∀ l, H l = none → Q (.ref l) (upd H l (.lst ys))) t σ H Q := k
theorem cbTup {t : TA} (k : t σ H fun vs H1 => TupK K vs H1 Q) : tCB (fun xs H Q => ∃ p ys, xs = [V.ref p] ∧ ((SqL K H p ys ∧ ∀ l, H l = none → Q (.ref l) (upd H l (.tup ys))) ∨ (SqT K H p ys ∧ Q (.ref p) H))) t σ H Q := k
theorem cbMax2 {t : TA} (k : t σ H fun vs H1 => Max2K vs H1 Q) : tCB (fun xs H Q => ∃ i j, xs = [V.int i, V.int j] ∧ Q (.int (if j > i then j else i)) H) t σ H Q := k
theorem cbMin2 {t : TA} (k : t σ H fun vs H1 => Min2K vs H1 Q) : tCB (fun xs H Q => ∃ i j, xs = [V.int i, V.int j] ∧ Q (.int (if j < i then j else i)) H) t σ H Q := k
def IsNK (x y : V) (H : Hp) (Q : VK) : Prop := y = .non ∧ Q (.bl (decide (x = .non))) H
def NotNK (x y : V) (H : Hp) (Q : VK) : Prop := y = .non ∧ Q (.bl (!decide (x = .non))) H
def AddSK (x y : V) (H : Hp) (Q : VK) : Prop := ∃ i j, x = .str i ∧ y = .str j ∧ i.length + j.length ≤ sizeLine ∧ Q (.str (i ++ j)) H
theorem opIsN (k : ta σ H fun x H1 => tb σ H1 fun y H2 => IsNK x y H2 Q) : tOp (fun x y H Q => y = V.non ∧ Q (.bl (decide (x = .non))) H) ta tb σ H Q := k
theorem opNotN (k : ta σ H fun x H1 => tb σ H1 fun y H2 => NotNK x y H2 Q) : tOp (fun x y H Q => y = V.non ∧ Q (.bl (!decide (x = .non))) H) ta tb σ H Q := k
theorem opAddS (k : ta σ H fun x H1 => tb σ H1 fun y H2 => AddSK x y H2 Q) : tOp (fun x y H Q => ∃ i j, x = V.str i ∧ y = V.str j ∧ i.length + j.length ≤ sizeLine ∧ Q (.str (i ++ j)) H) ta tb σ H Q := k
theorem addS {i j : Str} (h : i.length + j.length ≤ 100000) (k : Q (.str (i ++ j)) H) : AddSK (.str i) (.str j) H Q := ⟨i, j, rfl, rfl, small h, k⟩
theorem isN' {x : V} (k : Q (.bl (decide (x = .non))) H) : IsNK x .non H Q := ⟨rfl, k⟩
theorem notN' {x : V} (k : Q (.bl (!decide (x = .non))) H) : NotNK x .non H Q := ⟨rfl, k⟩
theorem lenS {z : Str} (h : z.length ≤ 100000) (k : Q (.int z.length) H) : LenSK [.str z] H Q := ⟨z, rfl, small h, k⟩
theorem intB {b : Bool} (k : Q (.int (if b then 1 else 0)) H) : IntK [.bl b] H Q := .inr ⟨b, rfl, k⟩
theorem lstL {p : Addr} {ys : List V} (h : SqL K H p ys) (k : ∀ l, H l = none → Q (.ref l) (upd H l (.lst ys))) : LstK K [.ref p] H Q := ⟨p, ys, rfl, .inl h, k⟩
theorem lstT {p : Addr} {ys : List V} (h : SqT K H p ys) (k : ∀ l, H l = none → Q (.ref l) (upd H l (.lst ys))) : LstK K [.ref p] H Q := ⟨p, ys, rfl, .inr h, k⟩
theorem tupL {p : Addr} {ys : List V} (h : SqL K H p ys) (k : ∀ l, H l = none → Q (.ref l) (upd H l (.tup ys))) : TupK K [.ref p] H Q := ⟨p, ys, rfl, .inl ⟨h, k⟩⟩
theorem tupT {p : Addr} {ys : List V} (h : SqT K H p ys) (k : Q (.ref p) H) : TupK K [.ref p] H Q := ⟨p, ys, rfl, .inr ⟨h, k⟩⟩
theorem max2 {i j : Int} (k : ∀ z : Int, i ≤ z → j ≤ z → (z = i ∨ z = j) → Q (.int z) H) : Max2K [.int i, .int j] H Q := ⟨i, j, rfl, k _ (by split <;> omega) (by split <;> omega) (by split <;> omega)⟩
theorem min2 {i j : Int} (k : ∀ z : Int, z ≤ i → z ≤ j → (z = i ∨ z = j) → Q (.int z) H) : Min2K [.int i, .int j] H Q := ⟨i, j, rfl, k _ (by split <;> omega) (by split <;> omega) (by split <;> omega)⟩
theorem lenL {p : Addr} {ys : List V} {n : Nat} (h : SqL K H p ys) (e : ys.length = n) (k : Q (.int n) H) : LenK K [.ref p] H Q := ⟨p, ys, rfl, .inl h, by rw [e]; exact k⟩
theorem lenT {p : Addr} {ys : List V} {n : Nat} (h : SqT K H p ys) (e : ys.length = n) (k : Q (.int n) H) : LenK K [.ref p] H Q := ⟨p, ys, rfl, .inr h, by rw [e]; exact k⟩
theorem int1 {i : Int} (k : Q (.int i) H) : IntK [.int i] H Q := .inl ⟨i, rfl, k⟩
theorem abs1 {i : Int} (k : ∀ z : Int, 0 ≤ z → (z = i ∨ z = -i) → Q (.int z) H) : AbsK [.int i] H Q := ⟨i, rfl, k _ (by split <;> omega) (by split <;> omega)⟩
theorem len {xs : List V} {P : Prop} (h : xs.length ≤ 100000) (k : P) : xs.length ≤ sizeLine ∧ P := ⟨small h, k⟩
theorem pw {a e z : Int} (c : CPow a e) (h : a ^ e.toNat = z) (k : Q (.int z) H) : rI CPow (fun i j => .int (i ^ j.toNat)) (.int a) (.int e) H Q := ⟨a, e, rfl, rfl, c, by subst h; exact k⟩
theorem isi {x c : V} {t u : Value} {b : Bool} (hc : ClsV c u) (ht : TyX K H x t) (e : PySem.W.kitOne K t u = some b) (k : Q (.bl b) H) : rIsi K [x, c] H Q := ⟨x, c, t, u, b, rfl, hc, ht, e, k⟩
/-- a new value of a kind at the end of a derivation -/
theorem fresh {P : Addr → Hp → Prop} {o : HO} (k : ∀ p H', H p = none → H' = upd H p o → P p H') : ∀ p, H p = none → P p (upd H p o) := fun p hp => k p _ hp rfl
end

/-! ### tests, statements -/
section
variable {σ : L2.St} {H : Hp} {n b c : L2.St → Hp → Prop} {r : VK} {ta te : TE} {t u : TS} {D : Ends} {tc td : TT}
theorem tst {Q : Bool → Hp → Prop} (k : te σ H fun x H' => ∃ c, x = .bl c ∧ Q c H') : tTest te σ H Q := k
theorem tB_ {Q : Bool → Hp → Prop} (k : te σ H fun x H' => ∃ c, x = .bl c ∧ Q c H') : tB te σ H Q := k
theorem and_ {Q : Bool → Hp → Prop} (k : tc σ H fun c H1 => if c = true then td σ H1 Q else Q false H1) : tAnd tc td σ H Q := k
theorem or_ {Q : Bool → Hp → Prop} (k : tc σ H fun c H1 => if c = true then Q true H1 else td σ H1 Q) : tOr tc td σ H Q := k
theorem not_ {Q : Bool → Hp → Prop} (k : tc σ H fun c H1 => Q (!c) H1) : tNot tc σ H Q := k
theorem seq (k : t ⟨u ⟨n, r, b, c⟩, r, b, c⟩ σ H) : tSeq t u ⟨n, r, b, c⟩ σ H := k
theorem asg {i : Nat} (k : te σ H fun x H1 => n (σ.set i (some x)) H1) : tAsg te (gName i) ⟨n, r, b, c⟩ σ H := k
theorem asgS {to ti : TE} {ts : TSet} (k : te σ H fun x H1 => to σ H1 fun o H2 => ti σ H2 fun i H3 => ts o i x H3 fun H4 => n σ H4) : tAsg te (gSub to ti ts) ⟨n, r, b, c⟩ σ H := k
theorem ret (k : te σ H r) : tRet te ⟨n, r, b, c⟩ σ H := k
theorem retN (k : r .non H) : tRetN ⟨n, r, b, c⟩ σ H := k
theorem drop (k : te σ H fun _ H1 => n σ H1) : tDrop te ⟨n, r, b, c⟩ σ H := k
theorem next (k : n σ H) : tNext ⟨n, r, b, c⟩ σ H := k
theorem brk (k : b σ H) : tBreak ⟨n, r, b, c⟩ σ H := k
theorem cont (k : c σ H) : tCont ⟨n, r, b, c⟩ σ H := k
theorem ifS (k : tc σ H fun x H1 => if x = true then t D σ H1 else u D σ H1) : tIfS tc t u D σ H := k
theorem aug {i : Nat} {ti : TIp} {x : V} (h : σ[i]? = some (some x)) (k : te σ H fun y H1 => ti x y H1 fun z H2 => n (σ.set i (some z)) H2) : tAug i te ti ⟨n, r, b, c⟩ σ H := ⟨x, h, k⟩
theorem augI {f : Int → Int → Int} {i j : Int} {Q : VK} (k : Q (.int (f i j)) H) : ipI f (.int i) (.int j) H Q := ⟨i, j, rfl, rfl, k⟩
theorem iteT {A B : Prop} (h : A) : if true = true then A else B := by rw [if_pos rfl]; exact h
theorem iteF {A B : Prop} (h : B) : if false = true then A else B := by rw [if_neg Bool.false_ne_true]; exact h
theorem iteD {p : Prop} [Decidable p] {A B : Prop} (h1 : p → A) (h2 : ¬ p → B) : if decide p = true then A else B := by
  by_cases h : p
  · rw [decide_eq_true h]; exact iteT (h1 h)
  · rw [decide_eq_false h]; exact iteF (h2 h)
theorem iteN {p : Prop} [Decidable p] {A B : Prop} (h1 : ¬ p → A) (h2 : p → B) : if (!decide p) = true then A else B := by
  by_cases h : p
  · rw [decide_eq_true h]; exact iteF (h2 h)
  · rw [decide_eq_false h]; exact iteT (h1 h)
theorem iteB {x : Bool} {A B : Prop} (h1 : x = true → A) (h2 : x = false → B) : if x = true then A else B := by
  cases x
  · exact iteF (h2 rfl)
  · exact iteT (h1 rfl)
/-- xs.append(v) -/
theorem app {K : PySem.W.Frag} {to : TE} {t : TA} {Q : VK} (k : to σ H fun x H1 => tyV K "list" x H1 ∧ t σ H1 fun xs H2 => rAppend x xs H2 Q) : tBM K "list" rAppend to t σ H Q := k
theorem tyL {K : PySem.W.Frag} {p : Addr} {xs : List V} {P : Prop} (h : H p = some (.lst xs)) (k : P) : tyV K "list" (.ref p) H ∧ P := ⟨.inl ⟨rfl, _, SqL.of h⟩, k⟩
theorem appd {l : Addr} {xs : List V} {v : V} {Q : VK} (h : H l = some (.lst xs)) (hz : xs.length < 100000) (k : Q .non (upd H l (.lst (xs ++ [v])))) : rAppend (.ref l) [v] H Q := ⟨l, xs, v, rfl, rfl, h, smallT hz, k⟩
theorem setL {p : Addr} {xs : List V} {i : Int} {j : Nat} {v : V} {Q : Hp → Prop} (h : H p = some (.lst xs)) (e : ixN xs.length i = some j) (k : Q (upd H p (.lst (xs.set j v)))) : rSetL (.ref p) (.int i) v H Q := ⟨p, xs, i, j, rfl, rfl, h, e, k⟩
theorem ixN_nat {n j : Nat} (hj : j < n) : ixN n (j : Int) = some j := by
  unfold ixN
  rw [if_pos (by omega), if_pos (by omega)]
  simp
theorem ixN_lit {n : Nat} {i : Int} (h0 : 0 ≤ i) (h : i < n) : ixN n i = some i.toNat := by
  have := @ixN_nat n i.toNat (by omega)
  rwa [Int.toNat_of_nonneg h0] at this
theorem atI_of {α : Type} {xs : List α} {i : Int} {v : α} (h0 : 0 ≤ i) (h : xs[i.toNat]? = some v) : atI xs i = some v := by
  have e := atI_nat (xs := xs) (j := i.toNat) h
  rwa [Int.toNat_of_nonneg h0] at e

theorem atI_ints {ns : List Int} {i : Int} (h0 : 0 ≤ i) (h : i < (ns.length : Int)) : atI (ns.map V.int) i = some (.int (ns.getD i.toNat 0)) := atI_of h0 (by
  have h1 : i.toNat < ns.length := by omega
  rw [List.getElem?_map, List.getD_eq_getElem?_getD, List.getElem?_eq_getElem h1]
  rfl)
theorem getD_bd {ns : List Int} {i : Nat} {lo hi : Int} (hb : ∀ x ∈ ns, lo ≤ x ∧ x < hi) (h : i < ns.length) : lo ≤ ns.getD i 0 ∧ ns.getD i 0 < hi := by
  rw [List.getD_eq_getElem?_getD, List.getElem?_eq_getElem h]
  exact hb _ (List.getElem_mem h)
theorem bd_app {ns : List Int} {x lo hi : Int} (hb : ∀ x ∈ ns, lo ≤ x ∧ x < hi) (hx : lo ≤ x ∧ x < hi) : ∀ y ∈ ns ++ [x], lo ≤ y ∧ y < hi := fun y hy => by
  rcases List.mem_append.mp hy with h | h
  · exact hb y h
  · rw [List.mem_singleton.mp h]; exact hx
theorem cxK {CX : CXT} {P : Program} {w : World} {K : PySem.W.Frag} {mg : Str → Option Value} {base : Heap} {N : List Str} {q : Str} {sc : Scope} {f : Addr} {cdv : Value} {A : Around} {outer : List Env} {s : Shared} {H : Hp} {E : XK} : (cxOf CX P w K mg base N q sc f cdv A outer s H E).K = K := rfl

theorem finT {p : Prop} [Decidable p] {Q : VK} {H : Hp} (k : Q (.bl true) H) (hp : p) : Q (.bl (decide p)) H := by rw [decide_eq_true hp]; exact k
theorem pushInts {H' : Hp} {p : Addr} {nums : List Int} {x : Int} : upd H' p (.lst (nums.map V.int ++ [.int x])) p = some (.lst ((nums ++ [x]).map V.int)) := by rw [upd_same, List.map_append]; rfl

/-! ### loops -/
/-- what a for asks of what it walks -/
def ForJ (g : TG) (tb : TS) (D : Ends) (σ : L2.St) (J : It) (H1 : Hp) : Prop := ∃ W : Nat → Nat → L2.St → Hp → Prop, (∃ m, W 0 m σ H1) ∧ ∀ i m σ H, W i m σ H →
  (J.stop i H ∧ D.nx σ H) ∨ (J.go i H ∧ ∃ N : L2.St → Hp → Prop, (∀ σ' H', N σ' H' → ∃ m', m' < m ∧ W (i + 1) m' σ' H') ∧ ∀ x H', J.yld i H x H' → g x σ H' fun σ2 H2 => tb { D with nx := N, ct := N, bk := D.nx } σ2 H2)
theorem for_ {wi : TI} {g : TG} {tb : TS} (k : wi σ H fun J H1 => ForJ g tb D σ J H1) : tFor wi g tb D σ H := k
theorem iR1 {tl : TA} {R : It → Hp → Prop} (k : tl σ H fun vs H1 => ∃ j : Int, vs = [.int j] ∧ -(2 ^ 62) ≤ j ∧ j < 2 ^ 62 ∧ R (Itr 0 j.toNat) H1) : iRng1 tl σ H R := k
theorem iR2 {tl : TA} {R : It → Hp → Prop} (k : tl σ H fun vs H1 => ∃ i j : Int, vs = [.int i, .int j] ∧ (-(2 ^ 62) ≤ i ∧ i < 2 ^ 62 ∧ -(2 ^ 62) ≤ j ∧ j < 2 ^ 62) ∧ R (Itr i (j - i).toNat) H1) : iRng2 tl σ H R := k
theorem iL {K : PySem.W.Frag} {tl : TE} {R : It → Hp → Prop} (k : tl σ H fun x H1 => ∃ a, x = .ref a ∧ (∃ xs, SqL K H1 a xs) ∧ R (Itl K a) H1) : iList K tl σ H R := k
theorem iT {K : PySem.W.Frag} {tl : TE} {R : It → Hp → Prop} (k : tl σ H fun x H1 => ∃ a, x = .ref a ∧ (∃ xs, SqT K H1 a xs) ∧ R (Itt K a) H1) : iTup K tl σ H R := k
/-- for name in range(m), the argument known -/
theorem rng1 {m : Int} {tb : TS} {j : Nat} (Pv : Nat → L2.St → Hp → Prop) (hb : -1000000 ≤ m ∧ m ≤ 1000000) (h0 : Pv 0 σ H)
    (hs : ∀ (i : Nat) (σ' : L2.St) (H' : Hp), (i : Int) < m → Pv i σ' H' → tb ⟨Pv (i + 1), r, n, Pv (i + 1)⟩ (σ'.set j (some (.int (i : Int)))) H') (hd : ∀ σ' H', Pv m.toNat σ' H' → n σ' H') :
    ∃ q : Int, [V.int m] = [V.int q] ∧ -(2 ^ 62) ≤ q ∧ q < 2 ^ 62 ∧ ForJ (gName j) tb ⟨n, r, b, c⟩ σ (Itr 0 q.toNat) H := by
  obtain ⟨hb1, hb2⟩ := hb
  have p62 : (2 : Int) ^ 62 = 4611686018427387904 := by decide
  refine ⟨m, rfl, by omega, by omega, for_range (lo := 0) (n := m.toNat) Pv h0 (fun i σ' H' hi p => ?_) hd⟩
  have e0 : (0 : Int) + (i : Int) = (i : Int) := Int.zero_add _
  show tb _ (σ'.set j (some (.int ((0 : Int) + (i : Int))))) H'
  rw [e0]
  exact hs i σ' H' (by omega) p
theorem rng2 {lo m : Int} {tb : TS} {j : Nat} (Pv : Nat → L2.St → Hp → Prop) (hb : -1000000 ≤ lo ∧ lo ≤ 1000000 ∧ -1000000 ≤ m ∧ m ≤ 1000000) (h0 : Pv 0 σ H)
    (hs : ∀ (i : Nat) (σ' : L2.St) (H' : Hp), lo + (i : Int) < m → Pv i σ' H' → tb ⟨Pv (i + 1), r, n, Pv (i + 1)⟩ (σ'.set j (some (.int (lo + (i : Int))))) H') (hd : ∀ σ' H', Pv (m - lo).toNat σ' H' → n σ' H') :
    ∃ p q : Int, [V.int lo, V.int m] = [V.int p, V.int q] ∧ (-(2 ^ 62) ≤ p ∧ p < 2 ^ 62 ∧ -(2 ^ 62) ≤ q ∧ q < 2 ^ 62) ∧ ForJ (gName j) tb ⟨n, r, b, c⟩ σ (Itr p (q - p).toNat) H := by
  obtain ⟨hb1, hb2, hb3, hb4⟩ := hb
  have p62 : (2 : Int) ^ 62 = 4611686018427387904 := by decide
  refine ⟨lo, m, rfl, ⟨by omega, by omega, by omega, by omega⟩, for_range (lo := lo) (n := (m - lo).toNat) Pv h0 (fun i σ' H' hi p => ?_) hd⟩
  exact hs i σ' H' (by omega) p
/-- for .. in a list, a tuple -/
theorem forL {K : PySem.W.Frag} {a : Addr} {xs : List V} {g : TG} {tb : TS} (Pv : Nat → L2.St → Hp → Prop) (h : SqL K H a xs) (h0 : Pv 0 σ H) (hl : ∀ i σ H, i ≤ xs.length → Pv i σ H → SqL K H a xs)
    (hs : ∀ (i : Nat) (x : V) (σ' : L2.St) (H' : Hp), xs[i]? = some x → Pv i σ' H' → g x σ' H' fun σ2 H2 => tb ⟨Pv (i + 1), r, n, Pv (i + 1)⟩ σ2 H2) (hd : ∀ σ' H', Pv xs.length σ' H' → n σ' H') :
    ∃ p, V.ref a = V.ref p ∧ (∃ ys, SqL K H p ys) ∧ ForJ g tb ⟨n, r, b, c⟩ σ (Itl K p) H := ⟨a, rfl, ⟨_, h⟩, for_list Pv h0 hl hs hd⟩
theorem forT {K : PySem.W.Frag} {a : Addr} {xs : List V} {g : TG} {tb : TS} (Pv : Nat → L2.St → Hp → Prop) (h : SqT K H a xs) (h0 : Pv 0 σ H) (hl : ∀ i σ H, i ≤ xs.length → Pv i σ H → SqT K H a xs)
    (hs : ∀ (i : Nat) (x : V) (σ' : L2.St) (H' : Hp), xs[i]? = some x → Pv i σ' H' → g x σ' H' fun σ2 H2 => tb ⟨Pv (i + 1), r, n, Pv (i + 1)⟩ σ2 H2) (hd : ∀ σ' H', Pv xs.length σ' H' → n σ' H') :
    ∃ p, V.ref a = V.ref p ∧ (∃ ys, SqT K H p ys) ∧ ForJ g tb ⟨n, r, b, c⟩ σ (Itt K p) H := ⟨a, rfl, ⟨_, h⟩, for_tup Pv h0 hl hs hd⟩
/-- what a list comprehension asks of what it walks -/
def LcJ (g : TG) (tt : TT) (te : TE) (vs : List Nat) (σ : L2.St) (Q : VK) (J : It) (H1 : Hp) : Prop := ∀ D, H1 D = none → ∃ W : Nat → Nat → Hp → Prop, (∃ m, W 0 m (upd H1 D (.lst []))) ∧ ∀ i m H, W i m H →
  (J.stop i H ∧ Q (.ref D) H) ∨ (J.go i H ∧ ∃ Nx : Hp → Prop, (∀ H', Nx H' → ∃ m', m' < m ∧ W (i + 1) m' H') ∧ ∀ x H', J.yld i H x H' → g x (wipe σ vs) H' fun σ2 H2 => wipe σ2 vs = wipe σ vs ∧ tt σ2 H2 fun b H3 =>
    if b = true then te σ2 H3 fun y H4 => ∃ acc, H4 D = some (.lst acc) ∧ acc.length < sizeLine ∧ Nx (upd H4 D (.lst (acc ++ [y]))) else Nx H3)
theorem lc_ {wi : TI} {g : TG} {tt : TT} {te : TE} {vs : List Nat} {Q : VK} (k : wi σ H fun J H1 => LcJ g tt te vs σ Q J H1) : tLc wi g tt te vs σ H Q := k
theorem itrLc {lo : Int} {k : Nat} {g : TG} {tt : TT} {te : TE} {vs : List Nat} {Q : VK} {D : Addr} (Pv : Nat → Hp → Prop) (h0 : Pv 0 (upd H D (.lst [])))
    (hs : ∀ i H, i < k → Pv i H → g (.int (lo + i)) (wipe σ vs) H fun σ2 H2 => wipe σ2 vs = wipe σ vs ∧ tt σ2 H2 fun b H3 =>
      if b = true then te σ2 H3 fun y H4 => ∃ acc, H4 D = some (.lst acc) ∧ acc.length < sizeLine ∧ Pv (i + 1) (upd H4 D (.lst (acc ++ [y]))) else Pv (i + 1) H3) (hd : ∀ H, Pv k H → Q (.ref D) H) :
    ∃ W : Nat → Nat → Hp → Prop, (∃ m, W 0 m (upd H D (.lst []))) ∧ ∀ i m H, W i m H →
      ((Itr lo k).stop i H ∧ Q (.ref D) H) ∨ ((Itr lo k).go i H ∧ ∃ Nx : Hp → Prop, (∀ H', Nx H' → ∃ m', m' < m ∧ W (i + 1) m' H') ∧ ∀ x H', (Itr lo k).yld i H x H' → g x (wipe σ vs) H' fun σ2 H2 => wipe σ2 vs = wipe σ vs ∧ tt σ2 H2 fun b H3 =>
        if b = true then te σ2 H3 fun y H4 => ∃ acc, H4 D = some (.lst acc) ∧ acc.length < sizeLine ∧ Nx (upd H4 D (.lst (acc ++ [y]))) else Nx H3) := by
  refine ⟨fun i m H => m = k - i ∧ i ≤ k ∧ Pv i H, ⟨k, by simp, Nat.zero_le _, h0⟩, ?_⟩
  rintro i m H ⟨rfl, hi, p⟩
  by_cases hlt : i < k
  · refine .inr ⟨hlt, Pv (i + 1), fun H' p' => ⟨k - (i + 1), by omega, rfl, hlt, p'⟩, fun x H' y => ?_⟩
    obtain ⟨e, rfl⟩ := y
    subst e
    exact hs i _ hlt p
  · have e : i = k := by omega
    subst e
    exact .inl ⟨Nat.le_refl _, hd H p⟩
/-- the end of a comprehension's turn: what is made so far, and the invariant -/
def LcE (H : Hp) (D : Addr) (i : Nat) (Pv : Addr → Nat → List V → Hp → Prop) : VK := fun y H4 => ∃ acc, H4 D = some (.lst acc) ∧ acc.length < sizeLine ∧
  ∃ ac, Same H (upd H4 D (.lst (acc ++ [y]))) ∧ ac.length = i + 1 ∧ upd H4 D (.lst (acc ++ [y])) D = some (.lst ac) ∧ Pv D (i + 1) ac (upd H4 D (.lst (acc ++ [y])))
theorem lcE {H H4 : Hp} {D : Addr} {i : Nat} {Pv : Addr → Nat → List V → Hp → Prop} {acc : List V} {y : V} (hD : H D = none) (h : H4 D = some (.lst acc)) (s : Same H H4) (e : acc.length = i) (hi : i < 100000) (k : Pv D (i + 1) (acc ++ [y]) (upd H4 D (.lst (acc ++ [y])))) : LcE H D i Pv y H4 :=
  ⟨acc, h, smallT (by omega), acc ++ [y], same_mut s hD, by simp [e], upd_same, k⟩
/-- [.. for name in range(m)] without a test: Pv i acc H: acc what is made -/
theorem lcR1 {m : Int} {j : Nat} {te : TE} {Q : VK} (Pv : Addr → Nat → List V → Hp → Prop) (hb : -100000 ≤ m ∧ m ≤ 100000) (h0 : ∀ D H', H D = none → Same H H' → H' D = some (.lst []) → Pv D 0 [] H')
    (hs : ∀ (i : Nat) (acc : List V) (D : Addr) (H' : Hp), H D = none → Same H H' → (i : Int) < m → acc.length = i → H' D = some (.lst acc) → Pv D i acc H' → te (σ.set j (some (.int (i : Int)))) H' (LcE H D i Pv))
    (hd : ∀ D acc H', H D = none → Same H H' → H' D = some (.lst acc) → acc.length = m.toNat → Pv D m.toNat acc H' → Q (.ref D) H') :
    ∃ q : Int, [V.int m] = [V.int q] ∧ -(2 ^ 62) ≤ q ∧ q < 2 ^ 62 ∧ LcJ (gName j) tYes te [j] σ Q (Itr 0 q.toNat) H := by
  obtain ⟨hb1, hb2⟩ := hb
  have p62 : (2 : Int) ^ 62 = 4611686018427387904 := by decide
  refine ⟨m, rfl, by omega, by omega, fun D hD => ?_⟩
  refine itrLc (fun i H' => ∃ acc, Same H H' ∧ acc.length = i ∧ H' D = some (.lst acc) ∧ Pv D i acc H') ⟨[], same_new hD, rfl, upd_same, h0 D _ hD (same_new hD) upd_same⟩ ?_ ?_
  · rintro i H' hi ⟨acc, s, e, hD', p⟩
    have e0 : (0 : Int) + (i : Int) = (i : Int) := Int.zero_add _
    rw [e0]
    refine ⟨show wipe ((wipe σ [j]).set j (some (.int (i : Int)))) [j] = wipe σ [j] by simp [wipe], ?_⟩
    show te ((wipe σ [j]).set j (some (.int (i : Int)))) H' (LcE H D i Pv)
    have ew : (wipe σ [j]).set j (some (.int (i : Int))) = σ.set j (some (.int (i : Int))) := by simp [wipe]
    rw [ew]
    exact hs i acc D H' hD s (by omega) e hD' p
  · rintro H' ⟨acc, s, e, hD', p⟩
    exact hd D acc H' hD s hD' e p
/-- [.. for name in a list] without a test -/
theorem lcL {K : PySem.W.Frag} {a : Addr} {xs : List V} {j : Nat} {te : TE} {Q : VK} (Pv : Addr → Nat → List V → Hp → Prop) (h : SqL K H a xs) (hl : xs.length ≤ 100000) (h0 : ∀ D H', H D = none → Same H H' → H' D = some (.lst []) → Pv D 0 [] H')
    (hs : ∀ (i : Nat) (x : V) (acc : List V) (D : Addr) (H' : Hp), H D = none → Same H H' → xs[i]? = some x → acc.length = i → H' D = some (.lst acc) → Pv D i acc H' → te (σ.set j (some x)) H' (LcE H D i Pv))
    (hd : ∀ D acc H', H D = none → Same H H' → H' D = some (.lst acc) → acc.length = xs.length → Pv D xs.length acc H' → Q (.ref D) H') :
    ∃ p, V.ref a = V.ref p ∧ (∃ ys, SqL K H p ys) ∧ LcJ (gName j) tYes te [j] σ Q (Itl K p) H := by
  refine ⟨a, rfl, ⟨_, h⟩, fun D hD => ?_⟩
  refine lc_list (xs := xs) (fun i H' => ∃ acc, Same H H' ∧ acc.length = i ∧ H' D = some (.lst acc) ∧ Pv D i acc H') ⟨[], same_new hD, rfl, upd_same, h0 D _ hD (same_new hD) upd_same⟩ (fun i H' _ ⟨acc, s, _⟩ => s.seq h) ?_ ?_
  · rintro i x H' hi ⟨acc, s, e, hD', p⟩
    refine ⟨show wipe ((wipe σ [j]).set j (some x)) [j] = wipe σ [j] by simp [wipe], ?_⟩
    show te ((wipe σ [j]).set j (some x)) H' (LcE H D i Pv)
    have ew : (wipe σ [j]).set j (some x) = σ.set j (some x) := by simp [wipe]
    rw [ew]
    exact hs i x acc D H' hD s hi e hD' p
  · rintro H' ⟨acc, s, e, hD', p⟩
    exact hd D acc H' hD s hD' e p
end
section
variable {X : Cx}
/-- // by a divisor of either sign below 2 ^ 9000 -/
def CDivX (_ j : Int) : Prop := j ≠ 0 ∧ j.natAbs.log2 < 9000
theorem op_fdivX : OpR X (binaryOp .FloorDiv) (rI CDivX fun i j => .int (i.fdiv j)) := L2.opI fun i j _ _ _ _ _ hc q =>
  floordiv_int hc.1 q (.inl (PyProof.noPylong_of_log2 hc.2))
end
theorem cdivX' {i j : Int} (h : j ≠ 0) (hb : -(2 ^ 64) < j ∧ j < 2 ^ 64) : CDivX i j := ⟨h, Nat.lt_of_lt_of_le (PySem.Flt.log2_lt_of (k := 64) (by decide) (by omega)) (by decide)⟩
theorem kb_int_int : kitB "int" "int" = some true := by decide +kernel
theorem kb_int_bool : kitB "int" "bool" = some false := by decide +kernel
theorem kb_int_str : kitB "int" "str" = some false := by decide +kernel
theorem kb_int_tuple : kitB "int" "tuple" = some false := by decide +kernel
theorem kb_int_list : kitB "int" "list" = some false := by decide +kernel
theorem kb_int_dict : kitB "int" "dict" = some false := by decide +kernel
theorem kb_bool_int : kitB "bool" "int" = some true := by decide +kernel
theorem kb_bool_bool : kitB "bool" "bool" = some true := by decide +kernel
theorem kb_bool_str : kitB "bool" "str" = some false := by decide +kernel
theorem kb_bool_tuple : kitB "bool" "tuple" = some false := by decide +kernel
theorem kb_bool_list : kitB "bool" "list" = some false := by decide +kernel
theorem kb_bool_dict : kitB "bool" "dict" = some false := by decide +kernel
theorem kb_str_int : kitB "str" "int" = some false := by decide +kernel
theorem kb_str_bool : kitB "str" "bool" = some false := by decide +kernel
theorem kb_str_str : kitB "str" "str" = some true := by decide +kernel
theorem kb_str_tuple : kitB "str" "tuple" = some false := by decide +kernel
theorem kb_str_list : kitB "str" "list" = some false := by decide +kernel
theorem kb_str_dict : kitB "str" "dict" = some false := by decide +kernel
theorem kb_tuple_int : kitB "tuple" "int" = some false := by decide +kernel
theorem kb_tuple_bool : kitB "tuple" "bool" = some false := by decide +kernel
theorem kb_tuple_str : kitB "tuple" "str" = some false := by decide +kernel
theorem kb_tuple_tuple : kitB "tuple" "tuple" = some true := by decide +kernel
theorem kb_tuple_list : kitB "tuple" "list" = some false := by decide +kernel
theorem kb_tuple_dict : kitB "tuple" "dict" = some false := by decide +kernel
theorem kb_list_int : kitB "list" "int" = some false := by decide +kernel
theorem kb_list_bool : kitB "list" "bool" = some false := by decide +kernel
theorem kb_list_str : kitB "list" "str" = some false := by decide +kernel
theorem kb_list_tuple : kitB "list" "tuple" = some false := by decide +kernel
theorem kb_list_list : kitB "list" "list" = some true := by decide +kernel
theorem kb_list_dict : kitB "list" "dict" = some false := by decide +kernel
theorem kb_NoneType_int : kitB "NoneType" "int" = some false := by decide +kernel
theorem kb_NoneType_bool : kitB "NoneType" "bool" = some false := by decide +kernel
theorem kb_NoneType_str : kitB "NoneType" "str" = some false := by decide +kernel
theorem kb_NoneType_tuple : kitB "NoneType" "tuple" = some false := by decide +kernel
theorem kb_NoneType_list : kitB "NoneType" "list" = some false := by decide +kernel
theorem kb_NoneType_dict : kitB "NoneType" "dict" = some false := by decide +kernel
theorem kb_dict_int : kitB "dict" "int" = some false := by decide +kernel
theorem kb_dict_bool : kitB "dict" "bool" = some false := by decide +kernel
theorem kb_dict_str : kitB "dict" "str" = some false := by decide +kernel
theorem kb_dict_tuple : kitB "dict" "tuple" = some false := by decide +kernel
theorem kb_dict_list : kitB "dict" "list" = some false := by decide +kernel
theorem kb_dict_dict : kitB "dict" "dict" = some true := by decide +kernel
section
variable {K : PySem.W.Frag} {H : Hp} {Q : VK} {b : String} {r : Bool}
theorem isiI {i : Int} (e : kitB "int" b = some r) (k : Q (.bl r) H) : rIsi K [.int i, .ty b] H Q := ⟨_, _, _, _, r, rfl, .ty b, .base (.int i), kit_ty e, k⟩
theorem isiB {i : Bool} (e : kitB "bool" b = some r) (k : Q (.bl r) H) : rIsi K [.bl i, .ty b] H Q := ⟨_, _, _, _, r, rfl, .ty b, .base (.bl i), kit_ty e, k⟩
theorem isiS {i : Str} (e : kitB "str" b = some r) (k : Q (.bl r) H) : rIsi K [.str i, .ty b] H Q := ⟨_, _, _, _, r, rfl, .ty b, .base (.str i), kit_ty e, k⟩
theorem isiN (e : kitB "NoneType" b = some r) (k : Q (.bl r) H) : rIsi K [.non, .ty b] H Q := ⟨_, _, _, _, r, rfl, .ty b, .base .non, kit_ty e, k⟩
theorem tyT {p : Addr} {xs : List V} (h : SqT K H p xs) : TyX K H (.ref p) (.type "tuple") := by
  rcases h with (h | ⟨o, h⟩) | h
  · exact .base (.tup h)
  · exact .fTuple h
  · obtain ⟨o, its, n, h1, h2, _⟩ := h
    exact .kTuple h1 h2
theorem tyL' {p : Addr} {xs : List V} (h : SqL K H p xs) : TyX K H (.ref p) (.type "list") := by
  rcases h with (h | ⟨o, h⟩) | h
  · exact .base (.lst h)
  · exact .base (.frz h)
  · obtain ⟨o, its, n, h1, h2, _⟩ := h
    exact .kList h1 h2
theorem isiT {p : Addr} {xs : List V} (h : SqT K H p xs) (e : kitB "tuple" b = some r) (k : Q (.bl r) H) : rIsi K [.ref p, .ty b] H Q := ⟨_, _, _, _, r, rfl, .ty b, tyT h, kit_ty e, k⟩
theorem isiL {p : Addr} {xs : List V} (h : SqL K H p xs) (e : kitB "list" b = some r) (k : Q (.bl r) H) : rIsi K [.ref p, .ty b] H Q := ⟨_, _, _, _, r, rfl, .ty b, tyL' h, kit_ty e, k⟩
theorem iteNT {A B : Prop} (h : B) : if (!true) = true then A else B := iteF h
theorem iteNF {A B : Prop} (h : A) : if (!false) = true then A else B := iteT h
end

/-! ### texts -/
/-- the text of these signs -/
def S (l : List Nat) : Str := ⟨l.toArray⟩
theorem S_len (l : List Nat) : (S l).length = l.length := by show l.toArray.size = l.length; simp
theorem S_tl (l : List Nat) : (S l).cps.toList = l := by show l.toArray.toList = l; simp
theorem S_inj {l m : List Nat} (h : S l = S m) : l = m := by have := congrArg (fun z : Str => z.cps.toList) h; simpa [S_tl] using this
theorem S_eq {l m : List Nat} : decide (S l = S m) = decide (l = m) := by
  by_cases h : l = m
  · rw [decide_eq_true h, decide_eq_true (by rw [h])]
  · rw [decide_eq_false h, decide_eq_false fun e => h (S_inj e)]
theorem S_app (l m : List Nat) : S l ++ S m = S (l ++ m) := by
  show (⟨l.toArray ++ m.toArray⟩ : Str) = ⟨(l ++ m).toArray⟩
  simp
theorem S_of (x : Str) : x = S x.cps.toList := by cases x; simp [S]
theorem S_one (c : Nat) : (⟨#[c]⟩ : Str) = S [c] := rfl
section
variable {σ : L2.St} {H : Hp} {Q : VK} {ta tb te : TE} {K : PySem.W.Frag}
theorem addS' {l m : List Nat} (h : l.length + m.length ≤ 100000) (k : Q (.str (S (l ++ m))) H) : AddSK (.str (S l)) (.str (S m)) H Q := ⟨_, _, rfl, rfl, small (by rw [S_len, S_len]; exact h), by rw [S_app]; exact k⟩
theorem lenS' {l : List Nat} (h : l.length ≤ 100000) (k : Q (.int l.length) H) : LenSK [.str (S l)] H Q := ⟨_, rfl, small (by rw [S_len]; exact h), by rw [S_len]; exact k⟩
theorem eqS' {l m : List Nat} (k : Q (.bl (decide (l = m))) H) : rEq (.str (S l)) (.str (S m)) H Q := eqS (by rw [S_eq]; exact k)
theorem neS' {l m : List Nat} (k : Q (.bl (!decide (l = m))) H) : rNe (.str (S l)) (.str (S m)) H Q := neS (by rw [S_eq]; exact k)
theorem ixS {l : List Nat} {i : Int} {c : Nat} (h : l.length ≤ 100000) (a : atI l i = some c) (k : Q (.str (S [c])) H) : rIxS (.str (S l)) (.int i) H Q := ⟨S l, i, c, rfl, rfl, small (by rw [S_len]; exact h), by rw [S_tl]; exact a, k⟩
def InSK (x y : V) (H : Hp) (Q : VK) : Prop := ∃ (c : Nat) (z : Str), x = .str ⟨#[c]⟩ ∧ y = .str z ∧ Q (.bl (decide (c ∈ z.cps.toList))) H
theorem opInS (k : ta σ H fun x H1 => tb σ H1 fun y H2 => InSK x y H2 Q) : tOp (fun x y H Q => ∃ (c : Nat) (z : Str), x = V.str ⟨#[c]⟩ ∧ y = V.str z ∧ Q (.bl (decide (c ∈ z.cps.toList))) H) ta tb σ H Q := k
theorem inS {c : Nat} {l : List Nat} (k : Q (.bl (decide (c ∈ l))) H) : InSK (.str (S [c])) (.str (S l)) H Q := ⟨c, S l, rfl, rfl, by rw [S_tl]; exact k⟩
theorem slS {l : List Nat} {a b : Nat} {i j : Int} (ha : i = a) (hb : j = b) (hl : l.length ≤ 100000) (hab : a ≤ l.length) (k : Q (.str (S ((l.drop a).take (b - a)))) H) : rSlS (.str (S l)) (some i) (some j) H Q := by
  subst ha hb
  refine ⟨S l, rfl, small (by rw [S_len]; exact hl), ?_⟩
  have e : cutS (S l) (some (a : Int)) (some (b : Int)) = S ((l.drop a).take (b - a)) := by
    unfold cutS
    rw [S_tl, S_len, HT.sIx_nat, HT.sIx_nat]
    show S _ = S _
    congr 1
    rw [Nat.min_eq_left hab]
    by_cases h : b ≤ l.length
    · rw [Nat.min_eq_left h]
    · rw [Nat.min_eq_right (by omega), List.take_of_length_le (by simp), List.take_of_length_le (by simp; omega)]
  rw [e]; exact k
def IntSK (xs : List V) (H : Hp) (Q : VK) : Prop := ∃ a n, xs = [.str a] ∧ PySem.intText? a = some n ∧ a.length ≤ 640 ∧ Q (.int n) H
theorem cbIntS {t : TA} (k : t σ H fun vs H1 => IntSK vs H1 Q) : tCB (fun xs H Q => ∃ a n, xs = [V.str a] ∧ PySem.intText? a = some n ∧ a.length ≤ 640 ∧ Q (.int n) H) t σ H Q := k
theorem intS {l : List Nat} {n : Int} (e : PySem.intText? (S l) = some n) (h : l.length ≤ 640) (k : Q (.int n) H) : IntSK [.str (S l)] H Q := ⟨_, n, rfl, e, by rw [S_len]; exact h, k⟩
theorem strI {i : Int} {l : List Nat} (h : i.natAbs.log2 < 1920) (e : (Str.ofString (toString i)) = S l) (k : Q (.str (S l)) H) : StrIK [.int i] H Q := ⟨i, rfl, h, by rw [e]; exact k⟩
/-- a text times a number -/
def MulSK (x y : V) (H : Hp) (Q : VK) : Prop := ∃ (z : Str) (n : Int), x = .str z ∧ y = .int n ∧ MulOk z n ∧ Q (.str (Txt.mul z n)) H
theorem op_mulS {X : Cx} : OpR X (binaryOp .Mult) MulSK := by
  intro pins s σ H x y v u Q I rx ry h
  obtain ⟨z, n, rfl, rfl, hc, q⟩ := h
  obtain ⟨t, rfl⟩ := rx
  obtain ⟨t', rfl⟩ := ry
  exact SB.mul hc fun t' k => ⟨.str (Txt.mul z n), H, I.tok _, ⟨_, rfl⟩, q⟩
theorem mulS1 {c : Nat} {n : Int} (h : 0 ≤ n ∧ n ≤ 100000) (k : Q (.str (S (List.replicate n.toNat c))) H) : MulSK (.str (S [c])) (.int n) H Q := by
  refine ⟨S [c], n, rfl, rfl, ⟨?_, ?_, ?_⟩, ?_⟩
  · have : ¬ n < -(2 ^ 63 : Int) := by omega
    have h2 : ¬ n ≥ 2 ^ 63 := by omega
    simp [this, h2]
    omega
  · intro h1 _
    show ¬ (((S [c]).length : Int) > (2 ^ 63 - 1) / n)
    have : ((S [c]).length : Int) = 1 := rfl
    rw [this]
    have h3 : (1 : Int) ≤ (2 ^ 63 - 1) / n := by
      rw [Int.le_ediv_iff_mul_le (by omega)]
      omega
    omega
  · intro h1 _
    have : (S [c]).length = 1 := rfl
    rw [this, Nat.one_mul]
    have : n.toNat ≤ sizeLine := small (by omega)
    exact decide_eq_false (by omega)
  · have e : Txt.mul (S [c]) n = S (List.replicate n.toNat c) := by
      unfold Txt.mul
      by_cases h1 : n < 1
      · rw [if_pos h1]
        have : n.toNat = 0 := by omega
        rw [this]; rfl
      · rw [if_neg h1]
        by_cases h2 : n = 1
        · subst h2; rfl
        · have : (n == 1 || (S [c]).length == 0) = false := by rw [beq_eq_false_iff_ne.mpr h2]; rfl
          rw [this]
          show (⟨(List.replicate n.toNat #[c]).foldl (· ++ ·) #[]⟩ : Str) = S (List.replicate n.toNat c)
          have e2 : ∀ (m : Nat) (acc : Array Nat), (List.replicate m #[c]).foldl (· ++ ·) acc = acc ++ (List.replicate m c).toArray := by
            intro m
            induction m with
            | zero => intro acc; simp
            | succ m ih =>
              intro acc
              rw [List.replicate_succ, List.foldl_cons, ih, List.replicate_succ]
              apply Array.toList_inj.mp
              simp
          rw [e2]
          simp [S]
    rw [e]; exact k
end
/-! ### more readings -/
section
variable {σ : L2.St} {H : Hp} {n b c : L2.St → Hp → Prop} {r : VK} {tc : TT} {tb : TS} {K : PySem.W.Frag}
/-- while: Pv m: m falls -/
theorem whl (Pv : Nat → L2.St → Hp → Prop) (h0 : ∃ m, Pv m σ H)
    (hs : ∀ m σ H, Pv m σ H → tc σ H fun x H1 => if x = true then ∃ N : L2.St → Hp → Prop, (∀ σ' H', N σ' H' → ∃ m', m' < m ∧ Pv m' σ' H') ∧ tb ⟨N, r, n, N⟩ σ H1 else n σ H1) : tWhile tc tb ⟨n, r, b, c⟩ σ H := ⟨Pv, h0, hs⟩
theorem whlN {Pv : Nat → L2.St → Hp → Prop} {m : Nat} (k : tb ⟨fun σ' H' => ∃ m', m' < m ∧ Pv m' σ' H', r, n, fun σ' H' => ∃ m', m' < m ∧ Pv m' σ' H'⟩ σ H) :
    ∃ N : L2.St → Hp → Prop, (∀ σ' H', N σ' H' → ∃ m', m' < m ∧ Pv m' σ' H') ∧ tb ⟨N, r, n, N⟩ σ H := ⟨_, fun _ _ h => h, k⟩
variable {Q : VK} {te : TE}
theorem revL (k : te σ H fun x H1 => ∃ a xs, x = .ref a ∧ SqL K H1 a xs ∧ ∀ p, H1 p = none → Q (.ref p) (upd H1 p (.lst xs.reverse))) : tRevL K te σ H Q := k
theorem revL' {a : Addr} {xs : List V} {P : List V → Prop} (h : SqL K H a xs) (k : P xs) : ∃ a' xs', V.ref a = V.ref a' ∧ SqL K H a' xs' ∧ P xs' := ⟨a, xs, rfl, h, k⟩
theorem slL' {a : Addr} {xs : List V} {lo hi : Option Int} (h : SqL K H a xs) (k : ∀ p, H p = none → Q (.ref p) (upd H p (.lst (cutV xs lo hi)))) : rSlL K (.ref a) lo hi H Q := ⟨a, xs, rfl, h, k⟩
theorem nopart {Q : Option Int → Hp → Prop} (k : Q none H) : tNoPart σ H Q := k
theorem part {te : TE} {Q : Option Int → Hp → Prop} (k : te σ H fun x H1 => ∃ i, x = .int i ∧ Q (some i) H1) : tPart te σ H Q := k
theorem part' {i : Int} {P : Int → Prop} (k : P i) : ∃ j, V.int i = V.int j ∧ P j := ⟨i, rfl, k⟩
theorem bm0 {T : String} {rr : V → List V → Hp → VK → Prop} {to : TE} (k : to σ H fun x H1 => tyV K T x H1 ∧ rr x [] H1 Q) : tBM0 K T rr to σ H Q := k
theorem pop {l : Addr} {xs : List V} {y : V} (h : H l = some (.lst xs)) (e : xs[xs.length - 1]? = some y) (k : Q y (upd H l (.lst xs.dropLast))) : rPop (.ref l) [] H Q := ⟨l, xs, y, rfl, rfl, h, e, k⟩
theorem catL {a b : Addr} {xs ys : List V} (ha : H a = some (.lst xs)) (hb : H b = some (.lst ys)) (hz : xs.length + ys.length ≤ 100000) (k : ∀ p, H p = none → Q (.ref p) (upd H p (.lst (xs ++ ys)))) : rCat (.ref a) (.ref b) H Q := ⟨a, b, xs, ys, rfl, rfl, ha, hb, small hz, k⟩
/-- a comprehension's turn whose heap changes -/
def LcF (D : Addr) (i : Nat) (Pv : Addr → Nat → List V → Hp → Prop) : VK := fun y H4 => ∃ acc, H4 D = some (.lst acc) ∧ acc.length < sizeLine ∧
  ∃ ac, ac.length = i + 1 ∧ upd H4 D (.lst (acc ++ [y])) D = some (.lst ac) ∧ Pv D (i + 1) ac (upd H4 D (.lst (acc ++ [y])))
theorem lcF {H4 : Hp} {D : Addr} {i : Nat} {Pv : Addr → Nat → List V → Hp → Prop} {acc : List V} {y : V} (h : H4 D = some (.lst acc)) (e : acc.length = i) (hi : i < 100000) (k : Pv D (i + 1) (acc ++ [y]) (upd H4 D (.lst (acc ++ [y])))) : LcF D i Pv y H4 :=
  ⟨acc, h, smallT (by omega), acc ++ [y], by simp [e], upd_same, k⟩
theorem lcR1F {m : Int} {j : Nat} (Pv : Addr → Nat → List V → Hp → Prop) (hb : -100000 ≤ m ∧ m ≤ 100000) (h0 : ∀ D, H D = none → Pv D 0 [] (upd H D (.lst [])))
    (hs : ∀ (i : Nat) (acc : List V) (D : Addr) (H' : Hp), H D = none → (i : Int) < m → acc.length = i → H' D = some (.lst acc) → Pv D i acc H' → te (σ.set j (some (.int (i : Int)))) H' (LcF D i Pv))
    (hd : ∀ D acc H', H D = none → H' D = some (.lst acc) → acc.length = m.toNat → Pv D m.toNat acc H' → Q (.ref D) H') :
    ∃ q : Int, [V.int m] = [V.int q] ∧ -(2 ^ 62) ≤ q ∧ q < 2 ^ 62 ∧ LcJ (gName j) tYes te [j] σ Q (Itr 0 q.toNat) H := by
  obtain ⟨hb1, hb2⟩ := hb
  have p62 : (2 : Int) ^ 62 = 4611686018427387904 := by decide
  refine ⟨m, rfl, by omega, by omega, fun D hD => ?_⟩
  refine itrLc (fun i H' => ∃ acc, acc.length = i ∧ H' D = some (.lst acc) ∧ Pv D i acc H') ⟨[], rfl, upd_same, h0 D hD⟩ ?_ ?_
  · rintro i H' hi ⟨acc, e, hD', p⟩
    have e0 : (0 : Int) + (i : Int) = (i : Int) := Int.zero_add _
    rw [e0]
    refine ⟨show wipe ((wipe σ [j]).set j (some (.int (i : Int)))) [j] = wipe σ [j] by simp [wipe], ?_⟩
    show te ((wipe σ [j]).set j (some (.int (i : Int)))) H' (LcF D i Pv)
    have ew : (wipe σ [j]).set j (some (.int (i : Int))) = σ.set j (some (.int (i : Int))) := by simp [wipe]
    rw [ew]
    exact hs i acc D H' hD (by omega) e hD' p
  · rintro H' ⟨acc, e, hD', p⟩
    exact hd D acc H' hD hD' e p
end
theorem cut_take {xs : List V} {m : Int} (h : 0 ≤ m) : cutV xs none (some m) = xs.take m.toNat := by
  unfold cutV
  obtain ⟨k, rfl⟩ : ∃ k : Nat, m = k := ⟨m.toNat, by omega⟩
  rw [HT.sIx_none, HT.sIx_nat, List.drop_zero, Nat.sub_zero, Int.toNat_natCast]
  by_cases h1 : k ≤ xs.length
  · rw [Nat.min_eq_left h1]
  · rw [Nat.min_eq_right (by omega), List.take_of_length_le (Nat.le_refl _), List.take_of_length_le (by omega)]
theorem atI_all {xs : List V} {p : V → Bool} {i : Int} (h : xs.all p = true) (h0 : 0 ≤ i) (h1 : i < (xs.length : Int)) : ∃ v, atI xs i = some v ∧ p v = true := by
  have h2 : i.toNat < xs.length := by omega
  exact ⟨xs[i.toNat], atI_of h0 (List.getElem?_eq_getElem h2), List.all_eq_true.mp h _ (List.getElem_mem h2)⟩
theorem ixLall {K : PySem.W.Frag} {H : Hp} {Q : VK} {l : Addr} {xs : List V} {i : Int} (p : V → Bool) (h : SqL K H l xs) (a : xs.all p = true) (h0 : 0 ≤ i) (h1 : i < (xs.length : Int)) (k : ∀ v, p v = true → Q v H) : rIxL K (.ref l) (.int i) H Q := by
  obtain ⟨v, e, q⟩ := atI_all a h0 h1
  exact ixL h e (k v q)
theorem ixSall {H : Hp} {Q : VK} {l : List Nat} {i : Int} (hl : l.length ≤ 100000) (h0 : 0 ≤ i) (h1 : i < (l.length : Int)) (k : ∀ c, c ∈ l → Q (.str (S [c])) H) : rIxS (.str (S l)) (.int i) H Q := by
  have h2 : i.toNat < l.length := by omega
  exact ixS hl (atI_of h0 (List.getElem?_eq_getElem h2)) (k _ (List.getElem_mem h2))
theorem dp_same {K : PySem.W.Frag} {H H' : Hp} (e : Same H H') : ∀ {x : V} {d : PyData}, Dp K H x d → Dp K H' x d
  | _, _, .non => .non
  | _, _, .bl b => .bl b
  | _, _, .int i => .int i
  | _, _, .str x => .str x
  | _, _, .lst h a => .lst (e.seq h) (go e a)
  | _, _, .tup h a => .tup (same_tup e h) (go e a)
where go {K : PySem.W.Frag} {H H' : Hp} (e : Same H H') : ∀ {xs : List V} {ds : List PyData}, DpAll K H xs ds → DpAll K H' xs ds
  | _, _, .nil => .nil
  | _, _, .cons h t => .cons (dp_same e h) (go e t)
theorem dpAll_len {K : PySem.W.Frag} {H : Hp} : ∀ {xs : List V} {ds : List PyData}, DpAll K H xs ds → xs.length = ds.length
  | _, _, .nil => rfl
  | _, _, .cons _ t => congrArg Nat.succ (dpAll_len t)
theorem dpAll_get {K : PySem.W.Frag} {H : Hp} : ∀ {xs : List V} {ds : List PyData}, DpAll K H xs ds → ∀ i, i < ds.length → ∃ x, xs[i]? = some x ∧ Dp K H x (ds.getD i .none)
  | _, _, .nil, i, h => absurd h (Nat.not_lt_zero i)
  | _, _, .cons h _, 0, _ => ⟨_, rfl, h⟩
  | _, _, .cons _ t, i + 1, hi => by
    obtain ⟨x, e, d⟩ := dpAll_get t i (Nat.lt_of_succ_lt_succ hi)
    exact ⟨x, e, d⟩
theorem depth_get : ∀ {ds : List PyData} {i : Nat}, i < ds.length → (ds.getD i .none).depth ≤ PyData.depthAll ds
  | [], i, h => absurd h (Nat.not_lt_zero i)
  | d :: ds, 0, _ => by simp only [PyData.depthAll]; exact Nat.le_max_left _ _
  | d :: ds, i + 1, h => by
    have := depth_get (ds := ds) (i := i) (Nat.lt_of_succ_lt_succ h)
    simp only [PyData.depthAll]
    exact Nat.le_trans this (Nat.le_max_right _ _)
theorem ixQL {K : PySem.W.Frag} {H : Hp} {Q : VK} {p : Addr} {xs : List V} {i : Int} {v : V} (h : SqL K H p xs) (a : atI xs i = some v) (k : Q v H) : rIx K (.ref p) (.int i) H Q := .inl (ixL h a k)
theorem ixQT {K : PySem.W.Frag} {H : Hp} {Q : VK} {p : Addr} {xs : List V} {i : Int} {v : V} (h : SqT K H p xs) (a : atI xs i = some v) (k : Q v H) : rIx K (.ref p) (.int i) H Q := .inr (.inl (ixT h a k))
theorem weight_get {ds : List PyData} {i : Nat} (h : i < ds.length) : (ds.getD i .none).weight ≤ PyData.weightAll ds := by
  refine PyData.weight_le_weightAll _ _ ?_
  rw [List.getD_eq_getElem?_getD, List.getElem?_eq_getElem h]
  exact List.getElem_mem h
theorem atI_last {α : Type} {xs : List α} {v : α} : atI (xs ++ [v]) (-1) = some v := by
  unfold atI ixN
  rw [if_neg (by decide), if_pos (by simp; omega)]
  show (xs ++ [v])[(-1 + ((xs ++ [v]).length : Int)).toNat]? = some v
  have : (-1 + ((xs ++ [v]).length : Int)).toNat = xs.length := by simp; omega
  rw [this]; simp
/-- two ways that come together: what holds where they meet -/
theorem join {σ : L2.St} {H : Hp} {t u : TS} {D : Ends} (J : L2.St → Hp → Prop) (h1 : ∀ N : L2.St → Hp → Prop, (∀ σ' H', J σ' H' → N σ' H') → t ⟨N, D.rt, D.bk, D.ct⟩ σ H) (h2 : ∀ σ' H', J σ' H' → u D σ' H') : tSeq t u D σ H := h1 _ h2
theorem ixLmem {K : PySem.W.Frag} {H : Hp} {Q : VK} {l : Addr} {xs : List V} {i : Int} (h : SqL K H l xs) (h0 : 0 ≤ i) (h1 : i < (xs.length : Int)) (k : ∀ v, v ∈ xs → Q v H) : rIxL K (.ref l) (.int i) H Q := by
  have h2 : i.toNat < xs.length := by omega
  exact ixL h (atI_of h0 (List.getElem?_eq_getElem h2)) (k _ (List.getElem_mem h2))
/-! ### a def that calls itself: nothing is asked with no call left -/
theorem none_left {P : Program} {w : World} {K : PySem.W.Frag} {mg : Str → Option Value} {base : Heap} {k : Nat} {f : Addr} {fd : FuncData} {ps : List Str} {sp : Sp} (no : ∀ vs H Q E, ¬ sp vs H Q E) : FnOk P w K mg base CX0 k f fd ps sp :=
  ⟨fun vs H Q E h => absurd h (no vs H Q E), fun A outer s H args us vs Q E _ _ _ _ h => absurd h (no vs H Q E)⟩
end Rd

set_option Elab.async false
set_option linter.all false
set_option maxRecDepth 100000
set_option maxHeartbeats 4000000
/-! Own operators of a class of one's own, by the text's defs. -/
namespace Bd
open PySem PySem.W PySem.Calls PyProof.Rows
section
variable {prog : Program} {w : World} {A : Around} {E : Value → Shared → Prop} {s : Shared} {K : Frag} {x y C L f : Addr} {h₀ : Heap} {m : Str → Option Value} {ox oy : Obj} {od od' : Option Obj}
/-- x op y, two instances of one class -/
theorem bin_one {op : Operator} {Q : Value → Shared → Prop} (F : Fr h₀ L s.heap m) (X₀ : K.In h₀) (I : InstAt s.heap x ox C od) (J : InstAt s.heap y oy C od') (hc : selfFirst K C = true)
    (hs : findIn K (.ref C) (PySem.dunder op.info.2) = some (some (.ref f))) (hf : isFn K (.ref f) = true)
    (h : wpAny (model prog w) A (call (.ref f) [.ref x, .ref y]) (PySem.W.CmpBack Q) E s) : wpAny (model prog w) A (binaryOp op (.ref x) (.ref y)) Q E s := by
  have X := X₀.keeps F.keep
  obtain ⟨cd, rest, hcd, hm⟩ := ksp_first hc
  rcases hi : op.info with ⟨sym, nm⟩
  rw [hi] at hs
  dsimp only at hs
  have one := ksp_try X I hs hf h
  obtain ⟨hh, g, d, tt, os⟩ := s
  have L1 : Looks (model prog w) hh (typeOf (.ref x)) (.ref C) := I.type
  have L2 : Looks (model prog w) hh (typeOf (.ref y)) (.ref C) := J.type
  have L3 : Looks (model prog w) hh (fillsNumberSlot (.ref C) nm) true := fills_K X hcd hm hs
  have heq : (Value.ref C == Value.ref C) = true := beq_self_eq_true _
  simp only [binaryOp, hi]
  refine wpAny_holding (wpAny_bind ?_)
  unfold binaryOp1
  refine wpAny_bind (L1.at (wpAny_bind (L2.at (wpAny_bind (L3.at ?_)))))
  simp only [heq, if_true]
  ksp_lk
  refine wpAny_mono one (fun r s' hr' => ?_) fun _ _ e => e
  obtain ⟨v, rfl, hq⟩ := hr'
  ksp_lk
  exact hq
end
end Bd
namespace Bd
open PySem PySem.Spec PyProof.Rows L2
theorem back_ep {X : Cx} {pins : List (Addr × Obj)} {σ : L2.St} {Q : VK} {u : Value} {s' : Shared} (h : EP X pins σ Q u s') : PySem.W.CmpBack (EP X pins σ Q) u s' := by
  cases u with
  | notImplemented =>
    obtain ⟨v, H', _, r, _⟩ := h
    cases v <;> first | (obtain ⟨_, r⟩ := r; exact nomatch r) | exact nomatch (show _ = _ from r)
  | _ => exact h
section
variable {X : Cx} {pins : List (Addr × Obj)} {σ : L2.St} {H : Hp} {s : Shared} {CT : CXT} {n : Nat} {C f : Addr} {fd : FuncData} {ps : List Str} {sp : Sp} {E : XK}
/-- a call of a def of one's own, by its value -/
theorem call_def {vs : List V} {us : List Value} {Q : VK} (F : FnOk X.prog X.w X.K X.mg X.base CT n f fd ps sp) (hb : Binds X.K fd ps []) (hx : Passes CT X E) (hr : Room n X.A) (I : Inv X pins σ H s) (r : Vals vs us) (hsp : sp vs H Q E) :
    wpAny (model X.prog X.w) X.A (call (.ref f) us) (EP X pins σ Q) X.xe s := by
  have hl := F.len _ _ _ _ hsp
  have hu : us.length = ps.length := by rw [← r.length]; exact hl
  refine wpAny_call (codeAny_mono (F.run X.A X.stack s H ⟨us, []⟩ us vs Q E hr I.env0 (by
    have := hb s us I.kIn (by simpa using hu)
    simpa using this) r hsp) fun z s' hq => ?_)
  cases z with
  | error e => exact hx pins σ H s e s' I hq
  | ok fl =>
    cases fl with
    | ret w => exact I.after hq
    | next => exact False.elim hq
    | brk => exact False.elim hq
    | cont => exact False.elim hq
/-- x op y, both of the class at C -/
def rOwn2 (C : Addr) (sp : Sp) (E : XK) : R2 := fun x y H Q => ∃ a b dx dy fs gs, x = .ref a ∧ y = .ref b ∧ H a = some (.ins C dx fs) ∧ H b = some (.ins C dy gs) ∧ sp [.ref a, .ref b] H Q E
theorem op_own {op : Operator} (F : FnOk X.prog X.w X.K X.mg X.base CT n f fd ps sp) (hc : PySem.W.selfFirst X.K C = true) (hs : PySem.W.findIn X.K (.ref C) (PySem.dunder op.info.2) = some (some (.ref f))) (hf : PySem.W.isFn X.K (.ref f) = true)
    (hb : Binds X.K fd ps []) (hx : Passes CT X E) (hr : Room n X.A) : OpR X (binaryOp op) (rOwn2 C sp E) := by
  intro pins s σ H x y v u Q I rx ry h
  obtain ⟨a, b, dx, dy, fs, gs, rfl, rfl, ha, hb', hsp⟩ := h
  obtain rfl : v = Value.ref a := rx
  obtain rfl : u = Value.ref b := ry
  obtain ⟨mA, J, _⟩ := ins_get I.hok ha
  obtain ⟨mB, J', _⟩ := ins_get I.hok hb'
  obtain ⟨od, J, _⟩ := J.look
  obtain ⟨od', J', _⟩ := J'.look
  obtain ⟨m, hF⟩ := I.fr
  refine bin_one hF I.ok.mod.kin J J' hc hs hf ?_
  exact wpAny_mono (call_def F hb hx hr I (vs := [.ref a, .ref b]) (.cons rfl (.cons rfl .nil)) hsp) (fun _ _ h => back_ep h) fun _ _ e => e
/-- -x -/
def rOwn1 (C : Addr) (sp : Sp) (E : XK) : V → Hp → VK → Prop := fun x H Q => ∃ a dx fs, x = .ref a ∧ H a = some (.ins C dx fs) ∧ sp [.ref a] H Q E
theorem un_own (F : FnOk X.prog X.w X.K X.mg X.base CT n f fd ps sp) (hs : PySem.W.findIn X.K (.ref C) "__neg__" = some (some (.ref f))) (hf : PySem.W.isFn X.K (.ref f) = true)
    (hb : Binds X.K fd ps []) (hx : Passes CT X E) (hr : Room n X.A) : UnR X (unaryOp .USub) (rOwn1 C sp E) := by
  intro pins s σ H x v Q I rx h
  obtain ⟨a, dx, fs, rfl, ha, hsp⟩ := h
  obtain rfl : v = Value.ref a := rx
  obtain ⟨mA, J, _⟩ := ins_get I.hok ha
  obtain ⟨od, J, _⟩ := J.look
  obtain ⟨m, hF⟩ := I.fr
  exact PySem.W.ksp_neg hF I.ok.mod.kin J hs hf (call_def F hb hx hr I (vs := [.ref a]) (.cons rfl .nil) hsp)
/-- x == y, both of the class at C, whatever __eq__ says -/
theorem op_eqOwn (F : FnOk X.prog X.w X.K X.mg X.base CT n f fd ps sp) (hs : PySem.W.findIn X.K (.ref C) "__eq__" = some (some (.ref f))) (hf : PySem.W.isFn X.K (.ref f) = true)
    (hb : Binds X.K fd ps []) (hx : Passes CT X E) (hr : Room n X.A) : OpR X (compareOp .Eq) (rOwn2 C sp E) := by
  intro pins s σ H x y v u Q I rx ry h
  obtain ⟨a, b, dx, dy, fs, gs, rfl, rfl, ha, hb', hsp⟩ := h
  obtain rfl : v = Value.ref a := rx
  obtain rfl : u = Value.ref b := ry
  obtain ⟨mA, J, _⟩ := ins_get I.hok ha
  obtain ⟨mB, J', _⟩ := ins_get I.hok hb'
  obtain ⟨od, J, _⟩ := J.look
  obtain ⟨od', J', _⟩ := J'.look
  obtain ⟨m, hF⟩ := I.fr
  show wpAny (model X.prog X.w) X.A (richCompare .Eq (.ref a) (.ref b)) _ _ _
  refine PySem.W.cmp_K (op := .Eq) (tb := .ref C) hr.units0 hF I.ok.mod.kin J J'.type (by simp [PySem.W.notFirst]) hs hf ?_
  exact wpAny_mono (call_def F hb hx hr I (vs := [.ref a, .ref b]) (.cons rfl (.cons rfl .nil)) hsp) (fun _ _ h => back_ep h) fun _ _ e => e
end
end Bd
namespace Bd
open PySem PySem.W PySem.Calls PyProof.Rows
/-- by the text, then by the number -/
def ltSI (p q : Str × Int) : Bool := if p.1 = q.1 then decide (p.2 < q.2) else decide (p.1.cps.toList < q.1.cps.toList)
theorem str_ext {x y : Str} (h : x.cps.toList = y.cps.toList) : x = y := by rw [Rd.S_of x, Rd.S_of y, h]
theorem ltSI_iff {p q : Str × Int} : ltSI p q = true ↔ p.1.cps.toList < q.1.cps.toList ∨ (p.1 = q.1 ∧ p.2 < q.2) := by
  unfold ltSI
  by_cases e : p.1 = q.1
  · rw [if_pos e, e]
    exact ⟨fun h => .inr ⟨rfl, of_decide_eq_true h⟩, fun h => h.elim (fun z => absurd z (List.lt_irrefl _)) fun z => decide_eq_true z.2⟩
  · rw [if_neg e]
    exact ⟨fun h => .inl (of_decide_eq_true h), fun h => h.elim decide_eq_true fun z => absurd z.1 e⟩
theorem ltSI_no {p q : Str × Int} : ltSI p q = false ↔ ¬ (p.1.cps.toList < q.1.cps.toList ∨ (p.1 = q.1 ∧ p.2 < q.2)) := by
  rw [← ltSI_iff]; simp
theorem swo_SI {α : Type} (k : α → Str × Int) : SrtO.Swo fun v u => ltSI (k v) (k u) := by
  refine ⟨fun x y h => ?_, fun x y z h1 h2 => ?_⟩
  · have a := ltSI_iff.mp h
    refine ltSI_no.mpr fun b => ?_
    rcases a with a | a
    · rcases b with b | b
      · exact List.lt_asymm a b
      · rw [b.1] at a; exact List.lt_irrefl _ a
    · rcases b with b | b
      · rw [a.1] at b; exact List.lt_irrefl _ b
      · omega
  · have a := ltSI_no.mp h1
    have b := ltSI_no.mp h2
    refine ltSI_no.mpr fun c => ?_
    rcases c with c | ⟨c1, c2⟩
    · have d : (k x).1.cps.toList ≤ (k y).1.cps.toList := List.not_lt.mp fun z => a (.inl z)
      have d2 : (k y).1.cps.toList ≤ (k z).1.cps.toList := List.not_lt.mp fun q => b (.inl q)
      exact List.not_lt.mpr (List.le_trans d d2) c
    · have d1 : (k x).1.cps.toList ≤ (k y).1.cps.toList := List.not_lt.mp fun z => a (.inl z)
      have d2 : (k y).1.cps.toList ≤ (k z).1.cps.toList := List.not_lt.mp fun z => b (.inl z)
      rw [c1] at d2
      have e : (k x).1 = (k y).1 := str_ext (List.le_antisymm d1 d2)
      refine a (.inr ⟨e.symm, ?_⟩)
      have e2 : ¬ (k z).2 < (k y).2 := fun z => b (.inr ⟨c1.trans e, z⟩)
      omega
/-- a pair of a text and a number -/
def IsSI (h : Heap) (v : Value) (p : Str × Int) : Prop := ∃ a o t u n, v = .ref a ∧ h.get? a = some o ∧ o.cls = .type "tuple" ∧ o.data = .seq #[.str p.1 t, .int p.2 u] n
theorem IsSI.keeps {h h' : Heap} {v : Value} {p : Str × Int} (x : IsSI h v p) (k : ∀ b o, h.get? b = some o → o.cls = .type "tuple" → h'.get? b = some o) : IsSI h' v p := by
  obtain ⟨a, o, t, u, n, e, ho, hc, hd⟩ := x
  exact ⟨a, o, t, u, n, e, k _ _ ho hc, hc, hd⟩
section
variable {prog : Program} {w : World} {A : Around} {s : Shared}
theorem si_cmp {vs : List Value} {k : Value → Str × Int} (hp : ∀ v ∈ vs, IsSI s.heap v (k v)) : SrtO.Cmp prog w A s (tuples' true) (fun p => p.1 ∈ vs) (SrtO.lt2 fun v u => ltSI (k v) (k u)) := by
  intro p q hm hm'
  have h1 := hp _ hm
  have h2 := hp _ hm'
  show wpAny (model prog w) A (keyLt' (tuples' true) p.1 q.1) (fun r s' => s' = s ∧ r = ltSI (k p.1) (k q.1)) (fun _ _ => False) s
  generalize k p.1 = x at h1 ⊢
  generalize k q.1 = y at h2 ⊢
  obtain ⟨a, o, t, u, n, e, ho, hc, hd⟩ := h1
  obtain ⟨a', o', t', u', n', e', ho', hc', hd'⟩ := h2
  rw [e, e']
  refine PySem.W.kat_lt ho hd ho' hd' ?_
  show PySem.W.KatLex prog w A true (decide (2 < 2)) _ [(.str x.1 t, .str y.1 t'), (.int x.2 u, .int y.2 u')] 0 s
  refine PySem.W.kat_cons (SeqAt.EqAt.str_str x.1 t y.1 t' prog w _ _ ?_)
  refine PySem.W.kat_go (fun e1 => ?_) (fun e1 => ?_)
  · have ex : x.1 = y.1 := by simpa using e1
    refine PySem.W.kat_yes (PySem.W.kat_cons (SeqAt.EqAt.int_int x.2 u y.2 u' prog w _ _ ?_))
    refine PySem.W.kat_go (fun e2 => ?_) (fun e2 => ?_)
    · have ey : x.2 = y.2 := by simpa using e2
      refine PySem.W.kat_yes (PySem.W.kat_nil ⟨rfl, ?_⟩)
      unfold ltSI
      rw [if_pos ex, ey]
      exact (decide_eq_false (Int.lt_irrefl _)).symm
    · refine PySem.W.kat_no (PySem.W.kat_one _ _ (PyProof.Rows.lt_int ?_))
      refine ⟨rfl, ?_⟩
      unfold ltSI
      rw [if_pos ex]
  · have ex : ¬ x.1 = y.1 := by simpa using e1
    refine PySem.W.kat_no (oneLt_str ⟨rfl, ?_⟩)
    unfold ltSI
    rw [if_neg ex]
theorem si_firsts {h : Heap} {k : Value → Str × Int} : ∀ {vs : List Value}, (∀ v ∈ vs, IsSI h v (k v)) → ∃ fs : List Value, PySem.W.KatTups h vs fs ∧ fs.length = vs.length ∧ ∀ f ∈ fs, ∃ x t, f = Value.str x t
  | [], _ => ⟨[], PySem.W.KatTups.nil, rfl, fun _ hm => by simp at hm⟩
  | v :: vs, hp => by
    obtain ⟨fs, h1, h2, h3⟩ := si_firsts (vs := vs) fun v' hm => hp v' (List.mem_cons_of_mem _ hm)
    obtain ⟨a, o, t, u, n, e, ho, hc, hd⟩ := hp v (List.mem_cons_self ..)
    subst e
    refine ⟨.str _ t :: fs, PySem.W.KatTups.cons ho hc hd rfl h1, by rw [List.length_cons, List.length_cons, h2], fun f hm => ?_⟩
    rcases List.mem_cons.mp hm with rfl | hm
    · exact ⟨_, _, rfl⟩
    · exact h3 f hm
theorem si_sortable {a : Addr} {vs : List Value} {k : Value → Str × Int} (h0 : 0 < vs.length) (hp : ∀ v ∈ vs, IsSI s.heap v (k v)) (ha : ∀ o, s.heap.get? a = some o → o.cls ≠ .type "tuple") :
    SrtO.SortableO prog w A s a vs fun v u => ltSI (k v) (k u) := by
  intro h' keep
  have hp' : ∀ v ∈ vs, IsSI h' v (k v) := fun v hm => (hp v hm).keeps fun b o e c => keep b o (fun z => by subst z; exact ha o e c) e
  obtain ⟨fs, h1, h2, h3⟩ := si_firsts hp'
  refine ⟨tuples' true, fun Q E hq => ?_, si_cmp hp'⟩
  refine PySem.W.kat_kind (T := .type "str") h1 (by omega) (fun f hm => ?_) (by rfl) ?_
  · obtain ⟨x, t, rfl⟩ := h3 f hm
    exact PySem.W.Looks.now
  · have e : (Value.type "str" != Value.type "tuple") = true := by first | decide +kernel | rfl | decide
    rw [e]
    exact hq
end
end Bd
namespace Bd
open PySem PySem.Spec PyProof.Rows L2
/-- the pair that a value stands for, read off the heap -/
def siOf (h : Heap) (v : Value) : Str × Int := match v with
  | .ref b => (match h.get? b with
    | some o => (match o.data with
      | .seq xs _ => (match xs.toList with
        | [.str x _, .int y _] => (x, y)
        | _ => (⟨#[]⟩, 0))
      | _ => (⟨#[]⟩, 0))
    | none => (⟨#[]⟩, 0))
  | _ => (⟨#[]⟩, 0)
theorem IsSI.of {h : Heap} {v : Value} {p : Str × Int} (x : IsSI h v p) : siOf h v = p := by
  obtain ⟨a, o, t, u, n, rfl, ho, hc, hd⟩ := x
  unfold siOf
  simp only [ho, hd]
/-- an asset as a dict's key -/
def eK (p : Str × Int) : List Key := [Sum.inr p.1, Sum.inl p.2]
/-- addresses of assets' tuples -/
def AsAt (H : Hp) (ps : List (Addr × (Str × Int))) : Prop := ∀ z ∈ ps, H z.1 = some (.tup [.str z.2.1, .int z.2.2])
theorem isSI_of {P : Program} {w : World} {H : Hp} {h : Heap} {b : Addr} {p : Str × Int} (ok : HOk P w H h) (e : H b = some (.tup [.str p.1, .int p.2])) : IsSI h (.ref b) p := by
  obtain ⟨_, its, r, o, ho, hc, n, hd⟩ := ok _ _ e
  obtain ⟨u1, u2, rfl, ri, rj⟩ := vals2 r
  obtain ⟨t1, rfl⟩ := ri
  obtain ⟨t2, rfl⟩ := rj
  exact ⟨b, o, t1, t2, n, rfl, ho, hc, hd⟩
theorem kt_as {H : Hp} : ∀ {m : List ((Str × Int) × V)} {ks : List (List Key × Addr × Value)}, KT H (m.map fun e => (eK e.1, e.2)) ks → ∃ ps : List (Addr × (Str × Int)), AsAt H ps ∧ ps.map (·.2) = m.map (·.1) ∧ ps.map (·.1) = ks.map fun x => x.2.1
  | [], _, r => by
    rw [List.map_nil] at r
    cases r
    exact ⟨[], fun _ h => absurd h List.not_mem_nil, rfl, rfl⟩
  | e :: m, _, r => by
    rw [List.map_cons] at r
    cases r with
    | @cons p q ps qs h t =>
      obtain ⟨ps', a1, a2, a3⟩ := kt_as t
      refine ⟨(q.2.1, e.1) :: ps', fun z hz => ?_, by rw [List.map_cons, List.map_cons, a2], by rw [List.map_cons, List.map_cons, a3]⟩
      rcases List.mem_cons.mp hz with rfl | hz
      · exact h.2.1
      · exact a1 z hz
section
variable {X : Cx}
/-- sorted(d), the keys of d pairs of a text and a number -/
def rSortedDT : List V → Hp → VK → Prop := fun xs H Q => ∃ (a : Addr) (m : List ((Str × Int) × V)), xs = [.ref a] ∧ Rd H a (.dT (m.map fun e => (eK e.1, e.2))) ∧
  ∀ (ps : List (Addr × (Str × Int))) (p : Addr), AsAt H ps → SrtO.Srtd ltSI (ps.map (·.2)) → (ps.map (·.2)).Perm (m.map (·.1)) → H p = none → Q (.ref p) (upd H p (.lst (ps.map fun z => V.ref z.1)))
theorem cr_sortedDT (hcalm : X.calm = true) : CallR X (.builtin "sorted") rSortedDT := by
  intro pins s σ H xs us Q I r q
  obtain ⟨a, m, rfl, hd, q⟩ := q
  obtain ⟨u, rfl, rx⟩ := vals1 r
  cases rx
  obtain ⟨z, hs, ks, pr, o, es, ep, ho, hx, hdt, he, hn⟩ := (show ObjOk X.prog X.w H s.heap a (.dT _) from hd.ok I.hok)
  have l1 : es.size = ks.length := size_of_entries he
  have l2 : (m.map fun e => (eK e.1, e.2)).length = ks.length := Paired.length pr
  have l3 : m.length = ks.length := by simpa using l2
  refine Calls.call_function_entry PyProof.Rows.kind_sorted PyProof.Rows.plain_sorted PyProof.Rows.entry_sorted (PyProof.Rows.args_sorted1 _) ?_
  unfold Builtin.«sorted»
  refine wpAny_bind (m := checkCount "sorted" 1 1 _) (wpAny_pure ?_)
  refine wpAny_bind (PySem.W.kdu_collect (A := X.A.in1) (kdl_raw hs hx hdt) (I.ok.hd hcalm) ho (by omega) fun h' tk acc hk it => ?_)
  have ea : acc.toList = (ks.map fun x => x.2.1).map Value.ref := by
    have hl : acc.toList.length = ks.length := by rw [Array.length_toList, it.1]; exact l1
    apply List.ext_getElem?
    intro j
    rw [List.map_map, List.getElem?_map]
    cases hj : acc.toList[j]? with
    | none =>
      have h1 := List.getElem?_eq_none_iff.mp hj
      rw [List.getElem?_eq_none (by omega)]
      rfl
    | some v =>
      obtain ⟨en, hen, hv⟩ := it.2 j v (by rw [← Array.getElem?_toList]; exact hj)
      have qe := entry_at he j
      rw [hen] at qe
      cases hb : ks[j]? with
      | none =>
        rw [hb] at qe
        exact nomatch (show some en = none from qe)
      | some b =>
        rw [hb] at qe
        have e2 : en = entryOfKey (tupleKind (mixKind X.prog X.w)) b := Option.some.inj qe
        rw [hv, e2]
        rfl
  have I1 : Inv X pins σ H { s with heap := h', toks := tk } := I.kept hk
  obtain ⟨ps0, a1, a2, a3⟩ := kt_as pr
  have eb : acc.toList = ps0.map fun z => Value.ref z.1 := by rw [ea, ← a3, List.map_map]; rfl
  have hal : acc.toList.length ≤ sizeLine := by
    rw [Array.length_toList, it.1]; omega
  refine wpAny_bind (wpAny_newList ?_ hal)
  have hoL : (h'.push (seqObj "list" acc.toList.toArray 0)).get? h'.objs.size = some (seqObj "list" acc.toList.toArray 0) := Heap.get?_push_size _ rfl
  have hsi : ∀ v ∈ acc.toList, IsSI (h'.push (seqObj "list" acc.toList.toArray 0)) v (siOf s.heap v) := fun v hv => by
    rw [eb] at hv
    obtain ⟨zz, hz, rfl⟩ := List.mem_map.mp hv
    have q := isSI_of I.hok (a1 zz hz)
    rw [q.of]
    exact (isSI_of I1.hok (a1 zz hz)).keeps fun b ob e _ => Heap.get?_push_of_some _ e
  show wpAny _ _ _ _ _ { s with heap := h'.push (seqObj "list" acc.toList.toArray 0), toks := tk }
  refine wpAny_bind (wpAny_holding (wpAny_call_entry PyProof.Rows.slot_list_sort ⟨_, hoL, rfl⟩ PyProof.Rows.entry_list_sort
    (SrtO.list_sort_ord (ltv := fun v u => ltSI (siOf s.heap v) (siOf s.heap u)) (s := { s with heap := h'.push (seqObj "list" acc.toList.toArray 0), toks := tk }) (swo_SI (siOf s.heap)) hoL hal (fun h2 => si_sortable (by omega) hsi fun ob e => by
      have e' := e.symm.trans hoL
      cases e'
      intro c
      exact absurd (Value.type.inj c) (by decide)) fun out h1 h2 => ⟨_, rfl, ?_⟩)
    (PyProof.Rows.args_list_sort _)))
  obtain ⟨ps, b1, b2⟩ := perm_lift (fun z : Addr × (Str × Int) => Value.ref z.1) h2.perm ps0 eb.symm
  have hAs : AsAt H ps := fun z hz => a1 z (b1.mem_iff.mp hz)
  have hk2 : ∀ z ∈ ps, siOf s.heap (Value.ref z.1) = z.2 := fun z hz => (isSI_of I.hok (hAs z hz)).of
  have hsr : SrtO.Srtd ltSI (ps.map (·.2)) := by
    rw [← b2] at h1
    have h1' := List.pairwise_map.mp h1
    refine List.pairwise_map.mpr (h1'.imp_of_mem fun {x y} hx hy hh => ?_)
    have hh' : ltSI (siOf s.heap (Value.ref y.1)) (siOf s.heap (Value.ref x.1)) = false := hh
    rw [hk2 x hx, hk2 y hy] at hh'
    exact hh'
  obtain ⟨e', he'⟩ := PyProof.Rows.sortedHeap_at (vs := acc.toList) (out := out.toArray) hoL
  have hlen : (ps.map fun z => V.ref z.1).length ≤ sizeLine := by
    rw [List.length_map, b1.length_eq]
    have : ps0.length = acc.toList.length := by rw [eb, List.length_map]
    omega
  refine wpAny_pure ⟨_, rfl, .ref h'.objs.size, upd H h'.objs.size (.lst (ps.map fun z => V.ref z.1)), I1.laid (t' := tk) (fun b u e => ?_) (Nat.le_refl _)
    (show ObjOk X.prog X.w _ _ _ (.lst _) from ⟨hlen, out, e', ?_, he'⟩), rfl, q ps _ hAs hsr ((b1.map _).trans (by rw [a2])) (I1.hok.fresh (Nat.le_refl _))⟩
  · have hb : b < h'.objs.size := Heap.lt_size e
    rw [PyProof.Rows.sortedHeap_old (Nat.ne_of_lt hb) (by rw [size_push']; exact Nat.lt_succ_of_lt hb)]
    exact Heap.get?_push_of_some _ e
  · rw [← b2]
    have := vals_refs (ps.map (·.1))
    rw [List.map_map, List.map_map] at this
    exact this
end
end Bd
namespace Bd
open PySem PySem.Spec PyProof.Rows
section
variable {prog : Program} {w : World} {A : Around} {E : Value → Shared → Prop} {s : Shared} {r d : Addr} {es : Array DictEntry} {ep : Nat}
theorem code_tuple_items {Q₁ : Value → Shared → Prop} (hh : A.handled = none) (hv : s.heap.IsItemsView r d) (hm : DT.Raw s.heap d es ep) (hn : es.size ≤ sizeLine)
    (h : ∀ (h' : Heap) (tk : Nat) (as : List Addr), (∀ b o, s.heap.get? b = some o → h'.get? b = some o) → s.heap.objs.size < h'.objs.size → as.length = es.size → DT.Made es s.heap.objs.size h' as →
      Q₁ (.ref h'.objs.size) { s with heap := h'.push { cls := .type "tuple", data := .seq (as.map Value.ref).toArray }, toks := tk }) :
    codeAny (model prog w) A (.call (.builtin "tuple.__new__") ⟨[.type "tuple", .ref r], []⟩) (wants Q₁ E) s := by
  refine codeAny_of_tree ?_
  show wpAny _ A.in1 (do checkBuiltinCall "tuple.__new__" ⟨[.type "tuple", .ref r], []⟩; again (.builtin "tuple.__new__" ⟨[.type "tuple", .ref r], []⟩)) _ _ s
  refine wpAny_bind (wpAny_of_eq (F.newCall_tuple_1 _) (wpAny_pure ⟨plainId_quiet F.plain_tuple_new _, codeAny_builtin F.entry_tuple_new ?_⟩))
  rw [Around.under_plainId F.plain_tuple_new _]
  have hsub := sub_tuple_self
  have hinit := init_tuple_lookup
  have hmh := madeHere_tuple
  have hTI : s.TypeIs (.ref r) "dict_items" := by
    obtain ⟨o, ho, hc, _⟩ := hv
    exact ⟨o, ho, hc⟩
  wp_walk using wpAny_typeOf hTI, DT.collectI (A := A.in1) (show A.in1.handled = none from hh) hv hm hn
  intro h' tk as hk hlt hl hG
  show wpAny _ _ (Builtin.Tuple.tupleExact (as.map Value.ref).toArray >>= fun v => ret v) _ _ _
  unfold Builtin.Tuple.tupleExact
  refine wpAny_bind (wpAny_newObj_type ?_ (by show (as.map Value.ref).toArray.size ≤ sizeLine; simp only [List.size_toArray, List.length_map]; omega))
  exact wpAny_pure (h h' tk as hk hlt hl hG)
theorem call_tuple_items {Q : Value → Shared → Prop} (hh : A.handled = none) (hv : s.heap.IsItemsView r d) (hm : DT.Raw s.heap d es ep) (hn : es.size ≤ sizeLine)
    (h : ∀ (h' : Heap) (tk : Nat) (as : List Addr), (∀ b o, s.heap.get? b = some o → h'.get? b = some o) → s.heap.objs.size < h'.objs.size → as.length = es.size → DT.Made es s.heap.objs.size h' as →
      Q (.ref h'.objs.size) { s with heap := h'.push { cls := .type "tuple", data := .seq (as.map Value.ref).toArray }, toks := tk }) :
    wpAny (model prog w) A (call (.type "tuple") [.ref r]) Q E s := by
  refine callType_codes (Q₁ := fun obj s₁ => s₁.TypeIs obj "tuple" ∧ Q obj s₁) F.called_tuple (F.typeCall_tuple_1 _) F.entry_object_init
    (code_tuple_items (A := A.in1) hh hv hm hn fun h' tk as hk hlt hl hG => ⟨⟨_, Heap.get?_push_size _ rfl, rfl⟩, h h' tk as hk hlt hl hG⟩) fun obj s₁ h₁ => ?_
  exact ⟨h₁.1, F.args_object_init_2 obj _, object_init_meets F.called_tuple.init.lookup F.called_tuple.made (by decide) prog w A.in1 _ s₁ ⟨h₁.1, rfl, h₁.2⟩⟩
end
end Bd
namespace Bd
open PySem PySem.Spec PyProof.Rows L2 L2.DX
section
variable {X : Cx}
/-- tuple(d.items()): a row of pairs (asset, value) -/
def rTupIt : List V → Hp → VK → Prop := fun vs H Q => ∃ (p a : Addr) (m : List ((Str × Int) × V)), vs = [.ref p] ∧ H p = some (itemsO p a) ∧ H a = some (.dT (m.map fun e => (eK e.1, e.2))) ∧
  ∀ (H' : Hp) (q : Addr) (zs : List (Addr × ((Str × Int) × V))), (∀ b o, H b = some o → H' b = some o) → H q = none → zs.map (·.2) = m → H' q = some (.tup (zs.map fun z => V.ref z.1)) →
    (∀ z ∈ zs, ∃ kq, H' z.1 = some (.tup [.ref kq, z.2.2]) ∧ H' kq = some (.tup [.str z.2.1.1, .int z.2.1.2])) → Q (.ref q) H'
theorem cr_tupIt (hc : X.calm = true) : CallR X (.type "tuple") rTupIt := by
  intro pins s σ H xs us Q I r h
  obtain ⟨p, a, m, rfl, hp, ha, q⟩ := h
  obtain ⟨u, rfl, ru⟩ := vals1 r
  obtain rfl : u = Value.ref p := ru
  have view : s.heap.IsItemsView p a := (show ObjOk X.prog X.w H s.heap p (itemsO p a) from I.hok p _ hp).1
  obtain ⟨z, hd, xs', rel, o, es, ep, ho, hx, hdat, hes, his, hn⟩ := dt_of I.hok ha
  have l1 : (m.map fun e => (eK e.1, e.2)).length = xs'.length := Paired.length rel
  rw [List.length_map] at l1 z
  have l2 : es.size = xs'.length := size_of_entries hes
  refine call_tuple_items (es := es) (ep := ep) (I.ok.hd hc) view ⟨o, ho, hx, hdat⟩ (by omega) fun h' tk as hk hlt hl hG => ?_
  have lam : as.length = m.length := by omega
  have nd : as.Nodup := List.Pairwise.imp (fun h => Nat.ne_of_lt h) hG.rise
  have hN : s.heap.objs.size < h'.objs.size := hlt
  generalize hh : h'.push { cls := .type "tuple", data := .seq (as.map Value.ref).toArray } = h2
  have ka : ∀ b o, h'.get? b = some o → h2.get? b = some o := fun b o e => by rw [← hh]; exact Heap.get?_push_of_some _ e
  have hob : h2.get? h'.objs.size = some { cls := .type "tuple", data := .seq (as.map Value.ref).toArray } := by rw [← hh]; exact Heap.get?_push_size _ rfl
  have I1 : Inv X pins σ H { s with heap := h2, toks := tk } := I.kept (t' := tk) fun b o e => ka _ _ (hk b o e)
  have hn0 : H h'.objs.size = none := I.hok.fresh (Nat.le_of_lt hN)
  have I2 : Inv X pins σ (upd H h'.objs.size (.tup (as.map V.ref))) { s with heap := h2, toks := tk } :=
    I1.take (h' := h2) (t' := tk) (fun b ob _ e => e) (I.fpOk (Nat.le_of_lt hN) hn0) ⟨by rw [List.length_map]; omega, as.map Value.ref, vals_refs as, ⟨_, hob, rfl, 0, rfl⟩⟩
  obtain ⟨H2, I3, g, qt⟩ := takeT (P := fun b vs => ∃ (j : Nat) (e : (Str × Int) × V) (kq : Addr), as[j]? = some b ∧ m[j]? = some e ∧ vs = [.ref kq, e.2] ∧ H kq = some (.tup [.str e.1.1, .int e.1.2])) I as _ I2 nd fun b hb => by
    obtain ⟨j, hj⟩ := List.mem_iff_getElem?.mp hb
    obtain ⟨en, he, hg⟩ := hG.pairs j b hj
    rw [entry_at hes j] at he
    cases hxj : xs'[j]? with
    | none =>
      rw [hxj] at he
      exact nomatch (show (none : Option DictEntry) = some en from he)
    | some x =>
      rw [hxj] at he
      have een : entryOfKey (tupleKind (mixKind X.prog X.w)) x = en := Option.some.inj he
      obtain ⟨e0, he0, r1, r2, r3⟩ := pget rel hxj
      rw [List.getElem?_map] at he0
      cases hkj : m[j]? with
      | none =>
        rw [hkj] at he0
        exact nomatch (show (none : Option (List L2.Key × V)) = some e0 from he0)
      | some e =>
        rw [hkj] at he0
        have ee : (eK e.1, e.2) = e0 := Option.some.inj he0
        rw [← ee] at r2 r3
        have hbl : s.heap.objs.size ≤ b := Nat.le_of_lt (hG.above b hb)
        have hbn : b ≠ h'.objs.size := Nat.ne_of_lt (Heap.lt_size hg)
        refine ⟨hbl, by rw [upd_ne hbn]; exact I.hok.fresh hbl, [.ref x.2.1, e.2], ⟨j, e, x.2.1, hj, hkj, rfl, r2⟩, fun H3 => ⟨by rw [sizeLine_eq]; show 2 ≤ 16777216; omega, [Value.ref x.2.1, x.2.2], .cons rfl (.cons r3 .nil), ⟨_, ka _ _ hg, rfl, 0, ?_⟩⟩⟩
        rw [← een]
        rfl
  have gr : ∀ b o, H b = some o → H2 b = some o := fun b o e => g b o (by rw [upd_ne (ne_of_none e hn0)]; exact e)
  refine ⟨.ref h'.objs.size, H2, I3, rfl, q H2 h'.objs.size (as.zip m) gr hn0 (List.map_snd_zip (by omega)) ?_ fun z' hz' => ?_⟩
  · have e1 : ((as.zip m).map fun z => V.ref z.1) = as.map V.ref := by
      have := List.map_fst_zip (l₁ := as) (l₂ := m) (by omega)
      conv => rhs; rw [← this]
      rw [List.map_map]; rfl
    rw [e1]
    exact g _ _ upd_same
  · obtain ⟨i, hi⟩ := List.mem_iff_getElem?.mp hz'
    obtain ⟨i1, i2⟩ := List.getElem?_zip_eq_some.mp hi
    obtain ⟨vs, ⟨j, e, kq, j1, j2, ev, hkq⟩, hH⟩ := qt z'.1 (List.mem_of_getElem? i1)
    have eij : i = j := (List.getElem?_inj (List.getElem?_eq_some_iff.mp i1).1 nd).mp (i1.trans j1.symm)
    subst eij
    have ee : e = z'.2 := Option.some.inj (j2.symm.trans i2)
    rw [ev, ee] at hH
    rw [ee] at hkq
    exact ⟨kq, hH, gr _ _ hkq⟩
end
end Bd
namespace Bd
open PySem PySem.Spec PyProof.Rows L2
section
/-- d[k] = v by a comprehension, keys tuples -/
theorem put_tup {X : Cx} {pins : List (Addr × Obj)} {σ : L2.St} {H : Hp} {s : Shared} {E : Value → Shared → Prop} {D b : Addr} {kvs : List (List Key × V)} {k : List Key} {v : V} {u r : Value} {Q : Unit → Shared → Prop} (hu : X.A.units + 1 < cLine) (I : Inv X pins σ H s)
    (hD : H D = some (.dT kvs)) (hb : H b = some (.tup (k.map kV))) (hz : kvs.length < sizeLine) (ru : u = Value.ref b) (rv : RelV v r) (h : ∀ s', Inv X pins σ (upd H D (.dT (putK kvs k v))) s' → Q () s') :
    wpAny (model X.prog X.w) X.A (dictSet D u r) Q E s := by
  subst ru
  obtain ⟨z, hd, xs, rel, dd⟩ := dt_of I.hok hD
  have hl : (putK kvs k v).length ≤ sizeLine := by have := length_putK kvs k v; omega
  refine wpAny_dictSet_heap (hsz := by rw [← Paired.length rel]; exact z) (show (tupleKind (mixKind X.prog X.w)).room X.A from (show X.A.units < cLine by omega)) (key_of I.hok hb) dd fun h' dd' hs => h _ ?_
  obtain ⟨q, es, ep, hq, h2, h3, h4, _, h5⟩ := dd'
  refine d_write I (by rw [hD]; exact True.intro) hs ⟨q, hq⟩ ⟨hl, hd, _, (rel.put k hb rv).keeps fun c ys ec => ?_, q, es, ep, hq, h2, h3, h4, h5⟩
  rw [upd_ne (ne_of ec hD (fun z => nomatch z))]
  exact ec
end
section
variable {X : Cx}
/-- what {k: v for ..} asks of what it walks, the keys tuples: D the new dict -/
def DcJ (g : TG) (tt : TT) (tk tv : TE) (vs : List Nat) (σ : L2.St) (Q : VK) (J : It) (H1 : Hp) : Prop := ∀ D, H1 D = none → ∃ W : Nat → Nat → Hp → Prop, (∃ m, W 0 m (upd H1 D (.dT []))) ∧ ∀ i m H, W i m H →
  (J.stop i H ∧ Q (.ref D) H) ∨ (J.go i H ∧ ∃ Nx : Hp → Prop, (∀ H', Nx H' → ∃ m', m' < m ∧ W (i + 1) m' H') ∧ ∀ x H', J.yld i H x H' → g x (wipe σ vs) H' fun σ2 H2 => wipe σ2 vs = wipe σ vs ∧ tt σ2 H2 fun t H3 =>
    if t = true then tk σ2 H3 fun y H4 => tv σ2 H4 fun z H5 => ∃ kvs k b, y = .ref b ∧ H5 b = some (.tup (k.map kV)) ∧ H5 D = some (.dT kvs) ∧ kvs.length < sizeLine ∧ Nx (upd H5 D (.dT (putK kvs k z))) else Nx H3)
def tDcT (wi : TI) (g : TG) (tt : TT) (tk tv : TE) (vs : List Nat) : TE := fun σ H Q => wi σ H fun J H1 => DcJ g tt tk tv vs σ Q J H1
theorem pe_dcT {kx vx tg iter : Expr} {ifs : List Expr} {scope : Scope} {own : List (Str × Nat)} {pos : Pos} {wi : TI} {g : TG} {tt : TT} {tk tv : TE} (hu : X.A.units + 1 < cLine) (hc : X.calm = true) (hN : X.N.Nodup) (hi : PI X tg iter wi) (ok : BlkOk X.N X.env.scope scope own)
    (hg : ∀ (s : Shared) (H : Hp) (C : Addr) (cl : List (Str × Addr)) (fp : List Addr), PG (X.blk s H scope (compEnvC scope cl C X.env) fp) tg g) (ht : ∀ (s : Shared) (H : Hp) (C : Addr) (cl : List (Str × Addr)) (fp : List Addr), PTs (X.blk s H scope (compEnvC scope cl C X.env) fp) ifs tt)
    (hk : ∀ (s : Shared) (H : Hp) (C : Addr) (cl : List (Str × Addr)) (fp : List Addr), PE (X.blk s H scope (compEnvC scope cl C X.env) fp) kx tk)
    (he : ∀ (s : Shared) (H : Hp) (C : Addr) (cl : List (Str × Addr)) (fp : List Addr), PE (X.blk s H scope (compEnvC scope cl C X.env) fp) vx tv) (hs : ∀ x, foldedSetIterable iter X.env x = pure x := by intro _; rfl) :
    PE X (.DictComp kx vx [⟨tg, iter, ifs, 0⟩] scope pos) (tDcT wi g tt tk tv (own.map (·.2))) := by
  refine ⟨fun pins s σ H Q I h => ?_⟩
  rw [arm_eval_DictComp]
  have free : ∀ y ∈ scope.names, y.2 = .free → ∃ c, X.env.cells.lookup y.1 = some c := fun y hy e => by
    rcases ok.free y hy e with k | k
    · exact I.ok.has _ (.inl k)
    · exact I.ok.has _ (.inr k)
  refine wpAny_comprehension_free rfl hs (closure_ok free) ok.kind (fun y hy e => by rw [ok.uniq y hy, e]) (thn (hi.run pins s σ H _ I h) fun xv s1 hx => thn hx fun itv s2 h2 => ?_)
  obtain ⟨it, fp, tn, J, H2, rfl, I2, T, st2, f2, q⟩ := h2
  -- the dict that is made, at D
  obtain ⟨D, hD⟩ : ∃ D : Addr, D = s2.heap.objs.size := ⟨_, rfl⟩
  have D0 : H2 D = none := I2.hok.fresh (Nat.le_of_eq hD.symm)
  obtain ⟨W, ⟨m0, w0⟩, turn⟩ := q D D0
  refine wpAny_newObj_type (newEnv_comp ?_)
  rw [← hD]
  obtain ⟨s3, e3⟩ : ∃ s3 : Shared, s3 = { s2 with heap := s2.heap.push { cls := .type "dict", data := .dict #[] } } := ⟨_, rfl⟩
  have p3 : ∀ b o, s2.heap.get? b = some o → s3.heap.get? b = some o := fun b o e => by rw [e3]; exact Heap.get?_push_of_some _ e
  have I3 : Inv X pins σ (upd H2 D (.dT [])) s3 := by
    rw [e3]
    exact I2.laid (t' := s2.toks) (fun b o e => Heap.get?_push_of_some _ e) (Nat.le_of_eq hD.symm) (by rw [hD]; exact dt_empty s2.heap I2.big)
  have f3 : ∀ b ∈ fp, FpOk X pins (upd H2 D (.dT [])) b ∧ b < s3.heap.objs.size := fun b hb => by
    obtain ⟨o, e, _⟩ := T.obj _ _ st2 b hb
    exact ⟨⟨by rw [upd_ne (by rw [hD]; exact Nat.ne_of_lt (Heap.lt_size e))]; exact (f2 b hb).1, (f2 b hb).2⟩, Heap.lt_size (p3 b o e)⟩
  have I4 := block_start I3 ok hN f3
  have pg := hg s3 (upd H2 D (.dT [])) s3.heap.objs.size (cellsFrom (s3.heap.objs.size + 1) scope.names (cloFrom X.env.cells scope.names [])) fp
  have pt := ht s3 (upd H2 D (.dT [])) s3.heap.objs.size (cellsFrom (s3.heap.objs.size + 1) scope.names (cloFrom X.env.cells scope.names [])) fp
  have pk := hk s3 (upd H2 D (.dT [])) s3.heap.objs.size (cellsFrom (s3.heap.objs.size + 1) scope.names (cloFrom X.env.cells scope.names [])) fp
  have pe := he s3 (upd H2 D (.dT [])) s3.heap.objs.size (cellsFrom (s3.heap.objs.size + 1) scope.names (cloFrom X.env.cells scope.names [])) fp
  rw [← e3]
  show codeAny _ _ (.compStart (.DictComp kx vx [⟨tg, iter, ifs, 0⟩] scope pos) 0 (.ref it) (.ref D) (compEnvC scope (cellsFrom (s3.heap.objs.size + 1) scope.names (cloFrom X.env.cells scope.names [])) s3.heap.objs.size X.env))
    (compPost (model X.prog X.w) X.A X.xe none (EP X pins σ Q) (.ref D) s3.heap.objs.size) { s3 with heap := pushCells (s3.heap.push { cls := .type "dict", data := .dict #[] }) scope.names }
  have nf : ∀ b ∈ fp, (upd H2 D (.dT [])) b = none := fun b hb => (f3 b hb).1.1
  have t4 : tn 0 (pushCells (s3.heap.push { cls := .type "dict", data := .dict #[] }) scope.names) := T.keep _ _ _ st2 fun b _ o e => pushCells_keeps _ _ _ _ (Heap.get?_push_of_some _ (p3 b o e))
  generalize hce : compEnvC scope (cellsFrom (s3.heap.objs.size + 1) scope.names (cloFrom X.env.cells scope.names [])) s3.heap.objs.size X.env = ce at I4 pg pt pk pe ⊢
  have cL : ce.locals = s3.heap.objs.size := by rw [← hce]; rfl
  generalize upd H2 D (.dT []) = H3 at I3 f3 I4 pg pt pk pe nf w0
  generalize hs4 : ({ s3 with heap := pushCells (s3.heap.push { cls := .type "dict", data := .dict #[] }) scope.names } : Shared) = s4 at I4 ⊢
  have t4' : tn 0 s4.heap := by rw [← hs4]; exact t4
  -- the iterator's objects stand outside of the block
  have outer : ∀ {σ' : L2.St} {H' : Hp} {s' : Shared}, Inv (X.blk s3 H3 scope ce fp) [] σ' H' s' → (∀ b ∈ fp, H' b = none) → ∀ b ∈ fp, FpOk (X.blk s3 H3 scope ce fp) [] H' b := fun {σ' H' s'} J n b hb =>
    ⟨n b hb, (J.ok.exf b hb).1, J.ok.exfs b hb, .inl hb, fun x c e => (J.ok.exf b hb).2 x c e, fun p hp => absurd (show p ∈ ([] : List (Addr × Obj)) ++ [] from hp) (by simp)⟩
  have loop : codeAny (model X.prog X.w) X.A (.compLoop (.DictComp kx vx [⟨tg, iter, ifs, 0⟩] scope pos) 0 (.ref it) (.ref D) ce) (compPost (model X.prog X.w) X.A X.xe none (EP X pins σ Q) (.ref D) s3.heap.objs.size) s4 := by
    refine compLoop_anyD (fun n s' => ∃ i H', Inv (X.blk s3 H3 scope ce fp) [] (wipe σ (own.map (·.2))) H' s' ∧ tn i s'.heap ∧ (∀ b ∈ fp, H' b = none) ∧ W i n H') ?_ m0 ⟨0, H3, I4, t4', nf, w0⟩
    rintro n s5 ⟨i, H5, I5, t5, n5, w5⟩
    rcases turn i n H5 w5 with ⟨stop, fin⟩ | ⟨go, Nx, hNx, step⟩
    · -- the walk is at its end: the def goes on
      refine thnF (T.done (X.blk s3 H3 scope ce fp) rfl rfl rfl hc i [] s5 _ H5 (fun _ _ => False) I5 (outer I5 n5) t5 stop) fun r s6 ⟨hr, I6⟩ => ?_
      subst hr
      have I7 : Inv X pins σ H5 s6 := I3.call' (ch := fp) I6.os I6.base I6.hok I6.bare fun b hb => ⟨(f3 b hb).1.2.2.2.1, (f3 b hb).1.2.1, (f3 b hb).1.2.2.2.2.1, (f3 b hb).1.2.2.2.2.2⟩
      have nC : H5 s3.heap.objs.size = none := by rw [← cL]; exact I6.free
      obtain ⟨m, hn, _⟩ := I6.loc
      have hn' : s6.heap.Ns s3.heap.objs.size m := by rw [← cL]; exact hn
      obtain ⟨g0, g1, g2, g3, g4, g5⟩ := I3.fpOk (Nat.le_refl _) nC
      exact ⟨m, hn', fun h'' sb => ⟨.ref D, H5, I7.turned (t' := s6.toks) (fun b o hb e => (sb.2 b hb).trans e) g0 g1 g3 g4 g5, rfl, fin⟩⟩
    · -- one more turn
      refine thnF (T.item (X.blk s3 H3 scope ce fp) rfl rfl rfl hc i [] s5 _ H5 (fun _ _ => False) I5 (outer I5 n5) t5 go) fun r s6 ⟨u, hr, h6⟩ => ?_
      subst hr
      refine thnF h6 fun _ s7 ⟨x, H7, I7, r7, y7, t7, n7⟩ => ?_
      have I7' := I7.pinned (outer I7 n7) (T.obj _ _ t7)
      refine thnF (pg.run _ s7 _ H7 x u _ I7' r7 (step x H7 y7)) fun _ s8 ⟨σ8, H8, I8, w8, q8⟩ => ?_
      refine thnF (pt.run _ s8 σ8 H8 _ I8 q8) fun b s9 ⟨H9, I9, q9⟩ => ?_
      have again : ∀ {s' : Shared} {H' : Hp}, Inv (X.blk s3 H3 scope ce fp) ([] ++ pinsAt fp s7.heap) σ8 H' s' → Nx H' → ∃ m, m < n ∧ ∃ i H', Inv (X.blk s3 H3 scope ce fp) [] (wipe σ (own.map (·.2))) H' s' ∧ tn i s'.heap ∧ (∀ b ∈ fp, H' b = none) ∧ W i m H' := by
        intro s' H' J nx
        obtain ⟨m', hm, w'⟩ := hNx H' nx
        have stay : ∀ b ∈ fp, ∀ o, s7.heap.get? b = some o → s'.heap.get? b = some o ∧ H' b = none := fun b hb o e => by
          have z := J.pin (b, o) (List.mem_append_right _ (List.mem_append_right _ (mem_pinsAt hb e)))
          exact ⟨z.1, z.2.1⟩
        refine ⟨m', hm, i + 1, H', (J.unpinned (pins := [])).weak (by rw [← w8, wipe_length]) (fun j v e => ?_), T.keep _ _ _ t7 fun b hb o e => (stay b hb o e).1, fun b hb => ?_, w'⟩
        · rw [← w8] at e; exact (wipe_some e).1
        · obtain ⟨o, e, _⟩ := T.obj _ _ t7 b hb
          exact (stay b hb o e).2
      cases b with
      | false =>
        simp only [Bool.false_eq_true, if_false] at q9 ⊢
        exact again I9 q9
      | true =>
        simp only [if_true] at q9 ⊢
        refine thnF (pk.run _ s9 σ8 H9 _ I9 q9) fun ky s10 ⟨yk, H10, I10, r10, q10⟩ => ?_
        refine thnF (pe.run _ s10 σ8 H10 _ I10 q10) fun vv s11 ⟨yv, H11, I11, r11, kvs, k, kb, ek, hkb, hD11, hz11, nx⟩ => ?_
        subst ek
        exact put_tup (X := X.blk s3 H3 scope ce fp) hu I11 hD11 hkb hz11 r10 r11 fun s12 I12 => again I12 nx
  exact codeAny_compStart_dict loop (T.self X.A 0 _ _ _ t4' loop)
end
end Bd
namespace Bd
open PySem PySem.Spec PyProof.Rows L2
/-- a list or a tuple is walked -/
def iLt (K : PySem.W.Frag) (tl : TE) : TI := fun σ H R => iList K tl σ H R ∨ iTup K tl σ H R
theorem pi_lt {X : Cx} {tg l : Expr} {tl : TE} (hl : PE X l tl) : PI X tg l (iLt X.K tl) := ⟨fun pins s σ H R I h => h.elim ((pi_list hl).run pins s σ H R I) ((pi_tup hl).run pins s σ H R I)⟩
end Bd

set_option Elab.async false
set_option linter.all false
set_option maxRecDepth 100000
set_option maxHeartbeats 4000000
/-! Bundles: sums of rows, normal forms. -/
namespace Bd
open PySem PySem.Spec PyProof.Rows L2
abbrev Ast := Str × Int
theorem ltSI_anti {p q : Ast} (h1 : ltSI p q = false) (h2 : ltSI q p = false) : p = q := by
  have a := ltSI_no.mp h1
  have b := ltSI_no.mp h2
  have c1 : q.1.cps.toList ≤ p.1.cps.toList := List.not_lt.mp fun z => a (.inl z)
  have c2 : p.1.cps.toList ≤ q.1.cps.toList := List.not_lt.mp fun z => b (.inl z)
  have e : p.1 = q.1 := str_ext (List.le_antisymm c2 c1)
  have d1 : ¬ p.2 < q.2 := fun z => a (.inr ⟨e, z⟩)
  have d2 : ¬ q.2 < p.2 := fun z => b (.inr ⟨e.symm, z⟩)
  exact Prod.ext e (by omega)
/-- the sum of the quantities of an asset -/
def tot : List (Ast × Int) → Ast → Int
  | [], _ => 0
  | e :: r, p => (if e.1 = p then e.2 else 0) + tot r p
theorem tot_append : ∀ (R S : List (Ast × Int)) (p : Ast), tot (R ++ S) p = tot R p + tot S p
  | [], S, p => by simp [tot]
  | e :: R, S, p => by rw [List.cons_append]; simp only [tot]; rw [tot_append R S p]; omega
theorem tot_neg : ∀ (R : List (Ast × Int)) (p : Ast), tot (R.map fun e => (e.1, -e.2)) p = - tot R p
  | [], p => by simp [tot]
  | e :: R, p => by
    rw [List.map_cons]; simp only [tot]; rw [tot_neg R p]
    split <;> omega
theorem tot_none {p : Ast} : ∀ {N : List (Ast × Int)}, p ∉ N.map (·.1) → tot N p = 0
  | [], _ => rfl
  | e :: N, h => by
    simp only [tot]
    rw [if_neg fun z => h (by rw [List.map_cons, z]; exact List.mem_cons_self ..), tot_none fun z => h (by rw [List.map_cons]; exact List.mem_cons_of_mem _ z)]
    omega
theorem tot_at {e : Ast × Int} : ∀ {N : List (Ast × Int)}, (N.map (·.1)).Nodup → e ∈ N → tot N e.1 = e.2
  | [], _, h => absurd h List.not_mem_nil
  | f :: N, hn, h => by
    rw [List.map_cons, List.nodup_cons] at hn
    simp only [tot]
    rcases List.mem_cons.mp h with rfl | h
    · rw [if_pos rfl, tot_none hn.1]; omega
    · rw [if_neg fun z => hn.1 (by rw [z]; exact List.mem_map_of_mem (f := (·.1)) h), tot_at hn.2 h]; omega
/-- rows in normal form -/
structure Nrm (N : List (Ast × Int)) : Prop where
  srt : N.Pairwise fun a b => ltSI b.1 a.1 = false
  nd : (N.map (·.1)).Nodup
  nz : ∀ e ∈ N, e.2 ≠ 0
theorem Nrm.nil : Nrm [] := ⟨List.Pairwise.nil, List.nodup_nil, fun _ h => absurd h List.not_mem_nil⟩
theorem Nrm.tail {e : Ast × Int} {N : List (Ast × Int)} (h : Nrm (e :: N)) : Nrm N := ⟨(List.pairwise_cons.mp h.srt).2, by have := h.nd; rw [List.map_cons, List.nodup_cons] at this; exact this.2, fun x hx => h.nz x (List.mem_cons_of_mem _ hx)⟩
theorem Nrm.key {N : List (Ast × Int)} (h : Nrm N) (p : Ast) : p ∈ N.map (·.1) ↔ tot N p ≠ 0 := by
  constructor
  · intro m
    obtain ⟨e, he, rfl⟩ := List.mem_map.mp m
    rw [tot_at h.nd he]; exact h.nz e he
  · intro m
    rcases Classical.em (p ∈ N.map (·.1)) with z | z
    · exact z
    · exact absurd (tot_none z) m
/-- one normal form for one sum -/
theorem Nrm.uniq : ∀ {N M : List (Ast × Int)}, Nrm N → Nrm M → (∀ p, tot N p = tot M p) → N = M
  | [], [], _, _, _ => rfl
  | [], e :: M, _, hm, h => absurd (h e.1) (by
      rw [tot_at hm.nd (List.mem_cons_self ..)]
      exact fun z => hm.nz e (List.mem_cons_self ..) z.symm)
  | e :: N, [], hn, _, h => absurd (h e.1) (by
      rw [tot_at hn.nd (List.mem_cons_self ..)]
      exact fun z => hn.nz e (List.mem_cons_self ..) z)
  | e :: N, f :: M, hn, hm, h => by
    have k1 : e.1 ∈ (f :: M).map (·.1) := (hm.key _).mpr (by rw [← h]; exact (hn.key _).mp (by rw [List.map_cons]; exact List.mem_cons_self ..))
    have k2 : f.1 ∈ (e :: N).map (·.1) := (hn.key _).mpr (by rw [h]; exact (hm.key _).mp (by rw [List.map_cons]; exact List.mem_cons_self ..))
    have e1 : e.1 = f.1 := by
      rw [List.map_cons] at k1 k2
      rcases List.mem_cons.mp k1 with z | z
      · exact z
      · rcases List.mem_cons.mp k2 with y | y
        · exact y.symm
        · obtain ⟨g, hg, eg⟩ := List.mem_map.mp z
          obtain ⟨g2, hg2, eg2⟩ := List.mem_map.mp y
          have q1 := (List.pairwise_cons.mp hm.srt).1 g hg
          have q2 := (List.pairwise_cons.mp hn.srt).1 g2 hg2
          rw [eg] at q1
          rw [eg2] at q2
          exact ltSI_anti q1 q2
    have e2 : e.2 = f.2 := by
      have a := tot_at hn.nd (List.mem_cons_self (a := e) (l := N))
      have b := tot_at hm.nd (List.mem_cons_self (a := f) (l := M))
      rw [h, e1] at a
      omega
    have ef : e = f := Prod.ext e1 e2
    subst ef
    rw [Nrm.uniq hn.tail hm.tail fun p => by
      have := h p
      simp only [tot] at this
      omega]
/-! ### dicts of sums -/
def eD (m : List (Ast × V)) : List (List Key × V) := m.map fun e => (eK e.1, e.2)
theorem eK_inj {p q : Ast} (h : eK p = eK q) : p = q := by
  have h1 := (List.cons.inj h).1
  have h2 := (List.cons.inj (List.cons.inj h).2).1
  exact Prod.ext (Sum.inr.inj h1) (Sum.inl.inj h2)
theorem valV_eD (p : Ast) : ∀ m : List (Ast × V), valV (eD m) (eK p) = valV m p
  | [] => rfl
  | e :: m => by
    by_cases h : e.1 = p
    · rw [valV_pos h, show eD (e :: m) = (eK e.1, e.2) :: eD m from rfl, valV_pos (p := (eK e.1, e.2)) (by rw [h])]
    · rw [valV_neg h, show eD (e :: m) = (eK e.1, e.2) :: eD m from rfl, valV_neg (p := (eK e.1, e.2)) (fun z => h (eK_inj z)), valV_eD p m]
theorem putK_eD (m : List (Ast × V)) (p : Ast) (v : V) : putK (eD m) (eK p) v = eD (putK m p v) := by
  unfold putK
  rw [valV_any, valV_any, valV_eD]
  split
  · unfold eD
    rw [List.map_map, List.map_map]
    refine List.map_congr_left fun e _ => ?_
    show (if eK e.1 = eK p then (eK e.1, v) else (eK e.1, e.2)) = _
    by_cases h : e.1 = p
    · rw [if_pos (by rw [h])]
      show _ = (fun e : Ast × V => (eK e.1, e.2)) (if e.1 = p then (e.1, v) else e)
      rw [if_pos h]
    · rw [if_neg fun z => h (eK_inj z)]
      show _ = (fun e : Ast × V => (eK e.1, e.2)) (if e.1 = p then (e.1, v) else e)
      rw [if_neg h]
  · unfold eD; rw [List.map_append]; rfl
theorem valV_key {m : List (Ast × V)} {p : Ast} : (valV m p).isSome = true ↔ p ∈ m.map (·.1) := by
  rw [← valV_any, List.any_eq_true]
  constructor
  · rintro ⟨e, he, h⟩
    rw [← of_decide_eq_true h]; exact List.mem_map_of_mem (f := (·.1)) he
  · intro h
    obtain ⟨e, he, h⟩ := List.mem_map.mp h
    exact ⟨e, he, decide_eq_true h⟩
theorem nodup_putK {m : List (Ast × V)} {p : Ast} {v : V} (h : (m.map (·.1)).Nodup) : ((putK m p v).map (·.1)).Nodup := by
  unfold putK
  split
  · rw [List.map_map]
    have : ((fun x : Ast × V => x.1) ∘ fun kv => if kv.1 = p then (kv.1, v) else kv) = fun x => x.1 := by
      funext x; show (if x.1 = p then (x.1, v) else x).1 = x.1; split <;> rfl
    rw [this]; exact h
  · rename_i hn
    rw [List.map_append, List.nodup_append]
    refine ⟨h, by simp, fun a ha b hb => ?_⟩
    have e : b = p := by simpa using hb
    rw [e]
    intro z
    rw [z] at ha
    rw [valV_any] at hn
    exact hn (valV_key.mpr ha)
/-- the sums so far -/
structure Sums (m : List (Ast × V)) (R : List (Ast × Int)) : Prop where
  nd : (m.map (·.1)).Nodup
  val : ∀ p, valV m p = if p ∈ R.map (·.1) then some (.int (tot R p)) else none
theorem Sums.nil : Sums [] [] := ⟨List.nodup_nil, fun p => rfl⟩
theorem Sums.get {m : List (Ast × V)} {R : List (Ast × Int)} (h : Sums m R) (p : Ast) : (valV m p).getD (.int 0) = .int (tot R p) := by
  rw [h.val]
  split
  · rfl
  · rename_i z; rw [tot_none z]; rfl
theorem Sums.put {m : List (Ast × V)} {R : List (Ast × Int)} (h : Sums m R) (e : Ast × Int) : Sums (putK m e.1 (.int (tot R e.1 + e.2))) (R ++ [e]) := by
  refine ⟨nodup_putK h.nd, fun p => ?_⟩
  rw [valV_put, h.val, tot_append]
  simp only [tot, List.map_append, List.map_cons, List.map_nil, List.mem_append, List.mem_singleton]
  by_cases q : p = e.1
  · subst q
    simp
  · have q' : ¬ e.1 = p := fun z => q z.symm
    rw [if_neg q, if_neg q']
    by_cases y : p ∈ R.map (·.1)
    · have y' : p ∈ R.map (·.1) ∨ p = e.1 := .inl y
      rw [if_pos y, if_pos y']; simp
    · have y' : ¬ (p ∈ R.map (·.1) ∨ p = e.1) := fun z => z.elim y q
      rw [if_neg y, if_neg y']
theorem Sums.keys {m : List (Ast × V)} {R : List (Ast × Int)} (h : Sums m R) (p : Ast) : p ∈ m.map (·.1) ↔ p ∈ R.map (·.1) := by
  rw [← valV_key, h.val]
  split <;> simp [*]
/-- what the sorted keys give -/
def nfOf (R : List (Ast × Int)) (S : List Ast) : List (Ast × Int) := (S.filter fun p => decide (tot R p ≠ 0)).map fun p => (p, tot R p)
theorem nf_nrm {R : List (Ast × Int)} {S : List Ast} (hs : SrtO.Srtd ltSI S) (hn : S.Nodup) : Nrm (nfOf R S) := by
  refine ⟨?_, ?_, ?_⟩
  · exact List.pairwise_map.mpr (List.Pairwise.filter _ hs)
  · unfold nfOf; rw [List.map_map]
    have : ((fun x : Ast × Int => x.1) ∘ fun p => (p, tot R p)) = id := rfl
    rw [this, List.map_id]
    exact List.Pairwise.filter _ hn
  · intro e he
    obtain ⟨p, hp, rfl⟩ := List.mem_map.mp he
    exact of_decide_eq_true (List.mem_filter.mp hp).2
theorem nf_tot {R : List (Ast × Int)} {S : List Ast} (hs : SrtO.Srtd ltSI S) (hn : S.Nodup) (hk : ∀ p, p ∈ R.map (·.1) → p ∈ S) (p : Ast) : tot (nfOf R S) p = tot R p := by
  by_cases h : tot R p = 0
  · rw [h]
    refine tot_none fun z => ?_
    obtain ⟨e, he, rfl⟩ := List.mem_map.mp z
    obtain ⟨q, hq, rfl⟩ := List.mem_map.mp he
    exact of_decide_eq_true (List.mem_filter.mp hq).2 h
  · have m : p ∈ S := hk p (by
      rcases Classical.em (p ∈ R.map (·.1)) with z | z
      · exact z
      · exact absurd (tot_none z) h)
    exact tot_at (nf_nrm hs hn).nd (e := (p, tot R p)) (List.mem_map.mpr ⟨p, List.mem_filter.mpr ⟨m, decide_eq_true h⟩, rfl⟩)
end Bd
namespace Bd
open PySem PySem.Spec PyProof.Rows L2
/-- rows as they stand in the heap -/
inductive RowL (H : Hp) : List V → List (Ast × Int) → Prop
  | nil : RowL H [] []
  | cons {z kq : Addr} {xs : List V} {p : Ast} {q : Int} {R : List (Ast × Int)} (h1 : H z = some (.tup [.ref kq, .int q])) (h2 : H kq = some (.tup [.str p.1, .int p.2])) (r : RowL H xs R) : RowL H (.ref z :: xs) ((p, q) :: R)
theorem RowL.keepT {H H' : Hp} (e : ∀ q t, H q = some (.tup t) → H' q = some (.tup t)) {xs : List V} {R : List (Ast × Int)} (h : RowL H xs R) : RowL H' xs R := by
  induction h with
  | nil => exact .nil
  | cons h1 h2 _ ih => exact .cons (e _ _ h1) (e _ _ h2) ih
theorem RowL.keep {H H' : Hp} (e : Same H H') {xs : List V} {R : List (Ast × Int)} (h : RowL H xs R) : RowL H' xs R := h.keepT fun _ _ => e _ _
theorem RowL.len {H : Hp} {xs : List V} {R : List (Ast × Int)} (h : RowL H xs R) : xs.length = R.length := by
  induction h with
  | nil => rfl
  | cons _ _ _ ih => exact congrArg Nat.succ ih
theorem RowL.append {H : Hp} {xs ys : List V} {R S : List (Ast × Int)} (h : RowL H xs R) (k : RowL H ys S) : RowL H (xs ++ ys) (R ++ S) := by
  induction h with
  | nil => exact k
  | cons h1 h2 _ ih => exact .cons h1 h2 ih
theorem RowL.get {H : Hp} {xs : List V} {R : List (Ast × Int)} (h : RowL H xs R) : ∀ {i : Nat} {x : V}, xs[i]? = some x → ∃ z kq p q, x = V.ref z ∧ R[i]? = some (p, q) ∧ H z = some (.tup [.ref kq, .int q]) ∧ H kq = some (.tup [.str p.1, .int p.2]) := by
  induction h with
  | nil => intro i x e; cases e
  | @cons z kq xs p q R h1 h2 _ ih =>
    intro i x e
    cases i with
    | zero => cases e; exact ⟨z, kq, p, q, rfl, rfl, h1, h2⟩
    | succ i => exact ih e
def encR (e : Ast × Int) : PyData := .tuple [.tuple [.str e.1.1, .int e.1.2], .int e.2]
theorem RowL.dp {K : PySem.W.Frag} {H : Hp} {xs : List V} {R : List (Ast × Int)} (h : RowL H xs R) : DpAll K H xs (R.map encR) := by
  induction h with
  | nil => exact .nil
  | cons h1 h2 _ ih => exact .cons (.tup (SqT.of h1) (.cons (.tup (SqT.of h2) (.cons (.str _) (.cons (.int _) .nil))) (.cons (.int _) .nil))) ih
theorem RowL.zs {H : Hp} : ∀ {zs : List (Addr × (Ast × V))} {R : List (Ast × Int)}, zs.map (·.2) = R.map (fun e => (e.1, V.int e.2)) →
    (∀ z ∈ zs, ∃ kq, H z.1 = some (.tup [.ref kq, z.2.2]) ∧ H kq = some (.tup [.str z.2.1.1, .int z.2.1.2])) → RowL H (zs.map fun z => V.ref z.1) R
  | [], [], _, _ => .nil
  | [], _ :: _, e, _ => by cases e
  | _ :: _, [], e, _ => by cases e
  | z :: zs, e :: R, h, k => by
    rw [List.map_cons, List.map_cons] at h
    have h1 := (List.cons.inj h).1
    obtain ⟨kq, a, b⟩ := k z (List.mem_cons_self ..)
    rw [h1] at a b
    exact .cons a b (RowL.zs (List.cons.inj h).2 fun y hy => k y (List.mem_cons_of_mem _ hy))
/-- the bundle at b has the rows N -/
def BdAt (K : PySem.W.Frag) (H : Hp) (b : Addr) (N : List (Ast × Int)) : Prop := ∃ dx r d xs, H b = some (.ins (He.ga K "Bundle") dx [("_quantities", .ref d), ("rows", .ref r)]) ∧ H r = some (.tup xs) ∧ RowL H xs N ∧ H d = some (.dT (eD (N.map fun e => (e.1, V.int e.2)))) ∧ Nrm N
theorem BdAt.nrm {K : PySem.W.Frag} {H : Hp} {b : Addr} {N : List (Ast × Int)} (h : BdAt K H b N) : Nrm N := by
  obtain ⟨_, _, _, _, _, _, _, _, h⟩ := h
  exact h
theorem Nrm.neg {N : List (Ast × Int)} (h : Nrm N) : Nrm (N.map fun e => (e.1, -e.2)) := by
  refine ⟨List.pairwise_map.mpr h.srt, ?_, ?_⟩
  · rw [List.map_map]; exact h.nd
  · intro e he
    obtain ⟨f, hf, rfl⟩ := List.mem_map.mp he
    have := h.nz f hf
    show -f.2 ≠ 0
    omega
theorem BdAt.keep {K : PySem.W.Frag} {H H' : Hp} {b : Addr} {N : List (Ast × Int)} (e : Same H H') (h : BdAt K H b N) : BdAt K H' b N := by
  obtain ⟨dx, r, d, xs, h1, h2, h3, h4, h5⟩ := h
  exact ⟨dx, r, d, xs, e _ _ h1, e _ _ h2, h3.keep e, e _ _ h4, h5⟩
/-- what is told of the class -/
structure BFacts (K : PySem.W.Frag) (mg : Str → Option Value) : Prop where
  m : mg "Bundle" = some (.ref (He.ga K "Bundle"))
  cls : Cls K (He.ga K "Bundle")
  n1 : NoAttr K (He.ga K "Bundle") "rows"
  n2 : NoAttr K (He.ga K "Bundle") "_quantities"
  mkr : Mk K (He.ga K "Bundle") (He.fAd K ("Bundle", some "__init__"))
  first : PySem.W.selfFirst K (He.ga K "Bundle") = true
  at_Bundle___add : PySem.W.findIn K (.ref (He.ga K "Bundle")) "__add__" = some (some (.ref (He.fAd K ("Bundle", some "__add__"))))
  fn_Bundle___add : PySem.W.isFn K (.ref (He.fAd K ("Bundle", some "__add__"))) = true
  at_Bundle___sub : PySem.W.findIn K (.ref (He.ga K "Bundle")) "__sub__" = some (some (.ref (He.fAd K ("Bundle", some "__sub__"))))
  fn_Bundle___sub : PySem.W.isFn K (.ref (He.fAd K ("Bundle", some "__sub__"))) = true
  at_Bundle___neg : PySem.W.findIn K (.ref (He.ga K "Bundle")) "__neg__" = some (some (.ref (He.fAd K ("Bundle", some "__neg__"))))
  fn_Bundle___neg : PySem.W.isFn K (.ref (He.fAd K ("Bundle", some "__neg__"))) = true
end Bd
namespace Rb
open PySem PySem.Spec PyProof.Rows L2 Bd
section
variable {K : PySem.W.Frag} {σ : L2.St} {H : Hp} {n b c : L2.St → Hp → Prop} {r : VK} {Q : VK} {td ty tv tx ta te : TE}
theorem dnewT (k : ∀ p, H p = none → Q (.ref p) (upd H p (.dT []))) : tDNewT σ H Q := k
theorem dget2 (k : td σ H fun x H1 => ∃ a, x = .ref a ∧ IsD H1 a ∧ ty σ H1 fun y H2 => tx σ H2 fun z H3 => ∃ o, DGet H3 a y o ∧ Q (o.getD z) H3) : tDGet2 td ty tx σ H Q := k
theorem dget (k : td σ H fun x H1 => ty σ H1 fun y H2 => ∃ a v, x = .ref a ∧ DGet H2 a y (some v) ∧ Q v H2) : tDGet td ty σ H Q := k
theorem isD {a : Addr} {kvs : List (List Key × V)} {P : Addr → Prop} (h : H a = some (.dT kvs)) (k : P a) : ∃ a', V.ref a = .ref a' ∧ IsD H a' ∧ P a' := ⟨a, rfl, .inr ⟨kvs, .inl h⟩, k⟩
theorem dgetO {a z : Addr} {m : List (Ast × V)} {p : Ast} {P : Option V → Prop} (h : H a = some (.dT (eD m))) (hz : H z = some (.tup [.str p.1, .int p.2])) (k : P (valV m p)) : ∃ o, DGet H a (.ref z) o ∧ P o :=
  ⟨_, DGet.t (k := eK p) h hz, by rw [valV_eD]; exact k⟩
theorem dgetS {a z : Addr} {m : List (Ast × V)} {p : Ast} {v : V} {P : V → Prop} (h : H a = some (.dT (eD m))) (hz : H z = some (.tup [.str p.1, .int p.2])) (e : valV m p = some v) (k : P v) : ∃ a' v', V.ref a = .ref a' ∧ DGet H a' (.ref z) (some v') ∧ P v' :=
  ⟨a, v, rfl, by rw [← e, ← valV_eD]; exact DGet.t (k := eK p) h hz, k⟩
theorem dput (k : tv σ H fun v H1 => td σ H1 fun x H2 => ty σ H2 fun y H3 => ∃ a H4, x = .ref a ∧ DPut H3 a y v H4 ∧ n σ H4) : sDPut td ty tv ⟨n, r, b, c⟩ σ H := k
theorem dputT {a z : Addr} {m : List (Ast × V)} {p : Ast} {v : V} {P : Hp → Prop} (h : H a = some (.dT (eD m))) (hz : H z = some (.tup [.str p.1, .int p.2])) (hl : m.length < 100000) (k : P (upd H a (.dT (eD (putK m p v))))) : ∃ a' H4, V.ref a = .ref a' ∧ DPut H a' (.ref z) v H4 ∧ P H4 :=
  ⟨a, _, rfl, DPut.t (k := eK p) h hz (Rd.smallT (by unfold eD; rw [List.length_map]; exact hl)), by rw [putK_eD]; exact k⟩
theorem pair2 {z : Addr} {x y : V} {i j : Nat} {Qd : L2.St → Hp → Prop} (h : SqT K H z [x, y]) (k : Qd ((σ.set i (some x)).set j (some y)) H) : gTup K 2 (gCons (gName i) (gCons (gName j) gNil)) (.ref z) σ H Qd :=
  ⟨z, _, rfl, h, rfl, x, [y], rfl, y, [], rfl, rfl, k⟩
/-- for .. in a list or a tuple, by its name -/
theorem forLt {i₀ : Nat} {H0 : Hp} {a : Addr} {xs : List V} {g : TG} {tb : TS} (Pv : Nat → L2.St → Hp → Prop) (hv : σ[i₀]? = some (some (.ref a))) (h : SqL K H0 a xs ∨ SqT K H0 a xs) (e0 : Same H0 H) (h0 : Pv 0 σ H)
    (hl : ∀ i σ H', i ≤ xs.length → Pv i σ H' → Same H0 H') (hs : ∀ (i : Nat) (x : V) (σ' : L2.St) (H' : Hp), xs[i]? = some x → Pv i σ' H' → g x σ' H' fun σ2 H2 => tb ⟨Pv (i + 1), r, n, Pv (i + 1)⟩ σ2 H2)
    (hd : ∀ σ' H', Pv xs.length σ' H' → n σ' H') : tFor (iLt K (tVar i₀)) g tb ⟨n, r, b, c⟩ σ H := by
  rcases h with h | h
  · exact .inl ⟨.ref a, hv, a, rfl, ⟨_, e0.seq h⟩, for_list Pv h0 (fun i σ' H' hi p => (hl i σ' H' hi p).seq h) hs hd⟩
  · exact .inr ⟨.ref a, hv, a, rfl, ⟨_, Rd.same_tup e0 h⟩, for_tup Pv h0 (fun i σ' H' hi p => Rd.same_tup (hl i σ' H' hi p) h) hs hd⟩
theorem fld {f : Str} (k : ta σ H fun x H1 => ∃ a C dx fs v, x = .ref a ∧ H1 a = some (.ins C dx fs) ∧ Cls K C ∧ NoAttr K C f ∧ fs.lookup f = some v ∧ Q v H1) : tFld K ta f σ H Q := k
theorem sfld {f : Str} (k : tv σ H fun y H1 => ta σ H1 fun x H2 => ∃ a C dx fs, x = .ref a ∧ H2 a = some (.ins C dx fs) ∧ Cls K C ∧ NoAttr K C f ∧ fs.length < 1000 ∧ n σ (upd H2 a (.ins C dx (putF f y fs)))) : sFld K ta tv f ⟨n, r, b, c⟩ σ H := k
theorem dcT {wi : TI} {g : TG} {tt : TT} {tk : TE} {vs : List Nat} (k : wi σ H fun J H1 => DcJ g tt tk tv vs σ Q J H1) : tDcT wi g tt tk tv vs σ H Q := k
/-- a dict comprehension over a list with a test -/
theorem dcL {a : Addr} {xs : List V} {g : TG} {tt : TT} {tk : TE} {vs : List Nat} {H1 : Hp} (Pv : Addr → Nat → Hp → Prop) (h : SqL K H1 a xs) (h0 : ∀ D, H1 D = none → Pv D 0 (upd H1 D (.dT [])))
    (hl : ∀ D i H, i ≤ xs.length → Pv D i H → SqL K H a xs)
    (hs : ∀ D i x H, H1 D = none → xs[i]? = some x → Pv D i H → g x (wipe σ vs) H fun σ2 H2 => wipe σ2 vs = wipe σ vs ∧ tt σ2 H2 fun t H3 =>
      if t = true then tk σ2 H3 fun y H4 => tv σ2 H4 fun z H5 => ∃ kvs k b, y = .ref b ∧ H5 b = some (.tup (k.map kV)) ∧ H5 D = some (.dT kvs) ∧ kvs.length < sizeLine ∧ Pv D (i + 1) (upd H5 D (.dT (putK kvs k z))) else Pv D (i + 1) H3)
    (hd : ∀ D H, H1 D = none → Pv D xs.length H → Q (.ref D) H) : ∃ p, V.ref a = .ref p ∧ (∃ ys, SqL K H1 p ys) ∧ DcJ g tt tk tv vs σ Q (Itl K p) H1 := by
  refine ⟨a, rfl, ⟨_, h⟩, fun D hD => ⟨fun i m H => m = xs.length - i ∧ i ≤ xs.length ∧ Pv D i H, ⟨xs.length, by simp, Nat.zero_le _, h0 D hD⟩, ?_⟩⟩
  rintro i m H ⟨rfl, hi, p⟩
  have q := hl D i H hi p
  by_cases hlt : i < xs.length
  · refine .inr ⟨⟨xs, xs[i], q, by simp [hlt]⟩, Pv D (i + 1), fun H' p' => ⟨xs.length - (i + 1), by omega, rfl, hlt, p'⟩, fun x H' y => ?_⟩
    obtain ⟨e, y⟩ := y
    subst e
    exact hs D i x _ hD (y xs q) p
  · have e : i = xs.length := by omega
    subst e
    exact .inl ⟨⟨xs, q, Nat.le_refl _⟩, hd D H hD p⟩
end
end Rb
namespace Bd
open PySem PySem.Spec PyProof.Rows L2
theorem nfOf_yes {R : List (Ast × Int)} {S : List Ast} {p : Ast} (h : tot R p ≠ 0) : nfOf R (S ++ [p]) = nfOf R S ++ [(p, tot R p)] := by
  unfold nfOf
  have e : List.filter (fun p => decide (tot R p ≠ 0)) [p] = [p] := by simp [h]
  rw [List.filter_append, List.map_append, e]
  rfl
theorem nfOf_no {R : List (Ast × Int)} {S : List Ast} {p : Ast} (h : tot R p = 0) : nfOf R (S ++ [p]) = nfOf R S := by
  unfold nfOf
  have e : List.filter (fun p => decide (tot R p ≠ 0)) [p] = [] := by simp [h]
  rw [List.filter_append, List.map_append, e]
  simp
theorem nfOf_mem {R : List (Ast × Int)} {S : List Ast} {p : Ast} (h : p ∈ (nfOf R S).map (·.1)) : p ∈ S := by
  obtain ⟨e, he, rfl⟩ := List.mem_map.mp h
  obtain ⟨q, hq, rfl⟩ := List.mem_map.mp he
  exact (List.mem_filter.mp hq).1
theorem nfOf_len (R : List (Ast × Int)) (S : List Ast) : (nfOf R S).length ≤ S.length := by
  unfold nfOf; rw [List.length_map]; exact List.length_filter_le _ _
/-- the next asset in order is put behind -/
theorem put_nf {R : List (Ast × Int)} {S : List Ast} {p : Ast} (h : tot R p ≠ 0) (hp : p ∉ S) : putK ((nfOf R S).map fun e => (e.1, V.int e.2)) p (.int (tot R p)) = (nfOf R (S ++ [p])).map fun e => (e.1, V.int e.2) := by
  rw [putK_new, nfOf_yes h, List.map_append]
  · rfl
  · cases q : valV ((nfOf R S).map fun e => (e.1, V.int e.2)) p with
    | none => rfl
    | some v =>
      have : p ∈ ((nfOf R S).map fun e => (e.1, V.int e.2)).map (·.1) := valV_key.mp (by rw [q]; rfl)
      rw [List.map_map] at this
      exact absurd (nfOf_mem this) hp
end Bd
namespace Rb
open PySem PySem.Spec PyProof.Rows L2 Bd
section
variable {K : PySem.W.Frag} {σ : L2.St} {H : Hp} {Q : VK} {E : XK}
theorem make {C : Addr} {sp : Sp} {dvs : List V} {t : TA} (k : t σ H fun vs H1 => ∀ x dx, H1 x = none → H1 dx = none → dx ≠ x → sp (.ref x :: (vs ++ dvs)) (upd (upd H1 dx (.own x)) x (.ins C dx [])) (fun v H2 => v = .non ∧ Q (.ref x) H2) E) : tMake C sp dvs E t σ H Q := k
theorem catA {a b : Addr} {xs ys : List V} (ha : SqT K H a xs) (hb : SqT K H b ys) (hl : xs.length + ys.length ≤ 100000) (k : ∀ p H', Same H H' → SqT K H' p (xs ++ ys) → Q (.ref p) H') : rCatA K (.ref a) (.ref b) H Q :=
  ⟨a, b, xs, ys, rfl, rfl, ha, hb, Rd.small hl, fun e => k b H (Same.refl H) (by rw [e]; exact hb), fun _ e => k a H (Same.refl H) (by rw [e, List.append_nil]; exact ha), fun _ _ p hp => k p _ (Rd.same_new hp) Rd.slT⟩
theorem own2 {C a b : Addr} {sp : Sp} (ha : ∃ dx fs, H a = some (.ins C dx fs)) (hb : ∃ dx fs, H b = some (.ins C dx fs)) (k : sp [.ref a, .ref b] H Q E) : rOwn2 C sp E (.ref a) (.ref b) H Q := by
  obtain ⟨dx, fs, ha⟩ := ha
  obtain ⟨dy, gs, hb⟩ := hb
  exact ⟨a, b, dx, dy, fs, gs, rfl, rfl, ha, hb, k⟩
theorem own1 {C a : Addr} {sp : Sp} (ha : ∃ dx fs, H a = some (.ins C dx fs)) (k : sp [.ref a] H Q E) : rOwn1 C sp E (.ref a) H Q := by
  obtain ⟨dx, fs, ha⟩ := ha
  exact ⟨a, dx, fs, rfl, ha, k⟩
theorem insOf {b : Addr} {N : List (Ast × Int)} (h : BdAt K H b N) : ∃ dx fs, H b = some (.ins (He.ga K "Bundle") dx fs) := by
  obtain ⟨dx, r, d, xs, h1, _⟩ := h
  exact ⟨dx, _, h1⟩
/-- b.rows where b's value is already there -/
theorem rowsP {P : V → Prop} {mg : Str → Option Value} {b : Addr} {N : List (Ast × Int)} (Bf : BFacts K mg) (h : BdAt K H b N) (k : ∀ r xs, H r = some (.tup xs) → RowL H xs N → P (.ref r)) :
    ∃ a C dx fs v, V.ref b = .ref a ∧ H a = some (.ins C dx fs) ∧ Cls K C ∧ NoAttr K C ("rows" : Str) ∧ fs.lookup ("rows" : Str) = some v ∧ P v := by
  obtain ⟨dx, r, d, xs, h1, h2, h3, h4, _⟩ := h
  exact ⟨b, _, dx, _, .ref r, rfl, h1, Bf.cls, Bf.n1, rfl, k r xs h2 h3⟩
end
end Rb
namespace Rb
open PySem PySem.Spec PyProof.Rows L2 Bd
section
variable {K : PySem.W.Frag} {σ : L2.St} {H : Hp} {Q : VK}
/-- [.. for target in a tuple] without a test -/
theorem lcT {a : Addr} {xs : List V} {g : TG} {te : TE} {vs : List Nat} (Pv : Addr → Nat → List V → Hp → Prop) (h : SqT K H a xs) (h0 : ∀ D H', H D = none → Same H H' → H' D = some (.lst []) → Pv D 0 [] H')
    (hs : ∀ (i : Nat) (x : V) (acc : List V) (D : Addr) (H' : Hp), H D = none → Same H H' → xs[i]? = some x → acc.length = i → H' D = some (.lst acc) → Pv D i acc H' → g x (wipe σ vs) H' fun σ2 H2 => wipe σ2 vs = wipe σ vs ∧ te σ2 H2 (Rd.LcE H D i Pv))
    (hd : ∀ D acc H', H D = none → Same H H' → H' D = some (.lst acc) → acc.length = xs.length → Pv D xs.length acc H' → Q (.ref D) H') :
    ∃ p, V.ref a = .ref p ∧ (∃ ys, SqT K H p ys) ∧ Rd.LcJ g tYes te vs σ Q (Itt K p) H := by
  refine ⟨a, rfl, ⟨_, h⟩, fun D hD => ?_⟩
  refine lc_tup (xs := xs) (fun i H' => ∃ acc, Same H H' ∧ acc.length = i ∧ H' D = some (.lst acc) ∧ Pv D i acc H') ⟨[], Rd.same_new hD, rfl, upd_same, h0 D _ hD (Rd.same_new hD) upd_same⟩ (fun i H' _ ⟨acc, s, _⟩ => Rd.same_tup s h) ?_ ?_
  · rintro i x H' hi ⟨acc, s, e, hD', p⟩
    exact hs i x acc D H' hD s hi e hD' p
  · rintro H' ⟨acc, s, e, hD', p⟩
    exact hd D acc H' hD s hD' e p
theorem lcL2 {a : Addr} {xs : List V} {g : TG} {te : TE} {vs : List Nat} (Pv : Addr → Nat → List V → Hp → Prop) (h : SqL K H a xs) (h0 : ∀ D H', H D = none → Same H H' → H' D = some (.lst []) → Pv D 0 [] H')
    (hs : ∀ (i : Nat) (x : V) (acc : List V) (D : Addr) (H' : Hp), H D = none → Same H H' → xs[i]? = some x → acc.length = i → H' D = some (.lst acc) → Pv D i acc H' → g x (wipe σ vs) H' fun σ2 H2 => wipe σ2 vs = wipe σ vs ∧ te σ2 H2 (Rd.LcE H D i Pv))
    (hd : ∀ D acc H', H D = none → Same H H' → H' D = some (.lst acc) → acc.length = xs.length → Pv D xs.length acc H' → Q (.ref D) H') :
    ∃ p, V.ref a = .ref p ∧ (∃ ys, SqL K H p ys) ∧ Rd.LcJ g tYes te vs σ Q (Itl K p) H := by
  refine ⟨a, rfl, ⟨_, h⟩, fun D hD => ?_⟩
  refine lc_list (xs := xs) (fun i H' => ∃ acc, Same H H' ∧ acc.length = i ∧ H' D = some (.lst acc) ∧ Pv D i acc H') ⟨[], Rd.same_new hD, rfl, upd_same, h0 D _ hD (Rd.same_new hD) upd_same⟩ (fun i H' _ ⟨acc, s, _⟩ => s.seq h) ?_ ?_
  · rintro i x H' hi ⟨acc, s, e, hD', p⟩
    exact hs i x acc D H' hD s hi e hD' p
  · rintro H' ⟨acc, s, e, hD', p⟩
    exact hd D acc H' hD s hD' e p
end
end Rb
namespace Bd
open PySem PySem.Spec PyProof.Rows L2
section
variable {X : Cx}
/-- sorted(xs), xs a list of assets -/
def rSortedSI (K : PySem.W.Frag) : List V → Hp → VK → Prop := fun xs H Q => ∃ (a : Addr) (ps0 : List (Addr × (Str × Int))), xs = [.ref a] ∧ SqL K H a (ps0.map fun z => V.ref z.1) ∧ AsAt H ps0 ∧
  ∀ (ps : List (Addr × (Str × Int))) (p : Addr), ps.Perm ps0 → SrtO.Srtd ltSI (ps.map (·.2)) → H p = none → Q (.ref p) (upd H p (.lst (ps.map fun z => V.ref z.1)))
theorem cr_sortedSI : CallR X (.builtin "sorted") (rSortedSI X.K) := by
  intro pins s σ H xs us Q I r q
  obtain ⟨a, ps0, rfl, hs, hA, q⟩ := q
  obtain ⟨its, rv, hl, hz⟩ := I.list hs
  obtain ⟨u, rfl, ru⟩ := vals1 r
  obtain rfl : u = Value.ref a := ru
  have eb : its = ps0.map fun z => Value.ref z.1 := by
    have h1 : ∀ {ps : List (Addr × (Str × Int))} {us : List Value}, Vals (ps.map fun z => V.ref z.1) us → us = ps.map fun z => Value.ref z.1 := by
      intro ps
      induction ps with
      | nil => intro us h; cases h; rfl
      | cons z ps ih =>
        intro us h
        rw [List.map_cons] at h
        cases h with
        | cons h t => rw [ih t, List.map_cons, show _ = Value.ref z.1 from h]
    exact h1 rv
  have hsi : ∀ v ∈ its, IsSI s.heap v (siOf s.heap v) := fun v hv => by
    rw [eb] at hv
    obtain ⟨zz, hz, rfl⟩ := List.mem_map.mp hv
    have q := isSI_of I.hok (hA zz hz)
    rw [q.of]; exact q
  refine SrtO.sorted_ord (ltv := fun v u => ltSI (siOf s.heap v) (siOf s.heap u)) (swo_SI (siOf s.heap)) hl.isList (by rw [← rv.length]; exact hz) (fun h2 h₁ a' ha' kk => ?_) fun out h1 h2 => ?_
  · refine si_sortable (s := { s with heap := h₁ }) (by omega) (fun v hm => (hsi v hm).keeps fun b o e _ => (kk b o e).2) fun o e => ?_
    have e' : some o = some (seqObj "list" its.toArray 0) := e.symm.trans ha'
    cases e'
    intro c
    exact absurd (Value.type.inj c) (by decide)
  · obtain ⟨ps, b1, b2⟩ := perm_lift (fun z : Addr × (Str × Int) => Value.ref z.1) h2.perm ps0 eb.symm
    have hk2 : ∀ z ∈ ps, siOf s.heap (Value.ref z.1) = z.2 := fun z hz => (isSI_of I.hok (hA z (b1.mem_iff.mp hz))).of
    have hsr : SrtO.Srtd ltSI (ps.map (·.2)) := by
      rw [← b2] at h1
      have h1' := List.pairwise_map.mp h1
      refine List.pairwise_map.mpr (h1'.imp_of_mem fun {x y} hx hy hh => ?_)
      have hh' : ltSI (siOf s.heap (Value.ref y.1)) (siOf s.heap (Value.ref x.1)) = false := hh
      rw [hk2 x hx, hk2 y hy] at hh'
      exact hh'
    have hd : s.heap.objs.size ≤ s.heap.objs.size + 1 := Nat.le_succ _
    obtain ⟨n, hn⟩ := sortedAll_at s.heap its out.toArray
    refine ⟨.ref (s.heap.objs.size + 1), upd H (s.heap.objs.size + 1) (.lst (ps.map fun z => V.ref z.1)), I.laid (t' := s.toks) (fun b o e => sortedAll_old e) hd ⟨?_, out, n, ?_, hn⟩, rfl, q ps _ b1 hsr (I.hok.fresh hd)⟩
    · rw [List.length_map] at hz ⊢; rw [b1.length_eq]; exact hz
    · rw [← b2]
      have := vals_refs (ps.map (·.1))
      rw [List.map_map, List.map_map] at this
      exact this
end
end Bd
namespace Rb
open PySem PySem.Spec PyProof.Rows L2 Bd
section
variable {X : Cx} {K : PySem.W.Frag}
theorem ix_listK (h : X.K = K) : IxR X (rIxL K) := h ▸ ix_list
theorem ix_tupK (h : X.K = K) : IxR X (rIxT K) := h ▸ ix_tup
theorem op_eqDK (h : X.K = K) (hu : X.A.units + 64 < cLine) : OpR X (compareOp .Eq) (rEqD K) := h ▸ op_eqD hu
end
end Rb
namespace Rb
theorem units65 {k : Nat} {A : PySem.Around} (hr : L2.Room k A) : A.units + 65 < PySem.cLine := by have := hr.un; omega
end Rb
namespace Bd
open PySem PySem.Spec PyProof.Rows L2
theorem encR_eqv (e : Ast × Int) : PyData.eqv (encR e) (encR e) = true := by simp [encR, PyData.eqv, PyData.eqvAll]
theorem encR_eqvAll : ∀ N : List (Ast × Int), PyData.eqvAll (N.map encR) (N.map encR) = true
  | [] => by simp [PyData.eqvAll]
  | e :: N => by simp [PyData.eqvAll, encR_eqv e, encR_eqvAll N]
def OkA (p : Ast) : Prop := PyData.strOk p.1 = true
def OkR (R : List (Ast × Int)) : Prop := ∀ e ∈ R, OkA e.1
theorem strOk_S {l : List Nat} (h : ∀ c ∈ l, c < 1114112) : PyData.strOk (Rd.S l) = true := by
  unfold PyData.strOk Rd.S
  simpa using h
theorem strOk_app {x y : Str} (h1 : PyData.strOk x = true) (h2 : PyData.strOk y = true) : PyData.strOk (x ++ y) = true := by
  rw [Rd.S_of x] at h1 ⊢
  rw [Rd.S_of y] at h2 ⊢
  rw [Rd.S_app]
  unfold PyData.strOk Rd.S at *
  simp only [List.all_toArray, List.all_append, Bool.and_eq_true] at *
  exact ⟨h1, h2⟩
theorem OkR.of_tot {R N : List (Ast × Int)} (h : OkR R) (hn : Nrm N) (ht : ∀ p, tot N p = tot R p) : OkR N := fun e he => by
  have h1 : e.1 ∈ R.map (·.1) := by
    rcases Classical.em (e.1 ∈ R.map (·.1)) with z | z
    · exact z
    · have := tot_at hn.nd he
      rw [ht, tot_none z] at this
      exact absurd this.symm (hn.nz e he)
  obtain ⟨f, hf, ef⟩ := List.mem_map.mp h1
  rw [← ef]; exact h f hf
theorem encR_lay : ∀ N : List (Ast × Int), OkR N → PyData.canLayAll0 (N.map encR) = true
  | [], _ => by simp [PyData.canLayAll0]
  | e :: N, h => by
    have h1 : PyData.strOk e.1.1 = true := h e (List.mem_cons_self ..)
    simp [PyData.canLayAll0, PyData.canLay0, encR, encR_lay N fun x hx => h x (List.mem_cons_of_mem _ hx), h1]
theorem encR_depth : ∀ N : List (Ast × Int), PyData.depthAll (N.map encR) ≤ 2
  | [] => by simp [PyData.depthAll]
  | e :: N => by
    have := encR_depth N
    simp only [List.map_cons, PyData.depthAll]
    refine Nat.max_le.mpr ⟨?_, this⟩
    simp [encR, PyData.depth, PyData.depthAll]
theorem encR_shaped {N : List (Ast × Int)} (h : OkR N) : SeqAt.shaped (.tuple (N.map encR)) = true := by
  have := encR_depth N
  unfold SeqAt.shaped
  simp only [PyData.canLay0, encR_lay N h, PyData.depth, Bool.true_and]
  exact decide_eq_true (by omega)
def encA (p : Ast) : PyData := .tuple [.str p.1, .int p.2]
theorem encA_eqv (p q : Ast) : PyData.eqv (encA p) (encA q) = decide (p = q) := by
  have : (p = q) ↔ (p.1 = q.1 ∧ p.2 = q.2) := ⟨fun h => by rw [h]; exact ⟨rfl, rfl⟩, fun h => Prod.ext h.1 h.2⟩
  simp only [encA, PyData.eqv, PyData.eqvAll, Bool.and_true]
  rw [Bool.eq_iff_iff]
  simp [this]
theorem encA_shaped {p : Ast} (h : OkA p) : SeqAt.shaped (encA p) = true := by
  have h' : PyData.strOk p.1 = true := h
  unfold SeqAt.shaped
  simp [encA, PyData.canLay0, PyData.canLayAll0, PyData.depth, PyData.depthAll, h']
theorem encA_lay : ∀ N : List Ast, (∀ p ∈ N, OkA p) → PyData.canLayAll0 (N.map encA) = true
  | [], _ => by simp [PyData.canLayAll0]
  | e :: N, h => by
    have h1 : PyData.strOk e.1 = true := h e (List.mem_cons_self ..)
    simp [PyData.canLayAll0, PyData.canLay0, encA, encA_lay N fun x hx => h x (List.mem_cons_of_mem _ hx), h1]
theorem encA_depth : ∀ N : List Ast, PyData.depthAll (N.map encA) ≤ 1
  | [] => by simp [PyData.depthAll]
  | e :: N => by
    have := encA_depth N
    simp only [List.map_cons, PyData.depthAll]
    refine Nat.max_le.mpr ⟨?_, this⟩
    simp [encA, PyData.depth, PyData.depthAll]
theorem encAs_shaped {N : List Ast} (h : ∀ p ∈ N, OkA p) : SeqAt.shaped (.list (N.map encA)) = true := by
  have := encA_depth N
  unfold SeqAt.shaped
  simp only [PyData.canLay0, encA_lay N h, PyData.depth, Bool.true_and]
  exact decide_eq_true (by omega)
theorem encA_any (N : List Ast) (p : Ast) : ((N.map encA).any fun z => PyData.eqv z (encA p)) = decide (p ∈ N) := by
  induction N with
  | nil => rfl
  | cons e N ih =>
    rw [List.map_cons, List.any_cons, ih, encA_eqv]
    by_cases h : e = p
    · subst h
      rw [decide_eq_true rfl, Bool.true_or]
      exact (decide_eq_true (List.mem_cons_self ..)).symm
    · rw [decide_eq_false h, Bool.false_or]
      by_cases y : p ∈ N
      · rw [decide_eq_true y, decide_eq_true (List.mem_cons_of_mem _ y)]
      · rw [decide_eq_false y, decide_eq_false fun z => (List.mem_cons.mp z).elim (fun q => h q.symm) y]
theorem asAt_dp {K : PySem.W.Frag} {H : Hp} : ∀ {ps : List (Addr × Ast)}, AsAt H ps → DpAll K H (ps.map fun z => V.ref z.1) ((ps.map (·.2)).map encA)
  | [], _ => .nil
  | z :: ps, h => .cons (.tup (SqT.of (h z (List.mem_cons_self ..))) (.cons (.str _) (.cons (.int _) .nil))) (asAt_dp fun y hy => h y (List.mem_cons_of_mem _ hy))
end Bd
namespace Bd
open PySem PySem.Spec PyProof.Rows L2
theorem tot_take {R : List (Ast × Int)} {i : Nat} {p' : Ast} {q : Int} (h : R[i]? = some (p', q)) (p : Ast) : tot (R.take (i + 1)) p = tot (R.take i) p + (if p' = p then q else 0) := by
  rw [List.take_add_one, h, tot_append]
  simp [tot]
end Bd
namespace Rb
open PySem PySem.Spec PyProof.Rows L2 Bd
section
variable {K : PySem.W.Frag} {σ : L2.St} {H : Hp} {Q : VK}
/-- [q for row in rows if row[0] == asset]: the quantities of one asset -/
theorem lcTest {a : Addr} {xs : List V} {g : TG} {tt : TT} {te : TE} {vs : List Nat} (Pv : Nat → List Int → Prop) (h : SqL K H a xs) (hz : xs.length ≤ 100000) (h0 : Pv 0 [])
    (hs : ∀ (i : Nat) (x : V) (qs : List Int) (D : Addr) (H' : Hp) (R : Hp → Prop), H D = none → Same H H' → xs[i]? = some x → qs.length ≤ i → H' D = some (.lst (qs.map V.int)) → Pv i qs → (∀ q, Pv (i + 1) (qs ++ [q]) → R (upd H' D (.lst (qs.map V.int ++ [.int q])))) → (Pv (i + 1) qs → R H') →
      g x (wipe σ vs) H' fun σ2 H2 => wipe σ2 vs = wipe σ vs ∧ tt σ2 H2 fun b H3 => if b = true then te σ2 H3 fun y H4 => ∃ acc, H4 D = some (.lst acc) ∧ acc.length < sizeLine ∧ R (upd H4 D (.lst (acc ++ [y]))) else R H3)
    (hd : ∀ D qs H', H D = none → Same H H' → H' D = some (.lst (qs.map V.int)) → Pv xs.length qs → Q (.ref D) H') :
    ∃ p, V.ref a = .ref p ∧ (∃ ys, SqL K H p ys) ∧ Rd.LcJ g tt te vs σ Q (Itl K p) H := by
  refine ⟨a, rfl, ⟨_, h⟩, fun D hD => ?_⟩
  refine lc_list (xs := xs) (fun i H' => ∃ qs : List Int, Same H H' ∧ qs.length ≤ i ∧ H' D = some (.lst (qs.map V.int)) ∧ Pv i qs) ⟨[], Rd.same_new hD, Nat.le_refl _, upd_same, h0⟩ (fun i H' _ ⟨_, s, _⟩ => s.seq h) ?_ ?_
  · rintro i x H' hi ⟨qs, s, e, hD', p⟩
    refine hs i x qs D H' _ hD s hi e hD' p (fun q pq => ⟨qs ++ [q], Rd.same_mut s hD, by rw [List.length_append]; simp; omega, by rw [upd_same, List.map_append]; rfl, pq⟩) fun p' => ⟨qs, s, by omega, hD', p'⟩
  · rintro H' ⟨qs, s, e, hD', p⟩
    exact hd D qs H' hD s hD' p
end
end Rb
namespace Bd
open PySem PySem.Spec PyProof.Rows L2
theorem nd_len : ∀ {A B : List Ast}, A.Nodup → (∀ x ∈ A, x ∈ B) → A.length ≤ B.length
  | [], _, _, _ => Nat.zero_le _
  | a :: A, B, h, s => by
    rw [List.nodup_cons] at h
    have ha := s a (List.mem_cons_self ..)
    have h2 := nd_len (A := A) (B := B.erase a) h.2 fun x hx => (List.mem_erase_of_ne fun e => h.1 (by rw [← e]; exact hx)).mpr (s x (List.mem_cons_of_mem _ hx))
    have h3 := List.length_erase_of_mem ha
    have h4 : 0 < B.length := List.length_pos_of_mem ha
    rw [List.length_cons]
    omega
theorem Nrm.len {N R : List (Ast × Int)} (h : Nrm N) (ht : ∀ p, tot N p = tot R p) : N.length ≤ R.length := by
  have := nd_len h.nd (B := R.map (·.1)) fun x hx => by
    rcases Classical.em (x ∈ R.map (·.1)) with z | z
    · exact z
    · exact absurd (by rw [ht, tot_none z]) ((h.key x).mp hx)
  simpa using this
theorem OkR.append {R S : List (Ast × Int)} (h : OkR R) (k : OkR S) : OkR (R ++ S) := fun e he => (List.mem_append.mp he).elim (h e) (k e)
theorem OkR.neg {R : List (Ast × Int)} (h : OkR R) : OkR (R.map fun e => (e.1, -e.2)) := fun e he => by
  obtain ⟨f, hf, rfl⟩ := List.mem_map.mp he
  exact h f hf
end Bd

set_option Elab.async false
set_option linter.all false
set_option maxRecDepth 100000
set_option maxHeartbeats 4000000
/-! x != y by the object's own __ne__, which asks an own __eq__. -/
namespace Bd
open PySem PySem.W PySem.Calls PyProof.Rows
section
variable {prog : Program} {w : World} {A : Around} {E : Value → Shared → Prop} {s : Shared} {K : Frag} {x y C L f : Addr} {h₀ : Heap} {m : Str → Option Value} {ox oy : Obj} {od od' : Option Obj}
theorem ne_check {M : Model} {rest : List Value} {Q : Unit → Shared → Prop} (X : K.In s.heap) (I : InstAt s.heap x ox C od) (hso : subIn K (.ref C) (.type "object") = some true) (ha : argsOk "object.__ne__" ⟨.ref x :: rest, []⟩) (hq : Q () s) :
    wpAny M A (checkBuiltinCall "object.__ne__" ⟨.ref x :: rest, []⟩) Q E s := by
  simp only [checkBuiltinCall, PySem.F.cmpKind_ne, PySem.F.cmpSplit_ne]
  refine wpAny_bind ?_
  unfold isInstance
  refine wpAny_bind (I.type.here ?_)
  refine (looks_subIn X hso).here ?_
  cases hsig : Manifest.signature? "object.__ne__" with
  | none => 
    repeat (first | exact hq | wp_step)
  | some sig =>
    simp only [argsOk, hsig] at ha
    have h2 : Bind.checkArgs "object.__ne__" sig ⟨.ref x :: rest, []⟩ = pure () := ha
    simp only [if_true]
    rw [h2]
    repeat (first | exact hq | exact wpAny_pure hq | wp_step)
theorem ne_entry {Q : Fin → Shared → Prop} (X : K.In s.heap) (I : InstAt s.heap x ox C od) (hu : A.units < cLine) (hs : findIn K (.ref C) "__eq__" = some (some (.ref f))) (hf : isFn K (.ref f) = true)
    (hcall : wpAny (model prog w) A (call (.ref f) [.ref x, .ref y]) (fun v s' => ∃ b, v = .bool b ∧ Q (.done (.ret (.bool (!b)))) s') E s) :
    wpAny (model prog w) A (Builtin.«object.__ne__» ⟨[.ref x, .ref y], []⟩) Q E s := by
  unfold Builtin.«object.__ne__»
  repeat (first
    | with_reducible refine wpAny_cRoomFor hu ?_
    | (refine wpAny_bind (m := callSpecialIfBound? (.ref x) (Str.ofString "__eq__") [.ref y])
        (ifBound_K X I hs hf (wpAny_mono hcall (fun r s' hr => by
          obtain ⟨b, rfl, hq⟩ := hr
          repeat (first | exact hq | exact wpAny_pure hq | exact wpAny_truthy_bool hq | (refine wpAny_bind (m := truthy (.bool _)) (wpAny_truthy_bool ?_)) | wp_step)) fun _ _ e => e)))
    | wp_step)
theorem ne_K {Q : Value → Shared → Prop} (hu : A.units + 1 < cLine) (F : Fr h₀ L s.heap m) (X₀ : K.In h₀) (I : InstAt s.heap x ox C od) (J : InstAt s.heap y oy C od')
    (hne : findIn K (.ref C) "__ne__" = some (some (.builtin "object.__ne__"))) (hso : subIn K (.ref C) (.type "object") = some true)
    (hs : findIn K (.ref C) "__eq__" = some (some (.ref f))) (hf : isFn K (.ref f) = true)
    (h : wpAny (model prog w) A.in1 (call (.ref f) [.ref x, .ref y]) (fun v s' => ∃ b, v = .bool b ∧ Q (.bool (!b)) s') E s) :
    wpAny (model prog w) A (richCompare .NotEq (.ref x) (.ref y)) Q E s := by
  have X := X₀.keeps F.keep
  have bd : bindSpecial (.builtin "object.__ne__") (.ref x) = pure (.builtin "object.__ne__", [.ref x]) := PySem.F.cmp_object.ne.bind _
  have cl : wpAny (model prog w) A (call (.builtin "object.__ne__") [.ref x, .ref y]) (fun v s' => ∃ b, v = .bool b ∧ Q (.bool b) s') E s := by
    refine wpAny_call (codeAny_call_builtin PySem.F.cmp_object.ne.plain PySem.F.cmpEntry_ne (ne_check X I hso (PySem.F.cmpArgs_ne _ _) (ne_entry (A := A.in1) X I hu hs hf (wpAny_mono h (fun v s' hv => ?_) fun _ _ e => e))))
    obtain ⟨b, rfl, hq⟩ := hv
    exact ⟨b, rfl, _, rfl, hq⟩
  have one : wpAny (model prog w) A (tryCompare (.ref x) "__ne__" (.ref y)) (fun r s' => ∃ v, r = some v ∧ Q v s') E s := by
    unfold tryCompare
    refine wpAny_bind (Q := _) ?_
    simp only [callSpecialIfBound?, bindSpecialIfBound?]
    refine wpAny_holding (wpAny_bind (wpAny_bind (wpAny_bind (I.type.here ((looks_findIn X hne).here ?_)))))
    simp only [bd]
    refine wpAny_bind (wpAny_askSetting (wpAny_ite ?_))
    have fin : wpAny (model prog w) A (call (.builtin "object.__ne__") ([.ref x] ++ [.ref y]) >>= fun v => pure (some v)) (fun r s' => wpAny (model prog w) A (match r with | some .notImplemented | none => pure none | some r => pure (some r)) (fun r s' => ∃ v, r = some v ∧ Q v s') E s') E s :=
      wpAny_bind (wpAny_mono cl (fun v s' h' => by
        obtain ⟨b, rfl, hq⟩ := h'
        exact wpAny_pure (wpAny_pure ⟨_, rfl, hq⟩)) fun _ _ h' => h')
    split
    · exact wpAny_bind (wpAny_pure (wpAny_pure fin))
    · exact wpAny_tryCatch (wpAny_bind (wpAny_pure (wpAny_pure fin)))
  unfold richCompare
  simp only [oneThing_ref]
  refine wpAny_holding (wpAny_bind (wpAny_cRoomFor (Nat.lt_of_succ_lt hu) ?_))
  rw [cmpInfo_NotEq]
  dsimp only
  refine wpAny_bind (I.type.here (wpAny_bind (J.type.here ?_)))
  rw [show (Value.ref C != Value.ref C) = false from by simp]
  simp only [Bool.false_eq_true, if_false]
  refine wpAny_bind (wpAny_pure ?_)
  simp only [Bool.false_eq_true, if_false]
  refine wpAny_bind (wpAny_mono one (fun r s' z => ?_) fun _ _ e => e)
  obtain ⟨v, rfl, hq⟩ := z
  exact wpAny_pure hq
end
end Bd
namespace Bd
open PySem PySem.Spec PyProof.Rows L2
section
variable {X : Cx} {pins : List (Addr × Obj)} {σ : L2.St} {H : Hp} {s : Shared} {CT : CXT} {n : Nat} {C f : Addr} {fd : FuncData} {ps : List Str} {sp : Sp} {E : XK}
theorem call_def1 {vs : List V} {us : List Value} {Q : VK} (F : FnOk X.prog X.w X.K X.mg X.base CT n f fd ps sp) (hb : Binds X.K fd ps []) (hx : Passes CT X E) (hr : Room n X.A.in1) (I : Inv X pins σ H s) (r : Vals vs us) (hsp : sp vs H Q E) :
    wpAny (model X.prog X.w) X.A.in1 (call (.ref f) us) (EP X pins σ Q) X.xe s := by
  have hl := F.len _ _ _ _ hsp
  have hu : us.length = ps.length := by rw [← r.length]; exact hl
  refine wpAny_call (codeAny_mono (F.run X.A.in1 X.stack s H ⟨us, []⟩ us vs Q E hr I.env0.in1 (by
    have := hb s us I.kIn (by simpa using hu)
    simpa using this) r hsp) fun z s' hq => ?_)
  cases z with
  | error e => exact hx pins σ H s e s' I hq
  | ok fl =>
    cases fl with
    | ret w => exact I.after hq
    | next => exact False.elim hq
    | brk => exact False.elim hq
    | cont => exact False.elim hq
/-- x != y, both of the class at C -/
def rNeOwn (C : Addr) (sp : Sp) (E : XK) : R2 := fun x y H Q => ∃ a b dx dy fs gs, x = .ref a ∧ y = .ref b ∧ H a = some (.ins C dx fs) ∧ H b = some (.ins C dy gs) ∧ sp [.ref a, .ref b] H (fun v H' => ∃ t, v = .bl t ∧ Q (.bl (!t)) H') E
theorem op_neOwn (F : FnOk X.prog X.w X.K X.mg X.base CT n f fd ps sp) (hne : PySem.W.findIn X.K (.ref C) "__ne__" = some (some (.builtin "object.__ne__"))) (hso : PySem.W.subIn X.K (.ref C) (.type "object") = some true)
    (hs : PySem.W.findIn X.K (.ref C) "__eq__" = some (some (.ref f))) (hf : PySem.W.isFn X.K (.ref f) = true)
    (hb : Binds X.K fd ps []) (hx : Passes CT X E) (hr : Room (n + 1) X.A) : OpR X (compareOp .NotEq) (rNeOwn C sp E) := by
  intro pins s σ H x y v u Q I rx ry h
  obtain ⟨a, b, dx, dy, fs, gs, rfl, rfl, ha, hb', hsp⟩ := h
  obtain rfl : v = Value.ref a := rx
  obtain rfl : u = Value.ref b := ry
  obtain ⟨mA, J, _⟩ := ins_get I.hok ha
  obtain ⟨mB, J', _⟩ := ins_get I.hok hb'
  obtain ⟨od, J, _⟩ := J.look
  obtain ⟨od', J', _⟩ := J'.look
  obtain ⟨m, hF⟩ := I.fr
  show wpAny (model X.prog X.w) X.A (richCompare .NotEq (.ref a) (.ref b)) _ _ _
  refine ne_K (by have := hr.un; omega) hF I.ok.mod.kin J J' hne hso hs hf ?_
  refine wpAny_mono (call_def1 F hb hx hr.in1 I (vs := [.ref a, .ref b]) (.cons rfl (.cons rfl .nil)) hsp) (fun z s' q => ?_) fun _ _ e => e
  obtain ⟨v, H', I', r, t, rfl, q⟩ := q
  exact ⟨t, r, .bl (!t), H', I', rfl, q⟩
end
end Bd
namespace Rb
open PySem PySem.Spec PyProof.Rows L2 Bd
section
variable {K : PySem.W.Frag} {H : Hp} {Q : VK} {E : XK}
theorem own3 {C a b : Addr} {sp : Sp} (ha : ∃ dx fs, H a = some (.ins C dx fs)) (hb : ∃ dx fs, H b = some (.ins C dx fs)) (k : sp [.ref a, .ref b] H (fun v H' => ∃ t, v = .bl t ∧ Q (.bl (!t)) H') E) : rNeOwn C sp E (.ref a) (.ref b) H Q := by
  obtain ⟨dx, fs, ha⟩ := ha
  obtain ⟨dy, gs, hb⟩ := hb
  exact ⟨a, b, dx, dy, fs, gs, rfl, rfl, ha, hb, k⟩
end
end Rb
namespace Bd
open PySem PySem.Spec PyProof.Rows L2
/-- an empty tuple that stands with the classes -/
def emptyT (K : PySem.W.Frag) (a : Addr) : Bool := match K.lookup a with
  | some o => decide (o.cls = .type "tuple") && (o.dict.isNone && (match o.data with
    | .seq its _ => its.isEmpty
    | _ => false))
  | none => false
theorem emptyT_ok {K : PySem.W.Frag} {a : Addr} (h : emptyT K a = true) (H : Hp) : SqT K H a [] := by
  unfold emptyT at h
  split at h
  · rename_i o e
    rw [Bool.and_eq_true, Bool.and_eq_true] at h
    obtain ⟨h1, h2, h3⟩ := h
    split at h3
    · rename_i its n hd
      have e0 : its = #[] := by simpa using h3
      subst e0
      exact .inr ⟨o, #[], n, e, of_decide_eq_true h1, hd, by decide, .nil⟩
    · cases h3
  · cases h
def clsN : Str := "__class__"
def exE (K : PySem.W.Frag) (C : Addr) : Bool :=
  He.eqO (PySem.W.findIn K (.ref C) "__class__") (some (some (.builtin "object.__class__"))) &&
  (decide (PySem.W.specialIn K (.builtin "object.__class__") "__get__" = some (some (.builtin "getset_descriptor.__get__"))) &&
  (decide (PySem.W.takesIn K (.builtin "object.__class__") = some true) &&
  (decide (PySem.W.mroIn K C (.type "object") = some true) &&
  (decide (PySem.W.kitOne K (.ref C) (.ref C) = some true) &&
  (He.eqO (PySem.W.findIn K (.ref C) "__ne__") (some (some (.builtin "object.__ne__"))) &&
  (decide (PySem.W.subIn K (.ref C) (.type "object") = some true)))))))
/-- more of what is told of the class -/
structure BQ (K : PySem.W.Frag) (mg : Str → Option Value) : Prop where
  b : BFacts K mg
  isc : C8.InsC K (He.ga K "Bundle")
  ne : PySem.W.findIn K (.ref (He.ga K "Bundle")) "__ne__" = some (some (.builtin "object.__ne__"))
  ob : PySem.W.subIn K (.ref (He.ga K "Bundle")) (.type "object") = some true
  at_Bundle___eq : PySem.W.findIn K (.ref (He.ga K "Bundle")) "__eq__" = some (some (.ref (He.fAd K ("Bundle", some "__eq__"))))
  fn_Bundle___eq : PySem.W.isFn K (.ref (He.fAd K ("Bundle", some "__eq__"))) = true
  dfl : ∀ H, SqT K H (He.dflAt ("Bundle", some "__init__") 0 K) []
theorem BQ.mk' {K : PySem.W.Frag} {mg : Str → Option Value} (b : BFacts K mg) (h : exE K (He.ga K "Bundle") = true) (ha : PySem.W.findIn K (.ref (He.ga K "Bundle")) "__eq__" = some (some (.ref (He.fAd K ("Bundle", some "__eq__")))))
    (hf : PySem.W.isFn K (.ref (He.fAd K ("Bundle", some "__eq__"))) = true) (hd : emptyT K (He.dflAt ("Bundle", some "__init__") 0 K) = true) : BQ K mg := by
  unfold exE at h
  simp only [Bool.and_eq_true] at h
  obtain ⟨h1, h2, h3, h4, h5, h6, h7⟩ := h
  exact ⟨b, ⟨b.cls, He.eqO_ok h1, of_decide_eq_true h2, of_decide_eq_true h3, of_decide_eq_true h4, of_decide_eq_true h5⟩, He.eqO_ok h6, of_decide_eq_true h7, ha, hf, emptyT_ok hd⟩
theorem cut_drop {xs : List V} {k : Nat} (h : k ≤ xs.length) : cutV xs (some (k : Int)) none = xs.drop k := by
  unfold cutV
  have e1 : HT.sIx xs.length 0 (some (k : Int)) = k := by rw [HT.sIx_nat]; exact Nat.min_eq_left h
  have e2 : HT.sIx xs.length xs.length none = xs.length := by simp [HT.sIx]
  rw [e1, e2]
  exact List.take_of_length_le (by rw [List.length_drop]; omega)
end Bd

set_option Elab.async false
set_option linter.all false
set_option maxRecDepth 100000
set_option maxHeartbeats 4000000
/-! The rows of a bundle that are above nothing. -/
namespace Bd
open PySem PySem.Spec PyProof.Rows L2
def posF (D : List (Ast × Int)) : List (Ast × Int) := D.filter fun e => decide (0 < e.2)
variable {D : List (Ast × Int)}
theorem posF_nrm (h : Nrm D) : Nrm (posF D) := ⟨List.Pairwise.filter _ h.srt, (List.filter_sublist.map _).nodup h.nd, fun e he => h.nz e (List.mem_filter.mp he).1⟩
theorem posF_tot (h : Nrm D) (p : Ast) : tot (posF D) p = if 0 < tot D p then tot D p else 0 := by
  by_cases m : p ∈ (posF D).map (·.1)
  · obtain ⟨e, he, rfl⟩ := List.mem_map.mp m
    have h1 := List.mem_filter.mp he
    have h2 := of_decide_eq_true h1.2
    rw [tot_at (posF_nrm h).nd he, tot_at h.nd h1.1, if_pos h2]
  · rw [tot_none m]
    split
    · rename_i q
      have : p ∈ D.map (·.1) := (h.key p).mpr (by omega)
      obtain ⟨e, he, rfl⟩ := List.mem_map.mp this
      rw [tot_at h.nd he] at q
      exact absurd (List.mem_map_of_mem (f := (·.1)) (List.mem_filter.mpr ⟨he, decide_eq_true q⟩)) m
    · rfl
theorem posF_take {i : Nat} {e : Ast × Int} (h : D[i]? = some e) : posF (D.take (i + 1)) = posF (D.take i) ++ (if 0 < e.2 then [e] else []) := by
  unfold posF
  rw [List.take_add_one, h, List.filter_append]
  by_cases q : 0 < e.2 <;> simp [q]
theorem posF_len (D : List (Ast × Int)) : (posF D).length ≤ D.length := List.length_filter_le _ _
theorem posF_ok (h : OkR D) : OkR (posF D) := fun e he => h e (List.mem_filter.mp he).1
theorem posF_nil (h : Nrm D) : posF D = [] ↔ ∀ p, tot D p ≤ 0 := by
  constructor
  · intro e p
    have := posF_tot h p
    rw [e, show tot [] p = 0 from rfl] at this
    split at this <;> omega
  · intro q
    refine List.filter_eq_nil_iff.mpr fun e he => ?_
    have := q e.1
    rw [tot_at h.nd he] at this
    simp; omega
theorem allPos {L N M : List (Ast × Int)} (nm : Nrm L) (ht : ∀ p, tot L p = tot N p - tot M p) : (L.map fun e => decide (e.2 > 0)).all id = true ↔ ∀ p, tot M p ≤ tot N p := by
  rw [List.all_eq_true]
  constructor
  · intro h p
    have := ht p
    by_cases m : p ∈ L.map (·.1)
    · obtain ⟨e, he, rfl⟩ := List.mem_map.mp m
      have h1 := of_decide_eq_true (h _ (List.mem_map_of_mem (f := fun e : Ast × Int => decide (e.2 > 0)) he))
      rw [tot_at nm.nd he] at this
      omega
    · rw [tot_none m] at this; omega
  · intro h b hb
    obtain ⟨e, he, rfl⟩ := List.mem_map.mp hb
    have h1 := ht e.1
    rw [tot_at nm.nd he] at h1
    have h2 := nm.nz e he
    have h3 := h e.1
    exact decide_eq_true (by omega)
end Bd
namespace Rb
open PySem PySem.Spec PyProof.Rows L2 Bd
section
variable {K : PySem.W.Frag} {σ : L2.St} {H : Hp} {Q : VK}
theorem asgG {te : TE} {g : TG} {n b c : L2.St → Hp → Prop} {r : VK} (k : te σ H fun x H1 => g x σ H1 n) : tAsg te g ⟨n, r, b, c⟩ σ H := k
/-- [.. for target in a tuple if ..] -/
theorem lcTestT {a : Addr} {xs : List V} {g : TG} {tt : TT} {te : TE} {vs : List Nat} (Pv : Addr → Nat → List V → Hp → Prop) (h : SqT K H a xs) (h0 : ∀ D H', H D = none → Same H H' → H' D = some (.lst []) → Pv D 0 [] H')
    (hs : ∀ (i : Nat) (x : V) (acc : List V) (D : Addr) (H' : Hp), H D = none → Same H H' → xs[i]? = some x → acc.length ≤ i → H' D = some (.lst acc) → Pv D i acc H' →
      g x (wipe σ vs) H' fun σ2 H2 => wipe σ2 vs = wipe σ vs ∧ tt σ2 H2 fun b H3 => if b = true then te σ2 H3 fun y H4 => ∃ acc, H4 D = some (.lst acc) ∧ acc.length < sizeLine ∧ (fun H5 => ∃ acc, Same H H5 ∧ acc.length ≤ i + 1 ∧ H5 D = some (.lst acc) ∧ Pv D (i + 1) acc H5) (upd H4 D (.lst (acc ++ [y])))
        else (fun H5 => ∃ acc, Same H H5 ∧ acc.length ≤ i + 1 ∧ H5 D = some (.lst acc) ∧ Pv D (i + 1) acc H5) H3)
    (hd : ∀ D acc H', H D = none → Same H H' → H' D = some (.lst acc) → acc.length ≤ xs.length → Pv D xs.length acc H' → Q (.ref D) H') :
    ∃ p, V.ref a = .ref p ∧ (∃ ys, SqT K H p ys) ∧ Rd.LcJ g tt te vs σ Q (Itt K p) H := by
  refine ⟨a, rfl, ⟨_, h⟩, fun D hD => ?_⟩
  refine lc_tup (xs := xs) (fun i H' => ∃ acc, Same H H' ∧ acc.length ≤ i ∧ H' D = some (.lst acc) ∧ Pv D i acc H') ⟨[], Rd.same_new hD, Nat.le_refl _, upd_same, h0 D _ hD (Rd.same_new hD) upd_same⟩ (fun i H' _ ⟨acc, s, _⟩ => Rd.same_tup s h) ?_ ?_
  · rintro i x H' hi ⟨acc, s, e, hD', p⟩
    exact hs i x acc D H' hD s hi e hD' p
  · rintro H' ⟨acc, s, e, hD', p⟩
    exact hd D acc H' hD s hD' e p
/-- one more row at the end of the list that is made -/
theorem rowE {H0 H' : Hp} {Dd t kq : Addr} {i : Nat} {acc : List V} {R : List (Ast × Int)} {p : Ast} {q : Int} (hD : H0 Dd = none) (hs : Same H0 H') (hDl : H' Dd = some (.lst acc)) (ht : H' t = none) (hl : acc.length ≤ i) (hi : i < 100000)
    (hrow : RowL H' acc R) (hk : H' kq = some (.tup [.str p.1, .int p.2])) (Pv : Addr → Nat → List V → Hp → Prop) (hp : ∀ acc' H5, RowL H5 acc' (R ++ [(p, q)]) → Pv Dd (i + 1) acc' H5) :
    ∃ acc', (upd H' t (.tup [.ref kq, .int q])) Dd = some (.lst acc') ∧ acc'.length < sizeLine ∧ (fun H5 => ∃ acc, Same H0 H5 ∧ acc.length ≤ i + 1 ∧ H5 Dd = some (.lst acc) ∧ Pv Dd (i + 1) acc H5) (upd (upd H' t (.tup [.ref kq, .int q])) Dd (.lst (acc' ++ [.ref t]))) := by
  have nDt : Dd ≠ t := fun y => by rw [← y, hDl] at ht; cases ht
  refine ⟨acc, (upd_ne nDt).trans hDl, Rd.smallT (by omega), acc ++ [.ref t], Rd.same_mut (hs.trans (Rd.same_new ht)) hD, by rw [List.length_append]; simp; omega, upd_same, hp _ _ ?_⟩
  refine (hrow.keepT fun y w hy => ?_).append (.cons (kq := kq) ?_ ?_ .nil)
  · exact (upd_ne fun e => by rw [e, hDl] at hy; cases hy).trans (Rd.same_new ht _ _ hy)
  · exact (upd_ne (Ne.symm nDt)).trans upd_same
  · exact (upd_ne fun e => by rw [e, hDl] at hk; cases hk).trans (Rd.same_new ht _ _ hk)
end
end Rb
namespace Rb
open PySem PySem.Spec PyProof.Rows L2 Bd
section
variable {K : PySem.W.Frag} {σ : L2.St} {H : Hp} {Q : VK} {E : XK}
theorem meth {C : Addr} {m : Str} {sp : Sp} {ta : TE} {t : TA} (k : ta σ H fun x H1 => ∃ a dx fs, x = .ref a ∧ H1 a = some (.ins C dx fs) ∧ fs.lookup m = none ∧ t σ H1 fun vs H2 => sp (x :: (vs ++ [])) H2 Q E) : tMeth C m sp [] E ta t σ H Q := k
theorem mth {b : Addr} {N : List (Ast × Int)} {R : Prop} (h : BdAt K H b N) (k : R) : ∃ a dx fs, V.ref b = .ref a ∧ H a = some (.ins (He.ga K "Bundle") dx fs) ∧ fs.lookup ("covers" : Str) = none ∧ R := by
  obtain ⟨dx, r, d, xs, h1, _⟩ := h
  exact ⟨b, dx, _, rfl, h1, rfl, k⟩
end
end Rb
namespace Bd
open PySem PySem.Spec PyProof.Rows L2
theorem encRl_shaped {N : List (Ast × Int)} (h : OkR N) : SeqAt.shaped (.list (N.map encR)) = true := by
  have := encR_depth N
  unfold SeqAt.shaped
  simp only [PyData.canLay0, encR_lay N h, PyData.depth, Bool.true_and]
  exact decide_eq_true (by omega)
theorem eqv_nil {N : List (Ast × Int)} {t : Bool} (h : t = true ↔ N = []) : PyData.eqv (.bool t) (.bool (PyData.eqv (.list (N.map encR)) (.list []))) = true := by
  cases N with
  | nil => rw [h.mpr rfl]; simp [PyData.eqv, PyData.eqvAll]
  | cons e N =>
    have : t = false := by cases t; rfl; exact absurd (h.mp rfl) (by simp)
    rw [this]; simp [PyData.eqv, PyData.eqvAll]
end Bd

set_option Elab.async false
set_option linter.all false
set_option maxRecDepth 100000
set_option maxHeartbeats 4000000
/-! xs.extend of a tuple; x == a tuple, by an own __eq__. -/
namespace Bd
open PySem PySem.SeqAt
open AutoSeq1 MeetsSeq MeetsSeq2 MeetsSeq3 SeqRoads2
theorem ext_tup (l : Addr) (items : Array Value) (n : Nat) (b : Addr) (o : Obj) (items2 : Array Value) (n2 : Nat) (hc : o.cls = .type "tuple") (hd : o.data = .seq items2 n2) (hs0 : ¬(!items.isEmpty && Builtin.List.listTooLong (items.size + items2.size)) = true) (hs1 : items.size ≤ sizeLine) (hs2 : items.size + items2.size ≤ sizeLine + 1) :
    Meets (Builtin.«list.extend» ⟨[.ref l, .ref b], []⟩) (fun _ R s => s.heap.get? l = some { cls := .type "list", dict := none, data := .seq items n, slots := #[] } ∧ s.heap.get? b = some o ∧ R (.ok (.ret Value.none)) { s with heap := s.heap.update l (Obj.mapSeq fun x => x ++ items2), toks := s.toks }) :=
  .of_wp fun prog w A R s h => by
    obtain ⟨oc, od, dt, sl⟩ := o
    cases hc
    cases hd
    obtain ⟨hp, g, d, tk, os⟩ := s; obtain ⟨hl, hb, h⟩ := h; have f1 := idx_int; have f2 := sub_tuple_tuple; have f3 := sub_list_list; have f4 := sub_tuple_list; have f5 := sub_list_tuple;
    have hz' : (items ++ items2).size ≤ sizeLine + 1 := by rw [Array.size_append]; exact hs2
    wp_walk using (wpAny_updateSeq hl rfl (hz := hs1) (_hz' := hz')), wpAny_loadPart' hl, wpAny_loadPart' hb; exact ⟨_, rfl, h⟩
end Bd
namespace Bd
open PySem PySem.Spec PyProof.Rows L2
section
variable {X : Cx}
/-- xs.extend(t), t a tuple of the heap -/
def rExtendT : V → List V → Hp → VK → Prop := fun x vs H Q => ∃ l b xs zs, x = .ref l ∧ vs = [.ref b] ∧ H l = some (.lst xs) ∧ H b = some (.tup zs) ∧ xs.length + zs.length ≤ sizeLine ∧ Q .non (upd H l (.lst (xs ++ zs)))
theorem mt_extendT : MtM X "list.extend" rExtendT := by
  intro pins s σ H x vs v us Q I rx rv h
  obtain ⟨l, b, xs, zs, rfl, rfl, hH, hB, hz, q⟩ := h
  cases rx
  obtain ⟨u, rfl, ru⟩ := rv.one
  cases ru
  obtain ⟨z, its, n, r, hl, e⟩ := I.lstM hH
  obtain ⟨_, its2, r2, o, ho, hc, n2, hd⟩ := (show ObjOk X.prog X.w H s.heap b (.tup zs) from I.hok b _ hB)
  have l2 := r2.length
  have hsz : its.toArray.size + its2.toArray.size ≤ sizeLine := by rw [List.size_toArray, List.size_toArray]; omega
  have hlong : ¬ (!its.toArray.isEmpty && Builtin.List.listTooLong (its.toArray.size + its2.toArray.size)) = true := by
    rw [notLongL hsz, Bool.and_false]
    exact Bool.false_ne_true
  refine call_meets F.slot_list_extend ⟨_, e, rfl⟩ F.entry_list_extend (F.args_list_extend_2 _ _)
    (ext_tup l its.toArray n b o its2.toArray n2 hc hd hlong (by rw [List.size_toArray]; omega) (by omega)) ⟨e, ho, ?_⟩
  refine ⟨.non, _, I.lset (its' := its ++ its2) hH e (by simp) (r.append r2) ?_, rfl, q⟩
  rw [List.length_append]
  omega
end
section
variable {X : Cx} {CT : CXT} {n : Nat} {C f : Addr} {fd : FuncData} {ps : List Str} {sp : Sp} {E : XK}
/-- x == t, x of the class at C, t a tuple of the heap -/
def rEqTup (C : Addr) (sp : Sp) (E : XK) : R2 := fun x y H Q => ∃ a b dx fs ys, x = .ref a ∧ y = .ref b ∧ H a = some (.ins C dx fs) ∧ H b = some (.tup ys) ∧ sp [.ref a, .ref b] H Q E
theorem op_eqTup (F : FnOk X.prog X.w X.K X.mg X.base CT n f fd ps sp) (hs : PySem.W.findIn X.K (.ref C) "__eq__" = some (some (.ref f))) (hf : PySem.W.isFn X.K (.ref f) = true) (hsub : PySem.W.subIn X.K (.type "tuple") (.ref C) = some false)
    (hb : Binds X.K fd ps []) (hx : Passes CT X E) (hr : Room n X.A) : OpR X (compareOp .Eq) (rEqTup C sp E) := by
  intro pins s σ H x y v u Q I rx ry h
  obtain ⟨a, b, dx, fs, ys, rfl, rfl, ha, hb', hsp⟩ := h
  obtain rfl : v = Value.ref a := rx
  obtain rfl : u = Value.ref b := ry
  obtain ⟨mA, J, _⟩ := ins_get I.hok ha
  obtain ⟨od, J, _⟩ := J.look
  obtain ⟨_, its, r, o, ho, hc, n, hd⟩ := (show ObjOk X.prog X.w H s.heap b (.tup ys) from I.hok b _ hb')
  obtain ⟨m, hF⟩ := I.fr
  show wpAny (model X.prog X.w) X.A (richCompare .Eq (.ref a) (.ref b)) _ _ _
  refine PySem.W.cmp_K (op := .Eq) (tb := .type "tuple") hr.units0 hF I.ok.mod.kin J (hc ▸ (PySem.W.Looks.ld ho).andThen .now) (by simp [PySem.W.notFirst, hsub]) hs hf ?_
  exact wpAny_mono (call_def F hb hx hr I (vs := [.ref a, .ref b]) (.cons rfl (.cons rfl .nil)) hsp) (fun _ _ h => back_ep h) fun _ _ e => e
end
end Bd
namespace Bd
open PySem PySem.Spec PyProof.Rows L2
theorem encR_eqv2 (e f : Ast × Int) : PyData.eqv (encR e) (encR f) = decide (e = f) := by
  have : (e = f) ↔ ((e.1.1 = f.1.1 ∧ e.1.2 = f.1.2) ∧ e.2 = f.2) := ⟨fun h => by rw [h]; exact ⟨⟨rfl, rfl⟩, rfl⟩, fun h => Prod.ext (Prod.ext h.1.1 h.1.2) h.2⟩
  simp only [encR, PyData.eqv, PyData.eqvAll, Bool.and_true]
  rw [Bool.eq_iff_iff]
  simp [this]
theorem encRs_eqv : ∀ (N M : List (Ast × Int)), PyData.eqv (.tuple (N.map encR)) (.tuple (M.map encR)) = decide (N = M)
  | [], [] => by simp [PyData.eqv, PyData.eqvAll]
  | [], f :: M => by simp [PyData.eqv, PyData.eqvAll]
  | e :: N, [] => by simp [PyData.eqv, PyData.eqvAll]
  | e :: N, f :: M => by
    have h := encRs_eqv N M
    simp only [PyData.eqv] at h ⊢
    simp only [List.map_cons, PyData.eqvAll, encR_eqv2, h]
    rw [Bool.eq_iff_iff]
    simp
end Bd
namespace Rb
open PySem PySem.Spec PyProof.Rows L2 Bd
theorem ext {K : PySem.W.Frag} {σ : L2.St} {H : Hp} {to : TE} {t : TA} {Q : VK} (k : to σ H fun x H1 => tyV K "list" x H1 ∧ t σ H1 fun xs H2 => rExtendT x xs H2 Q) : tBM K "list" rExtendT to t σ H Q := k
end Rb

set_option Elab.async false
set_option linter.all false
set_option maxRecDepth 100000
set_option maxHeartbeats 4000000
/-! iter of a tuple; for .. in an object of an own class, by its own __iter__ that gives a tuple's iterator. -/
namespace Bd
open PySem PySem.Spec PyProof.Rows L2
open Builtin Builtin.ObjectAttr
/-- at it an iterator over the tuple at t that has given nothing -/
def TtO (t it : Addr) : HO := .ext fun h => h.get? it = some { cls := .type "tuple_iterator", data := .fields #[.ref t, .int 0 0] }
theorem ttO_ok {P : Program} {w : World} {H : Hp} {h : Heap} {t it : Addr} (e : h.get? it = some { cls := .type "tuple_iterator", data := .fields #[.ref t, .int 0 0] }) : ObjOk P w H h it (TtO t it) := ⟨e, ⟨_, e⟩, fun _ _ q k => k _ q⟩
theorem call_iterTup {prog : Program} {w : World} {A : Around} {E : Value → Shared → Prop} {s : Shared} {t : Addr} {items : Array Value} {Q : Value → Shared → Prop} (ht : s.heap.IsTuple t items)
    (hQ : Q (.ref s.heap.objs.size) { s with heap := s.heap.push { cls := .type "tuple_iterator", data := .fields #[.ref t, .int 0 0] } }) : wpAny (model prog w) A (call (.builtin "iter") [.ref t]) Q E s := by
  refine PySem.Calls.call_function_entry (by decide +kernel) (by decide +kernel) PySem.W.kdk_entry_iter (PySem.W.kdk_args_iter _) ?_
  unfold PySem.Builtin.«iter»
  refine wpAny_bind (m := someArgs "iter" 1 2 _) (wpAny_of_eq (a := [Value.ref t]) (by first | rfl | kernel_rfl!) ?_)
  show wpAny _ _ (pyIter (.ref t) >>= _) _ _ _
  exact wpAny_bind (wpAny_pyIter_tuple ht (wpAny_pure ⟨_, rfl, hQ⟩))
def rIterT (K : PySem.W.Frag) : List V → Hp → VK → Prop := fun xs H Q => ∃ (t : Addr) (zs : List V), xs = [.ref t] ∧ SqT K H t zs ∧ ∀ it, H it = none → (∀ z o, H z = some o → z < it) → Q (.ref it) (upd H it (TtO t it))
/-- {}, and it is younger than the frame -/
def tDNewN (n : Nat) : TE := fun _ H Q => ∀ p, H p = none → n ≤ p → Q (.ref p) (upd H p (.dT []))
/-- list(xs), and it is younger than the frame -/
def rListN (K : PySem.W.Frag) (n : Nat) : List V → Hp → VK → Prop := fun xs H Q => ∃ p ys, xs = [.ref p] ∧ SqL K H p ys ∧ ∀ l, H l = none → n ≤ l → Q (.ref l) (upd H l (.lst ys))
section
variable {X : Cx}
theorem cr_iterT : CallR X (.builtin "iter") (rIterT X.K) := by
  intro pins s σ H xs us Q I r h
  obtain ⟨t, zs, rfl, hq, q⟩ := h
  obtain rfl := Vals.ref1 r
  obtain ⟨its, rv, p, hz⟩ := I.tuple hq
  refine call_iterTup (show s.heap.IsTuple t its.toArray from p) ?_
  refine ⟨.ref s.heap.objs.size, _, I.laid (t' := s.toks) (fun b u e => Heap.get?_push_of_some _ e) (Nat.le_refl _) (ttO_ok (Heap.get?_push_size _ rfl)), rfl, q _ (I.hok.fresh (Nat.le_refl _)) fun z o e => ?_⟩
  obtain ⟨u, hu⟩ := objOk_get (I.hok z o e)
  exact Heap.lt_size hu
theorem pe_dnewN {pos : Pos} : PE X (.Dict [] [] pos) (tDNewN X.s_0.heap.objs.size) := ⟨fun pins s σ H Q I h =>
  wpAny_Dict_empty ⟨.ref s.heap.objs.size, _, I.laid (a := s.heap.objs.size) (o := .dT []) (t' := s.toks) (fun _ _ q => Heap.get?_push_of_some _ q) (Nat.le_refl _) (dt_empty s.heap I.big), rfl, h _ (I.hok.fresh (Nat.le_refl _)) I.sz⟩⟩
theorem call_listN : CallR X (.type "list") (rListN X.K X.s_0.heap.objs.size) := by
  intro pins s σ H xs us Q I r h
  obtain ⟨p, ys, rfl, hq, q⟩ := h
  obtain ⟨u, rfl, rx⟩ := vals1 r
  cases rx
  obtain ⟨its, r', pl, hz⟩ := I.list hq
  have hlen := r'.length
  obtain ⟨o, ho, hc, n, hd⟩ := pl.isList
  refine call_list_seq p (.inl rfl) ho hc hd (fun h' c' kp e => ?_) (by simp only [List.size_toArray] <;> omega)
  exact ⟨.ref s.heap.objs.size, _, I.laid (t' := s.toks) kp (Nat.le_refl _) (show ObjOk X.prog X.w _ h' _ (.lst ys) from ⟨hz, its, c', r', e⟩), rfl, q _ (I.hok.fresh (Nat.le_refl _)) I.sz⟩
variable {pins : List (Addr × Obj)} {σ : L2.St} {H : Hp} {s : Shared} {CT : CXT} {n : Nat} {C f : Addr} {fd : FuncData} {ps : List Str} {sp : Sp} {E : XK} {tg e : Expr} {te : TE}
/-- e an object of the class at C, walked by its own __iter__ -/
def iOwn (K : PySem.W.Frag) (n : Nat) (C : Addr) (sp : Sp) (E : XK) (te : TE) : TI := fun σ H R => te σ H fun x H1 => ∃ a dx fs, x = .ref a ∧ H1 a = some (.ins C dx fs) ∧
  sp [.ref a] H1 (fun v H2 => ∃ it t xs, v = .ref it ∧ n ≤ it ∧ H2 it = some (TtO t it) ∧ SqT K H2 t xs ∧ R (Itt K t) (ItX.dropH H2 it)) E
theorem pi_own (F : FnOk X.prog X.w X.K X.mg X.base CT n f fd ps sp) (hs : PySem.W.findIn X.K (.ref C) "__iter__" = some (some (.ref f))) (hf : PySem.W.isFn X.K (.ref f) = true) (hb : Binds X.K fd ps []) (hx : Passes CT X E) (hr : Room n X.A) (he : PE X e te) :
    PI X tg e (iOwn X.K X.s_0.heap.objs.size C sp E te) := by
  refine ⟨fun pins s σ H R I h => ?_⟩
  refine thn (he.run pins s σ H _ I h) fun u s1 ⟨x, H1, I1, r1, a, dx, fs, ex, ea, hsp⟩ => ?_
  subst ex
  obtain rfl : u = Value.ref a := r1
  obtain ⟨mA, J, _⟩ := ins_get I1.hok ea
  obtain ⟨od, J, _⟩ := J.look
  obtain ⟨m, hF⟩ := I1.fr
  refine PySem.W.owit_iter hF I1.ok.mod.kin J hs hf ?_
  refine thn (call_def F hb hx hr I1 (vs := [.ref a]) (.cons rfl .nil) hsp) fun u s2 ⟨v, H2, I2, r2, it, t, xs, ev, hsz, hit, hq, hR⟩ => ?_
  subst ev
  obtain rfl : u = Value.ref it := r2
  have ho : s2.heap.get? it = some { cls := .type "tuple_iterator", data := .fields #[.ref t, .int 0 0] } := (I2.hok it _ hit).1
  have hT : s2.TypeIs (.ref it) "tuple_iterator" := ⟨_, ho, rfl⟩
  unfold PySem.W.OwitIt
  refine wpAny_specialOf (name := Str.ofString "__next__") hT slot_tupleiter_next.lookup ?_
  have hit' := hit
  unfold TtO at hit'
  refine ⟨it, [it], _, _, ItX.dropH H2 it, rfl, ItX.inv_drop I2 hit', turn_tuple t it, ⟨_, ho, rfl, rfl⟩, fun b hb => ?_, hR⟩
  have e : b = it := by simpa using hb
  rw [e]
  exact ItX.inv_fp I2 hit hsz
/-- e a list, a tuple, or an object of the class at C -/
def iAny (K : PySem.W.Frag) (n : Nat) (C : Addr) (sp : Sp) (E : XK) (te : TE) : TI := fun σ H R => iLt K te σ H R ∨ iOwn K n C sp E te σ H R
theorem pi_any (F : FnOk X.prog X.w X.K X.mg X.base CT n f fd ps sp) (hs : PySem.W.findIn X.K (.ref C) "__iter__" = some (some (.ref f))) (hf : PySem.W.isFn X.K (.ref f) = true) (hb : Binds X.K fd ps []) (hx : Passes CT X E) (hr : Room n X.A) (he : PE X e te) :
    PI X tg e (iAny X.K X.s_0.heap.objs.size C sp E te) := ⟨fun pins s σ H R I h => h.elim ((pi_lt he).run pins s σ H R I) ((pi_own F hs hf hb hx hr he).run pins s σ H R I)⟩
end
end Bd
namespace Rb
open PySem PySem.Spec PyProof.Rows L2
theorem op_neDK {X : Cx} {K : PySem.W.Frag} (h : X.K = K) (hu : X.A.units + 64 < cLine) : OpR X (compareOp .NotEq) (rNeD K) := h ▸ op_neD hu
end Rb

set_option Elab.async false
set_option linter.all false
set_option maxRecDepth 100000
set_option maxHeartbeats 4000000
/-! Sets of texts by a comprehension, and their sorted list. -/
namespace Bd
open PySem PySem.Spec PyProof.Rows L2 PpSet
def tx (e : Int × Value) : Str := match e.2 with
  | .str x _ => x
  | _ => Str.empty
/-- the entries are these texts, each once -/
structure OkT (w : World) (l : List (Int × Value)) (ms : List Str) : Prop where
  good : ∀ e ∈ l, ∃ x k, e.2 = Value.str x k ∧ e.1 = keyH w (Sum.inr x)
  pm : (l.map tx).Perm ms
  nd : ms.Nodup
theorem OkT.perm {w : World} {l l' : List (Int × Value)} {ms : List Str} (h : OkT w l ms) (p : l'.Perm l) : OkT w l' ms := ⟨fun e he => h.good e (p.mem_iff.mp he), (p.map tx).trans h.pm, h.nd⟩
theorem OkT.elems {P : Program} {w : World} {l : List (Int × Value)} {ms : List Str} (h : OkT w l ms) : ElemsOf (mixKind P w) l := fun e he => by
  obtain ⟨x, k, h1, h2⟩ := h.good e he
  exact ⟨⟨Sum.inr x, by rw [h1]; exact mixKind_str P w x k, h2⟩, by rw [h1]; rfl⟩
theorem OkT.is {P : Program} {w : World} {l : List (Int × Value)} {ms : List Str} (h : OkT w l ms) {e : Int × Value} (he : e ∈ l) (x : Str) : (mixKind P w).is (Sum.inr x) e.2 = true ↔ tx e = x := by
  obtain ⟨y, k, h1, _⟩ := h.good e he
  have ty : tx e = y := by unfold tx; rw [h1]
  rw [ty]
  constructor
  · intro z
    have z2 : (mixKind P w).is (Sum.inr y) e.2 = true := by rw [h1]; exact mixKind_str P w y k
    exact Sum.inr.inj ((mixKind P w).inj _ _ _ z2 z)
  · rintro rfl
    rw [h1]; exact mixKind_str P w y k
/-- a set of texts stands at a; it can be walked -/
def TxAt (w : World) (h : Heap) (a : Addr) (ms : List Str) : Prop := ∃ o es ep t, h.get? a = some o ∧ o.ExactSet ∧ o.data = .set es ep t ∧ OkT w es.toList ms ∧ es.size < scanBound ∧ t.fits es.size = true ∧ Ris t.place.toList ∧ (w.params.followText "set-order" = true ∨ t.led = true)
def TxO (w : World) (a : Addr) (ms : List Str) : HO := .ext fun h => TxAt w h a ms
theorem txO_ok {P : Program} {w : World} {H : Hp} {h : Heap} {a : Addr} {ms : List Str} (r : TxAt w h a ms) : ObjOk P w H h a (TxO w a ms) := by
  have ⟨o, _, _, _, q, _⟩ := r
  exact ⟨r, ⟨o, q⟩, fun h1 h2 ⟨o, es, ep, t, z, rest⟩ k => ⟨o, es, ep, t, k o z, rest⟩⟩
theorem txNew {h : Heap} (w : World) : TxAt w (h.push { cls := .type "set", dict := none, data := .set #[] 0 (.fresh 0 0 (!w.params.followText "set-order")) }) h.objs.size [] := by
  obtain ⟨o, es, ep, t, h1, h2, h3, _, _, _, h5, h6, h7, h8, h9⟩ := setB_fresh (h := h) w
  have e0 : es = #[] := Array.eq_empty_of_size_eq_zero h7
  subst e0
  exact ⟨o, _, ep, t, h1, h2, h3, ⟨fun e he => by simp at he, by simp, List.nodup_nil⟩, h5, h6, h8, h9⟩
section
variable {P : Program} {w : World} {A : Around} {E : Value → Shared → Prop} {s : Shared} {a : Addr}
theorem put_end {gv : Bool → Sem Unit} (hgv : ∀ (b : Bool) (u : Shared) (Q : Unit → Shared → Prop), Q () u → wpAny (model P w) A (gv b) Q E u) {ob : Obj} {es : Array (Int × Value)} {n : Nat} {tb : SetTable}
    (h1 : s.heap.get? a = some ob) (h2 : ob.ExactSet) (h3 : ob.data = .set es n tb) {fs : Array (Int × Value)} {t9 : SetTable} {ms : List Str} (ok : OkT w fs.toList ms) (hb : fs.size < scanBound) (hf : t9.fits fs.size = true)
    (hr : Ris t9.place.toList) (hl : w.params.followText "set-order" = true ∨ t9.led = true) {wd : Bool} {R : Option Bool → Shared → Prop}
    (hR : ∀ h', Heap.SameBut a s.heap h' → TxAt w h' a ms → R (some true) { s with heap := h' }) :
    wpAny (model P w) A (do
      storeSet a fs t9
      if (!wd && t9.tooFull) = true then do
        gv (relayAll t9 fs (SetTable.grown fs.size)).2.2
        storeSet a (relayAll t9 fs (SetTable.grown fs.size)).1 (relayAll t9 fs (SetTable.grown fs.size)).2.1
        pure (some true)
      else pure (some true)) R E s := by
  refine wpAny_bind (wpAny_storeSet_of h1 h3 ?_ (fits_of_scanBound hb))
  have p1 := storeB_at (es' := fs) (t' := t9) h1 h3
  have q1 := Heap.SameBut.update s.heap a (Obj.putSet fs t9)
  split
  · have pm := relayAll_perm t9 fs (SetTable.grown fs.size)
    have g1 := relayAll_fits t9 fs (SetTable.grown fs.size)
    have g2 := relayAll_ris t9 fs (SetTable.grown fs.size)
    have g3 := relayAll_led t9 fs (SetTable.grown fs.size)
    generalize relayAll t9 fs (SetTable.grown fs.size) = Y at pm g1 g2 g3 ⊢
    obtain ⟨gs, t8, gave⟩ := Y
    dsimp only at pm g1 g2 g3 ⊢
    have ez : gs.size = fs.size := by
      have := pm.length_eq
      simpa using this
    refine wpAny_bind (hgv _ _ _ ?_)
    refine wpAny_bind (wpAny_storeSet_of p1 rfl ?_ (fits_of_scanBound (by rw [ez]; exact hb)))
    have p2 := storeB_at (es' := gs) (t' := t8) p1 rfl
    exact wpAny_pure (hR _ (q1.trans (Heap.SameBut.update _ a _)) ⟨_, gs, _, t8, p2, h2, rfl, ok.perm pm, by rw [ez]; exact hb, g1, g2, hl.imp id fun z => by rw [g3]; exact z⟩)
  · exact wpAny_pure (hR _ q1 ⟨_, fs, _, t9, p1, h2, rfl, ok, hb, hf, hr, hl⟩)
def addT (ms : List Str) (x : Str) : List Str := if x ∈ ms then ms else ms ++ [x]
theorem addHashT {ms : List Str} {x : Str} {tk : Tok} {Q : Bool → Shared → Prop} (r : TxAt w s.heap a ms) (room : ms.length + 1 < scanBound)
    (hQ : ∀ (b : Bool) h', Heap.SameBut a s.heap h' → TxAt w h' a (addT ms x) → Q b { s with heap := h' }) : wpAny (model P w) A (setAddHashed a (.str x tk) (keyH w (Sum.inr x))) Q E s := by
  obtain ⟨ob, es, n, tb, h1, h2, h3, ok, hb, hf, hr, hl⟩ := r
  have kx : (mixKind P w).is (Sum.inr x) (.str x tk) = true := mixKind_str P w x tk
  have sc : (Value.str x tk).scannable = true := rfl
  have el : ElemsOf (mixKind P w) es.toList := ok.elems
  unfold setAddHashed setAddHashedIn
  refine wpAny_holding (wpAny_bind (wpAny_setState_of h1 h3 hf ?_))
  dsimp only
  rw [byScan_of sc hb el]
  simp only [↓reduceIte]
  unfold setAddByScan
  refine wpAny_bind (wpAny_bind (wpAny_rule (wpAny_bind (wpAny_setScan_of (knd := mixKind P w) kx h1 h3 hf el ?_))))
  cases hi : List.findIdx? (fun e => (mixKind P w).is (Sum.inr x) e.2) es.toList with
  | some j =>
    dsimp only
    obtain ⟨hj, pj, _⟩ := List.findIdx?_eq_some_iff_getElem.mp hi
    have hin : x ∈ ms := ok.pm.mem_iff.mp (List.mem_map.mpr ⟨_, List.getElem_mem hj, (ok.is (P := P) (List.getElem_mem hj) x).mp pj⟩)
    refine wpAny_pure (wpAny_pure (hQ _ s.heap (Heap.SameBut.refl a s.heap) ⟨ob, es, n, tb, h1, h2, h3, ?_, hb, hf, hr, hl⟩))
    unfold addT
    rw [if_pos hin]
    exact ok
  | none =>
    dsimp only
    have hno : x ∉ ms := fun z => by
      obtain ⟨e, he, q⟩ := List.mem_map.mp (ok.pm.mem_iff.mpr z)
      have c := List.findIdx?_eq_none_iff.mp hi e he
      rw [(ok.is (P := P) he x).mpr q] at c
      cases c
    have pm := layNew_perm tb es (keyH w (Sum.inr x)) (.str x tk)
    have g1 := layNew_fits tb es (keyH w (Sum.inr x)) (.str x tk)
    have g2 := layNew_ris tb es (keyH w (Sum.inr x)) (.str x tk) hr
    have g3 := layNew_led tb es (keyH w (Sum.inr x)) (.str x tk)
    generalize layNew tb es (keyH w (Sum.inr x)) (.str x tk) = Y at pm g1 g2 g3 ⊢
    obtain ⟨fs, t9, wd, gave⟩ := Y
    dsimp only at pm g1 g2 g3 ⊢
    rw [Array.toList_push] at pm
    have pc : fs.toList.Perm ((keyH w (Sum.inr x), Value.str x tk) :: es.toList) := pm.trans (List.perm_append_singleton _ _)
    have ok1 : OkT w fs.toList (addT ms x) := by
      unfold addT
      rw [if_neg hno]
      refine ⟨fun e he => ?_, ?_, ?_⟩
      · rcases List.mem_cons.mp (pc.mem_iff.mp he) with z | z
        · rw [z]; exact ⟨x, tk, rfl, rfl⟩
        · exact ok.good e z
      · have := pc.map tx
        rw [List.map_cons] at this
        exact this.trans ((List.Perm.cons _ ok.pm).trans (List.perm_append_singleton _ _).symm)
      · rw [List.nodup_append]
        exact ⟨ok.nd, by simp, fun y hy z hz e => hno (by rw [List.mem_singleton] at hz; rw [← hz, ← e]; exact hy)⟩
    have ez : fs.size = ms.length + 1 := by
      have e1 := pc.length_eq
      have e2 := ok.pm.length_eq
      simp only [List.length_cons, Array.length_toList, List.length_map] at e1 e2
      omega
    have hb1 : fs.size < scanBound := by rw [ez]; exact room
    have hl1 : w.params.followText "set-order" = true ∨ t9.led = true := hl.imp id fun z => by rw [g3]; exact z
    have out : ∀ h', Heap.SameBut a s.heap h' → TxAt w h' a (addT ms x) → Q true { s with heap := h' } := fun h' sb r => hQ true h' sb r
    refine wpAny_bind ?_
    have go : ∀ (U : Unit → Shared → Prop), U () s → wpAny (model P w) A (match gave with | true => rule "set.scan.the-table-gave-way" | false => pure ()) U E s := fun U q => by
      cases gave
      · exact wpAny_pure q
      · exact wpAny_rule q
    refine go _ ?_
    split
    · refine wpAny_bind ?_
      rw [hashByValue_scannable 8 sc]
      refine wpAny_pure ?_
      simp only [show plainKind (Value.str x tk) = false from rfl, Bool.false_eq_true, if_false]
      refine put_end (fun b u U q => ?_) h1 h2 h3 ok1 hb1 (SetTable.fits_plain_off g1) g2 hl1 (fun h' sb r => wpAny_pure (out h' sb r))
      cases b
      · exact wpAny_pure q
      · exact wpAny_rule q
    · refine wpAny_bind (wpAny_pure ?_)
      simp only [↓reduceIte]
      refine put_end (fun b u U q => ?_) h1 h2 h3 ok1 hb1 g1 g2 hl1 (fun h' sb r => wpAny_pure (out h' sb r))
      cases b
      · exact wpAny_pure q
      · exact wpAny_rule q
theorem addText {ms : List Str} {x : Str} {tk : Tok} {Q : Value → Shared → Prop} (r : TxAt w s.heap a ms) (room : ms.length + 1 < scanBound)
    (hQ : ∀ h', Heap.SameBut a s.heap h' → TxAt w h' a (addT ms x) → Q .none { s with heap := h', toks := s.toks + 1 }) : wpAny (model P w) A (call (.builtin "set.add") [.ref a, .str x tk]) Q E s := by
  obtain ⟨ob, es, n, tb, h1, h2, h3, rest⟩ := id r
  have hT : s.TypeIs (.ref a) "set" := ⟨ob, h1, h2.1⟩
  refine wpAny_call_entry F.slot_set_add hT F.entry_set_add ?_ (F.args_set_add_2 _ _)
  unfold Builtin.«set.add» Builtin.Frozenset.oneOther
  simp only [List.isEmpty_nil, bind_assoc]
  unfold Builtin.Frozenset.addrOf setAdd
  refine wpAny_bind (wpAny_pure ?_)
  try dsimp only
  refine wpAny_bind (wpAny_pure ?_)
  try dsimp only
  refine wpAny_bind (wpAny_holding (wpAny_bind ((mixKind P w).pyHash (mixKind_str P w x tk) ?_)))
  refine addHashT (s := { s with toks := s.toks + 1 }) r room fun b h' sb r' => ?_
  exact wpAny_pure ⟨_, rfl, hQ h' sb r'⟩
end
section
variable {X : Cx}
theorem addT_ok {pins : List (Addr × Obj)} {σ : L2.St} {H : Hp} {s : Shared} {E : Value → Shared → Prop} {D : Addr} {ms : List Str} {x : Str} {tk : Tok} {Q : Value → Shared → Prop} (I : Inv X pins σ H s) (hD : H D = some (TxO X.w D ms)) (room : ms.length + 1 < scanBound)
    (h : ∀ s', Inv X pins σ (upd H D (TxO X.w D (addT ms x))) s' → Q .none s') : wpAny (model X.prog X.w) X.A (call (.builtin "set.add") [.ref D, .str x tk]) Q E s := by
  have r : TxAt X.w s.heap D ms := (I.hok D _ hD).1
  refine addText r room fun h' sb new => ?_
  have hin : ∃ u, h'.get? D = some u := by
    have ⟨o, _, _, _, q, _⟩ := new
    exact ⟨o, q⟩
  exact h _ (I.write (e := D) (t' := s.toks + 1) (by rw [hD]; trivial) (.inl rfl) (fun b u hb hu => (sb.2 b hb).trans hu) hin (txO_ok new))
/-- what {e for ..} asks of what it walks, e a text: D the new set -/
def ScJ (w : World) (g : TG) (tt : TT) (te : TE) (vs : List Nat) (σ : L2.St) (Q : VK) (J : It) (H1 : Hp) : Prop := ∀ D, H1 D = none → ∃ W : Nat → Nat → Hp → Prop, (∃ m, W 0 m (upd H1 D (TxO w D []))) ∧ ∀ i m H, W i m H →
  (J.stop i H ∧ Q (.ref D) H) ∨ (J.go i H ∧ ∃ Nx : Hp → Prop, (∀ H', Nx H' → ∃ m', m' < m ∧ W (i + 1) m' H') ∧ ∀ x H', J.yld i H x H' → g x (wipe σ vs) H' fun σ2 H2 => wipe σ2 vs = wipe σ vs ∧ tt σ2 H2 fun t H3 =>
    if t = true then te σ2 H3 fun y H4 => ∃ ms z, y = .str z ∧ H4 D = some (TxO w D ms) ∧ ms.length + 1 < scanBound ∧ Nx (upd H4 D (TxO w D (addT ms z))) else Nx H3)
def tScT (w : World) (wi : TI) (g : TG) (tt : TT) (te : TE) (vs : List Nat) : TE := fun σ H Q => wi σ H fun J H1 => ScJ w g tt te vs σ Q J H1
theorem pe_scT {vx tg iter : Expr} {ifs : List Expr} {scope : Scope} {own : List (Str × Nat)} {pos : Pos} {wi : TI} {g : TG} {tt : TT} {tv : TE} (hc : X.calm = true) (hN : X.N.Nodup) (hi : PI X tg iter wi) (ok : BlkOk X.N X.env.scope scope own)
    (hg : ∀ (s : Shared) (H : Hp) (C : Addr) (cl : List (Str × Addr)) (fp : List Addr), PG (X.blk s H scope (compEnvC scope cl C X.env) fp) tg g) (ht : ∀ (s : Shared) (H : Hp) (C : Addr) (cl : List (Str × Addr)) (fp : List Addr), PTs (X.blk s H scope (compEnvC scope cl C X.env) fp) ifs tt)
    (he : ∀ (s : Shared) (H : Hp) (C : Addr) (cl : List (Str × Addr)) (fp : List Addr), PE (X.blk s H scope (compEnvC scope cl C X.env) fp) vx tv) (hs : ∀ x, foldedSetIterable iter X.env x = pure x := by intro _; rfl) :
    PE X (.SetComp vx [⟨tg, iter, ifs, 0⟩] scope pos) (tScT X.w wi g tt tv (own.map (·.2))) := by
  refine ⟨fun pins s σ H Q I h => ?_⟩
  rw [eval_SetComp]
  have free : ∀ y ∈ scope.names, y.2 = .free → ∃ c, X.env.cells.lookup y.1 = some c := fun y hy e => by
    rcases ok.free y hy e with k | k
    · exact I.ok.has _ (.inl k)
    · exact I.ok.has _ (.inr k)
  refine wpAny_comprehension_free rfl hs (closure_ok free) ok.kind (fun y hy e => by rw [ok.uniq y hy, e]) (thn (hi.run pins s σ H _ I h) fun xv s1 hx => thn hx fun itv s2 h2 => ?_)
  obtain ⟨it, fp, tn, J, H2, rfl, I2, T, st2, f2, q⟩ := h2
  -- the dict that is made, at D
  obtain ⟨D, hD⟩ : ∃ D : Addr, D = s2.heap.objs.size := ⟨_, rfl⟩
  have D0 : H2 D = none := I2.hok.fresh (Nat.le_of_eq hD.symm)
  obtain ⟨W, ⟨m0, w0⟩, turn⟩ := q D D0
  refine newSet_ok (newEnv_comp ?_)
  rw [← hD]
  obtain ⟨s3, e3⟩ : ∃ s3 : Shared, s3 = { s2 with heap := s2.heap.push { cls := .type "set", dict := none, data := .set #[] 0 (.fresh 0 0 (!X.w.params.followText "set-order")) } } := ⟨_, rfl⟩
  have p3 : ∀ b o, s2.heap.get? b = some o → s3.heap.get? b = some o := fun b o e => by rw [e3]; exact Heap.get?_push_of_some _ e
  have I3 : Inv X pins σ (upd H2 D (TxO X.w D [])) s3 := by
    rw [e3]
    exact I2.laid (t' := s2.toks) (fun b o e => Heap.get?_push_of_some _ e) (Nat.le_of_eq hD.symm) (by rw [hD]; exact txO_ok (txNew X.w))
  have f3 : ∀ b ∈ fp, FpOk X pins (upd H2 D (TxO X.w D [])) b ∧ b < s3.heap.objs.size := fun b hb => by
    obtain ⟨o, e, _⟩ := T.obj _ _ st2 b hb
    exact ⟨⟨by rw [upd_ne (by rw [hD]; exact Nat.ne_of_lt (Heap.lt_size e))]; exact (f2 b hb).1, (f2 b hb).2⟩, Heap.lt_size (p3 b o e)⟩
  have I4 := block_start I3 ok hN f3
  have pg := hg s3 (upd H2 D (TxO X.w D [])) s3.heap.objs.size (cellsFrom (s3.heap.objs.size + 1) scope.names (cloFrom X.env.cells scope.names [])) fp
  have pt := ht s3 (upd H2 D (TxO X.w D [])) s3.heap.objs.size (cellsFrom (s3.heap.objs.size + 1) scope.names (cloFrom X.env.cells scope.names [])) fp
  have pe := he s3 (upd H2 D (TxO X.w D [])) s3.heap.objs.size (cellsFrom (s3.heap.objs.size + 1) scope.names (cloFrom X.env.cells scope.names [])) fp
  rw [← e3]
  show codeAny _ _ (.compStart (.SetComp vx [⟨tg, iter, ifs, 0⟩] scope pos) 0 (.ref it) (.ref D) (compEnvC scope (cellsFrom (s3.heap.objs.size + 1) scope.names (cloFrom X.env.cells scope.names [])) s3.heap.objs.size X.env))
    (compPost (model X.prog X.w) X.A X.xe none (EP X pins σ Q) (.ref D) s3.heap.objs.size) { s3 with heap := pushCells (s3.heap.push { cls := .type "dict", data := .dict #[] }) scope.names }
  have nf : ∀ b ∈ fp, (upd H2 D (TxO X.w D [])) b = none := fun b hb => (f3 b hb).1.1
  have t4 : tn 0 (pushCells (s3.heap.push { cls := .type "dict", data := .dict #[] }) scope.names) := T.keep _ _ _ st2 fun b _ o e => pushCells_keeps _ _ _ _ (Heap.get?_push_of_some _ (p3 b o e))
  generalize hce : compEnvC scope (cellsFrom (s3.heap.objs.size + 1) scope.names (cloFrom X.env.cells scope.names [])) s3.heap.objs.size X.env = ce at I4 pg pt pe ⊢
  have cL : ce.locals = s3.heap.objs.size := by rw [← hce]; rfl
  generalize upd H2 D (TxO X.w D []) = H3 at I3 f3 I4 pg pt pe nf w0
  generalize hs4 : ({ s3 with heap := pushCells (s3.heap.push { cls := .type "dict", data := .dict #[] }) scope.names } : Shared) = s4 at I4 ⊢
  have t4' : tn 0 s4.heap := by rw [← hs4]; exact t4
  -- the iterator's objects stand outside of the block
  have outer : ∀ {σ' : L2.St} {H' : Hp} {s' : Shared}, Inv (X.blk s3 H3 scope ce fp) [] σ' H' s' → (∀ b ∈ fp, H' b = none) → ∀ b ∈ fp, FpOk (X.blk s3 H3 scope ce fp) [] H' b := fun {σ' H' s'} J n b hb =>
    ⟨n b hb, (J.ok.exf b hb).1, J.ok.exfs b hb, .inl hb, fun x c e => (J.ok.exf b hb).2 x c e, fun p hp => absurd (show p ∈ ([] : List (Addr × Obj)) ++ [] from hp) (by simp)⟩
  have loop : codeAny (model X.prog X.w) X.A (.compLoop (.SetComp vx [⟨tg, iter, ifs, 0⟩] scope pos) 0 (.ref it) (.ref D) ce) (compPost (model X.prog X.w) X.A X.xe none (EP X pins σ Q) (.ref D) s3.heap.objs.size) s4 := by
    refine compLoopS_any (fun n s' => ∃ i H', Inv (X.blk s3 H3 scope ce fp) [] (wipe σ (own.map (·.2))) H' s' ∧ tn i s'.heap ∧ (∀ b ∈ fp, H' b = none) ∧ W i n H') ?_ m0 ⟨0, H3, I4, t4', nf, w0⟩
    rintro n s5 ⟨i, H5, I5, t5, n5, w5⟩
    rcases turn i n H5 w5 with ⟨stop, fin⟩ | ⟨go, Nx, hNx, step⟩
    · -- the walk is at its end: the def goes on
      refine thnF (T.done (X.blk s3 H3 scope ce fp) rfl rfl rfl hc i [] s5 _ H5 (fun _ _ => False) I5 (outer I5 n5) t5 stop) fun r s6 ⟨hr, I6⟩ => ?_
      subst hr
      have I7 : Inv X pins σ H5 s6 := I3.call' (ch := fp) I6.os I6.base I6.hok I6.bare fun b hb => ⟨(f3 b hb).1.2.2.2.1, (f3 b hb).1.2.1, (f3 b hb).1.2.2.2.2.1, (f3 b hb).1.2.2.2.2.2⟩
      have nC : H5 s3.heap.objs.size = none := by rw [← cL]; exact I6.free
      obtain ⟨m, hn, _⟩ := I6.loc
      have hn' : s6.heap.Ns s3.heap.objs.size m := by rw [← cL]; exact hn
      obtain ⟨g0, g1, g2, g3, g4, g5⟩ := I3.fpOk (Nat.le_refl _) nC
      exact ⟨m, hn', fun h'' sb => ⟨.ref D, H5, I7.turned (t' := s6.toks) (fun b o hb e => (sb.2 b hb).trans e) g0 g1 g3 g4 g5, rfl, fin⟩⟩
    · -- one more turn
      refine thnF (T.item (X.blk s3 H3 scope ce fp) rfl rfl rfl hc i [] s5 _ H5 (fun _ _ => False) I5 (outer I5 n5) t5 go) fun r s6 ⟨u, hr, h6⟩ => ?_
      subst hr
      refine thnF h6 fun _ s7 ⟨x, H7, I7, r7, y7, t7, n7⟩ => ?_
      have I7' := I7.pinned (outer I7 n7) (T.obj _ _ t7)
      refine thnF (pg.run _ s7 _ H7 x u _ I7' r7 (step x H7 y7)) fun _ s8 ⟨σ8, H8, I8, w8, q8⟩ => ?_
      refine thnF (pt.run _ s8 σ8 H8 _ I8 q8) fun b s9 ⟨H9, I9, q9⟩ => ?_
      have again : ∀ {s' : Shared} {H' : Hp}, Inv (X.blk s3 H3 scope ce fp) ([] ++ pinsAt fp s7.heap) σ8 H' s' → Nx H' → ∃ m, m < n ∧ ∃ i H', Inv (X.blk s3 H3 scope ce fp) [] (wipe σ (own.map (·.2))) H' s' ∧ tn i s'.heap ∧ (∀ b ∈ fp, H' b = none) ∧ W i m H' := by
        intro s' H' J nx
        obtain ⟨m', hm, w'⟩ := hNx H' nx
        have stay : ∀ b ∈ fp, ∀ o, s7.heap.get? b = some o → s'.heap.get? b = some o ∧ H' b = none := fun b hb o e => by
          have z := J.pin (b, o) (List.mem_append_right _ (List.mem_append_right _ (mem_pinsAt hb e)))
          exact ⟨z.1, z.2.1⟩
        refine ⟨m', hm, i + 1, H', (J.unpinned (pins := [])).weak (by rw [← w8, wipe_length]) (fun j v e => ?_), T.keep _ _ _ t7 fun b hb o e => (stay b hb o e).1, fun b hb => ?_, w'⟩
        · rw [← w8] at e; exact (wipe_some e).1
        · obtain ⟨o, e, _⟩ := T.obj _ _ t7 b hb
          exact (stay b hb o e).2
      cases b with
      | false =>
        simp only [Bool.false_eq_true, if_false] at q9 ⊢
        exact again I9 q9
      | true =>
        simp only [if_true] at q9 ⊢
        refine thnF (pe.run _ s9 σ8 H9 _ I9 q9) fun vv s11 ⟨yv, H11, I11, r11, ms, z, ez, hD11, hz11, nx⟩ => ?_
        subst ez
        obtain ⟨tk, rfl⟩ := r11
        exact addT_ok (X := X.blk s3 H3 scope ce fp) I11 hD11 hz11 fun s12 I12 => again I12 nx
  exact codeAny_compStart_set loop (T.self X.A 0 _ _ _ t4' loop)

def tv : Value → Str
  | .str x _ => x
  | _ => Str.empty
theorem vals_tv : ∀ {us : List Value}, (∀ u ∈ us, ∃ x k, u = Value.str x k) → Vals ((us.map tv).map V.str) us
  | [], _ => .nil
  | u :: us, h => by
    obtain ⟨x, k, rfl⟩ := h u (List.mem_cons.mpr (.inl rfl))
    exact .cons ⟨k, rfl⟩ (vals_tv fun v hv => h v (List.mem_cons.mpr (.inr hv)))
/-- sorted of a set of texts -/
def rSortedTx (w : World) : List V → Hp → VK → Prop := fun xs H Q => ∃ (a : Addr) (ms : List Str), xs = [.ref a] ∧ H a = some (TxO w a ms) ∧ ms.length < 64 ∧ ∀ (ys : List Str) (p : Addr), ys.Perm ms → sortedS ys = true → H p = none → Q (.ref p) (upd H p (.lst (ys.map V.str)))
theorem cr_sortedTx (hc : X.calm = true) : CallR X (.builtin "sorted") (rSortedTx X.w) := by
  intro pins s σ H xs us Q I r h
  obtain ⟨a, ms, rfl, ha, h64, q⟩ := h
  obtain rfl := Vals.ref1 r
  obtain ⟨ob, es, n, tb, h1, h2, h3, ok, hb, hf, hr, hl⟩ := (I.hok a _ ha).1
  refine PySem.Calls.call_function_entry kind_sorted plain_sorted entry_sorted (args_sorted1 _) ?_
  unfold Builtin.«sorted»
  refine wpAny_bind (m := checkCount "sorted" 1 1 _) (wpAny_pure ?_)
  refine wpAny_bind (collect_set (A := X.A.in1) (I.ok.hd hc) ⟨ob, h1, h2.1, h3⟩ hf hb hr hl fun s1 vs k1 hz g1 o1 pm => ?_)
  have I1 : Inv X pins σ H s1 := I.call' (ch := []) o1 (Un.kept k1) (I.hok.kept k1) (by rw [g1]; exact I.bare) (fun _ z => nomatch z)
  have hstr : ∀ u ∈ vs, ∃ x k, u = Value.str x k := fun u hu => by
    obtain ⟨e, he, rfl⟩ := List.mem_map.mp (pm.mem_iff.mp hu)
    obtain ⟨x, k, z, _⟩ := ok.good e he
    exact ⟨x, k, z⟩
  have hS : StrsAre vs (vs.map tv) := strsAre_of (vals_tv hstr)
  have pv : (vs.map tv).Perm ms := by
    refine (pm.map tv).trans ?_
    rw [List.map_map]
    refine List.Perm.trans (List.Perm.of_eq (List.map_congr_left fun e _ => ?_)) ok.pm
    unfold tx tv
    rfl
  have hvl : vs.length = ms.length := by
    have := pv.length_eq
    rwa [List.length_map] at this
  refine wpAny_bind (wpAny_newList ?_ (by rw [hvl, sizeLine_eq]; omega))
  have hL : (s1.heap.push (seqObj "list" vs.toArray 0)).get? s1.heap.objs.size = some (seqObj "list" vs.toArray 0) := Heap.get?_push_size _ rfl
  show wpAny _ _ _ _ _ { s1 with heap := s1.heap.push (seqObj "list" vs.toArray 0) }
  refine wpAny_bind (wpAny_holding (wpAny_call_entry PyProof.Rows.slot_list_sort ⟨_, hL, rfl⟩ PyProof.Rows.entry_list_sort (list_sort_treeK strKind_oneLt (s := { s1 with heap := s1.heap.push (seqObj "list" vs.toArray 0) }) hL hS.keysOf
    (fun v₁ v₂ rest e => keyKind_strs (by rw [← e]; exact hS)) (by rw [hvl]; exact h64) fun st' hp hs => ⟨_, rfl, ?_⟩) (PyProof.Rows.args_list_sort _)))
  obtain ⟨ys, z1, z2, z3⟩ := sorted_out_str hS hp hs
  obtain ⟨e', he'⟩ := PyProof.Rows.sortedHeap_at (vs := vs) (out := (arrOf st').map (·.2)) hL
  have py : ys.Perm ms := z2.trans pv
  have hlen : (ys.map V.str).length ≤ sizeLine := by
    rw [List.length_map, py.length_eq, sizeLine_eq]
    omega
  refine wpAny_pure ⟨_, rfl, .ref s1.heap.objs.size, upd H s1.heap.objs.size (.lst (ys.map V.str)), I1.laid (t' := s1.toks) (fun b u e => ?_) (Nat.le_refl _) (show ObjOk X.prog X.w _ _ _ (.lst (ys.map V.str)) from ⟨hlen, ((arrOf st').map (·.2)).toList, e', vals_of_strs z1, by rw [Array.toArray_toList]; exact he'⟩), rfl, q ys _ py z3 (I1.hok.fresh (Nat.le_refl _))⟩
  have hlt : b < s1.heap.objs.size := Heap.lt_size e
  rw [PyProof.Rows.sortedHeap_old (Nat.ne_of_lt hlt) (by rw [size_push']; exact Nat.lt_succ_of_lt hlt)]
  exact Heap.get?_push_of_some _ e
end
end Bd

set_option Elab.async false
set_option linter.all false
set_option maxRecDepth 100000
set_option maxHeartbeats 4000000
/-! Sorted texts; set comprehensions over a tuple; the negative part of rows. -/
namespace Bd
open PySem PySem.Spec PyProof.Rows L2
theorem ltCps_iff : ∀ {a b : List Nat}, ltCps a b = true ↔ a < b
  | [], [] => by simp [ltCps]
  | [], _ :: _ => by simp [ltCps]
  | _ :: _, [] => by simp [ltCps]
  | x :: a, y :: b => by
    rw [List.cons_lt_cons_iff, ← ltCps_iff (a := a) (b := b)]
    simp [ltCps]
theorem rise_le : ∀ {r : List Str} {p : Str}, risingS p r = true → (p :: r).Pairwise fun a b => a.cps.toList ≤ b.cps.toList
  | [], p, _ => by simp
  | x :: r, p, h => by
    have h2 : (!ltCps x.cps.toList p.cps.toList && risingS x r) = true := h
    rw [Bool.and_eq_true] at h2
    have ih := rise_le h2.2
    have le : p.cps.toList ≤ x.cps.toList := by
      have h3 : ltCps x.cps.toList p.cps.toList = false := by simpa using h2.1
      refine List.not_lt.mp fun z => ?_
      rw [ltCps_iff.mpr z] at h3
      cases h3
    refine List.pairwise_cons.mpr ⟨fun y hy => ?_, ih⟩
    rcases List.mem_cons.mp hy with e | e
    · rw [e]; exact le
    · exact List.le_trans le ((List.pairwise_cons.mp ih).1 y e)
theorem sorted_le {xs : List Str} (h : sortedS xs = true) : xs.Pairwise fun a b => a.cps.toList ≤ b.cps.toList := by
  cases xs with
  | nil => exact .nil
  | cons x r => exact rise_le h
theorem le_uniq : ∀ {xs ys : List Str}, xs.Pairwise (fun a b => a.cps.toList ≤ b.cps.toList) → ys.Pairwise (fun a b => a.cps.toList ≤ b.cps.toList) → xs.Perm ys → xs = ys
  | [], ys, _, _, p => (List.nil_perm.mp p).symm
  | x :: xs, [], _, _, p => absurd p.length_eq (by simp)
  | x :: xs, y :: ys, h, k, p => by
    have e : x = y := by
      refine str_ext (List.le_antisymm ?_ ?_)
      · rcases List.mem_cons.mp (p.mem_iff.mpr (List.mem_cons.mpr (.inl rfl))) with e | e
        · rw [e]; exact List.le_refl _
        · exact (List.pairwise_cons.mp h).1 y e
      · rcases List.mem_cons.mp (p.mem_iff.mp (List.mem_cons.mpr (.inl rfl))) with e | e
        · rw [e]; exact List.le_refl _
        · exact (List.pairwise_cons.mp k).1 x e
    subst e
    rw [le_uniq (List.pairwise_cons.mp h).2 (List.pairwise_cons.mp k).2 (List.perm_cons x |>.mp p)]
theorem sorted_uniq {xs ys : List Str} (h : sortedS xs = true) (k : sortedS ys = true) (p : xs.Perm ys) : xs = ys := le_uniq (sorted_le h) (sorted_le k) p
/-- lists of texts, as data -/
def encT (x : Str) : PyData := .str x
theorem vals_dp {K : PySem.W.Frag} {H : Hp} : ∀ xs : List Str, DpAll K H (xs.map V.str) (xs.map encT)
  | [] => .nil
  | x :: xs => .cons (.str x) (vals_dp xs)
theorem encT_any (ms : List Str) (x : Str) : ((ms.map encT).any fun z => PyData.eqv z (encT x)) = decide (x ∈ ms) := by
  induction ms with
  | nil => rfl
  | cons y ms ih =>
    rw [List.map_cons, List.any_cons, ih]
    have e : PyData.eqv (encT y) (encT x) = decide (y = x) := by
      simp only [encT, PyData.eqv]
      rw [Bool.eq_iff_iff]; simp
    rw [e]
    by_cases h : y = x
    · simp [h]
    · simp [h, List.mem_cons, Ne.symm h]
theorem encT_all : ∀ ms : List Str, PyData.eqvAll (ms.map encT) (ms.map encT) = true
  | [] => by simp [PyData.eqvAll]
  | x :: ms => by simp [PyData.eqvAll, encT_all ms, encT, PyData.eqv]
theorem encT_depth : ∀ ms : List Str, PyData.depthAll (ms.map encT) ≤ 1
  | [] => by simp [PyData.depthAll]
  | x :: ms => by
    have := encT_depth ms
    simp only [List.map_cons, PyData.depthAll, encT, PyData.depth]
    omega
theorem encT_lay : ∀ ms : List Str, (∀ x ∈ ms, PyData.strOk x = true) → PyData.canLayAll0 (ms.map encT) = true
  | [], _ => rfl
  | x :: ms, h => by
    have h1 := h x (List.mem_cons.mpr (.inl rfl))
    have h2 := encT_lay ms fun y hy => h y (List.mem_cons.mpr (.inr hy))
    simp [PyData.canLayAll0, encT, PyData.canLay0, h1, h2]
theorem encTs_shaped {ms : List Str} (h : ∀ x ∈ ms, PyData.strOk x = true) : SeqAt.shaped (.list (ms.map encT)) = true := by
  have := encT_depth ms
  unfold SeqAt.shaped
  simp only [PyData.canLay0, encT_lay ms h, PyData.depth, Bool.true_and]
  exact decide_eq_true (by omega)
/-- the rows with a negative quantity, turned -/
def negF (D : List (Ast × Int)) : List (Ast × Int) := (D.filter fun e => decide (e.2 < 0)).map fun e => (e.1, -e.2)
theorem negF_take {D : List (Ast × Int)} {i : Nat} {e : Ast × Int} (h : D[i]? = some e) : negF (D.take (i + 1)) = negF (D.take i) ++ (if e.2 < 0 then [(e.1, -e.2)] else []) := by
  unfold negF
  rw [List.take_add_one, h, List.filter_append, List.map_append]
  by_cases q : e.2 < 0
  · simp [q]
  · simp [q]
theorem negF_len (D : List (Ast × Int)) : (negF D).length ≤ D.length := by
  unfold negF
  rw [List.length_map]
  exact List.length_filter_le _ _
theorem pos_neg (D : List (Ast × Int)) (p : Ast) : tot (posF D) p - tot (negF D) p = tot D p := by
  induction D with
  | nil => simp [posF, negF, tot]
  | cons e D ih =>
    unfold posF negF at ih ⊢
    rw [List.filter_cons, List.filter_cons]
    by_cases h1 : 0 < e.2
    · have h2 : ¬ e.2 < 0 := by omega
      simp only [h1, h2, decide_true, decide_false, if_true, Bool.false_eq_true, if_false, tot]
      omega
    · by_cases h2 : e.2 < 0
      · simp only [h1, h2, decide_true, decide_false, if_true, Bool.false_eq_true, if_false, tot, List.map_cons]
        split <;> omega
      · have h0 : e.2 = 0 := by omega
        simp only [h1, h2, decide_false, Bool.false_eq_true, if_false, tot]
        split <;> omega
theorem negF_nrm {D : List (Ast × Int)} (h : Nrm D) : Nrm (negF D) := by
  unfold negF
  refine ⟨?_, ?_, fun e he => ?_⟩
  · rw [List.pairwise_map]
    exact List.Pairwise.filter _ h.srt
  · rw [List.map_map]
    exact ((List.filter_sublist (l := D)).map (·.1)).nodup h.nd
  · obtain ⟨f, hf, rfl⟩ := List.mem_map.mp he
    have := h.nz f (List.mem_filter.mp hf).1
    show -f.2 ≠ 0
    omega
theorem mem_of_tot {R N : List (Ast × Int)} (hn : Nrm N) (ht : ∀ p, tot N p = tot R p) {e : Ast × Int} (he : e ∈ N) : e.1 ∈ R.map (·.1) := by
  rcases Classical.em (e.1 ∈ R.map (·.1)) with z | z
  · exact z
  · have h1 := tot_at hn.nd he
    rw [ht, tot_none z] at h1
    exact absurd h1.symm (hn.nz e he)
end Bd
namespace Rb
open PySem PySem.Spec PyProof.Rows L2 Bd
/-- a set comprehension of texts over a tuple -/
theorem scJT {w : World} {K : PySem.W.Frag} {σ : L2.St} {Q : VK} {a : Addr} {xs : List V} {g : TG} {tt : TT} {te : TE} {vs : List Nat} {H1 : Hp} (Pv : Addr → Nat → Hp → Prop) (h : SqT K H1 a xs) (h0 : ∀ D, H1 D = none → Pv D 0 (upd H1 D (TxO w D [])))
    (hl : ∀ D i H, i ≤ xs.length → Pv D i H → SqT K H a xs)
    (hs : ∀ D i x H, H1 D = none → xs[i]? = some x → Pv D i H → g x (wipe σ vs) H fun σ2 H2 => wipe σ2 vs = wipe σ vs ∧ tt σ2 H2 fun t H3 =>
      if t = true then te σ2 H3 fun y H4 => ∃ ms z, y = .str z ∧ H4 D = some (TxO w D ms) ∧ ms.length + 1 < scanBound ∧ Pv D (i + 1) (upd H4 D (TxO w D (addT ms z))) else Pv D (i + 1) H3)
    (hd : ∀ D H, H1 D = none → Pv D xs.length H → Q (.ref D) H) : ∃ p, V.ref a = .ref p ∧ (∃ ys, SqT K H1 p ys) ∧ ScJ w g tt te vs σ Q (Itt K p) H1 := by
  refine ⟨a, rfl, ⟨_, h⟩, fun D hD => ⟨fun i m H => m = xs.length - i ∧ i ≤ xs.length ∧ Pv D i H, ⟨xs.length, by simp, Nat.zero_le _, h0 D hD⟩, ?_⟩⟩
  rintro i m H ⟨rfl, hi, p⟩
  have q := hl D i H hi p
  by_cases hlt : i < xs.length
  · refine .inr ⟨⟨xs, xs[i], q, by simp [hlt]⟩, Pv D (i + 1), fun H' p' => ⟨xs.length - (i + 1), by omega, rfl, hlt, p'⟩, fun x H' y => ?_⟩
    obtain ⟨e, y⟩ := y
    subst e
    exact hs D i x _ hD (y xs q) p
  · have e : i = xs.length := by omega
    subst e
    exact .inl ⟨⟨xs, q, Nat.le_refl _⟩, hd D H hD p⟩
theorem sc {w : World} {wi : TI} {g : TG} {tt : TT} {te : TE} {vs : List Nat} {σ : L2.St} {H : Hp} {Q : VK} (k : wi σ H fun J H1 => ScJ w g tt te vs σ Q J H1) : tScT w wi g tt te vs σ H Q := k
end Rb

set_option Elab.async false
set_option linter.all false
set_option maxRecDepth 100000
set_option maxHeartbeats 4000000
namespace NK05
open PySem PySem.Spec PyProof.Rows L2
def top (i : Nat) : Stmt := PySem.Challenge.pw_keptcoin_k05_split_and_policies.main.body.getD i (.Pass ⟨0, 0, 0, 0⟩)
abbrev FnP (K : PySem.W.Frag) (x : Str) (st : Stmt) (f : Addr) (fd : FuncData) : Prop := FunD K x x (defArgs st) (defBody st) (defScope st) [] [] f fd
/-- a def that keeps its promise, where the module finds it -/
structure Cal (P : Program) (w : World) (K : PySem.W.Frag) (mg : Str → Option Value) (base : Heap) (x : Str) (k : Nat) (ps : List Str) (sp : Sp) : Prop where
  ex : ∃ f fd, mg x = some (.ref f) ∧ PySem.W.keepIn K (.ref f) = true ∧ Binds K fd ps [] ∧ FnOk P w K mg base CX0 k f fd ps sp
structure CalM (P : Program) (w : World) (K : PySem.W.Frag) (mg : Str → Option Value) (base : Heap) (fa : Addr) (k : Nat) (ps : List Str) (dvs : List V) (sp : Sp) : Prop where
  ex : ∃ fd, Binds K fd ps [] ∧ FnOk P w K mg base CX0 k fa fd ps sp ∧ ∃ ds, Vals dvs ds ∧ Binds K fd ps ds
abbrev s_Bundle___init : Stmt := inClass (top 3) 0
abbrev N_Bundle___init : List Str := ["self", "rows", "sums", "asset", "quantity"]
theorem sc_Bundle___init : FnScope N_Bundle___init ["self", "rows"] (defScope s_Bundle___init) := ⟨rfl, rfl, rfl, by decide +kernel, rfl, by decide +kernel, by decide +kernel⟩
abbrev s_Bundle___add : Stmt := inClass (top 3) 6
abbrev N_Bundle___add : List Str := ["self", "other"]
theorem sc_Bundle___add : FnScope N_Bundle___add ["self", "other"] (defScope s_Bundle___add) := ⟨rfl, rfl, rfl, by decide +kernel, rfl, by decide +kernel, by decide +kernel⟩
abbrev s_Bundle___sub : Stmt := inClass (top 3) 7
abbrev N_Bundle___sub : List Str := ["self", "other"]
theorem sc_Bundle___sub : FnScope N_Bundle___sub ["self", "other"] (defScope s_Bundle___sub) := ⟨rfl, rfl, rfl, by decide +kernel, rfl, by decide +kernel, by decide +kernel⟩
abbrev s_Bundle___neg : Stmt := inClass (top 3) 8
abbrev N_Bundle___neg : List Str := ["self", "asset", "quantity"]
theorem sc_Bundle___neg : FnScope N_Bundle___neg ["self"] (defScope s_Bundle___neg) := ⟨rfl, rfl, rfl, by decide +kernel, rfl, by decide +kernel, by decide +kernel⟩
abbrev s_policies : Stmt := top 5
abbrev N_policies : List Str := ["bundle", "asset", "quantity"]
theorem sc_policies : FnScope N_policies ["bundle"] (defScope s_policies) := ⟨rfl, rfl, rfl, by decide +kernel, rfl, by decide +kernel, by decide +kernel⟩
abbrev s_split : Stmt := top 6
abbrev N_split : List Str := ["bundle", "gains", "losses", "asset", "quantity"]
theorem sc_split : FnScope N_split ["bundle"] (defScope s_split) := ⟨rfl, rfl, rfl, by decide +kernel, rfl, by decide +kernel, by decide +kernel⟩
abbrev s_law_cell : Stmt := top 8
abbrev N_law_cell : List Str := ["script", "k"]
theorem sc_law_cell : FnScope N_law_cell ["script", "k"] (defScope s_law_cell) := ⟨rfl, rfl, rfl, by decide +kernel, rfl, by decide +kernel, by decide +kernel⟩
abbrev s_law_numbers : Stmt := top 9
abbrev N_law_numbers : List Str := ["cell", "many", "rest", "size", "numbers", "k", "mixed"]
theorem sc_law_numbers : FnScope N_law_numbers ["cell", "many"] (defScope s_law_numbers) := ⟨rfl, rfl, rfl, by decide +kernel, rfl, by decide +kernel, by decide +kernel⟩
abbrev s_law_is_integer : Stmt := top 10
abbrev N_law_is_integer : List Str := ["value"]
theorem sc_law_is_integer : FnScope N_law_is_integer ["value"] (defScope s_law_is_integer) := ⟨rfl, rfl, rfl, by decide +kernel, rfl, by decide +kernel, by decide +kernel⟩
abbrev s_law_char : Stmt := top 11
abbrev N_law_char : List Str := ["number", "chars"]
theorem sc_law_char : FnScope N_law_char ["number"] (defScope s_law_char) := ⟨rfl, rfl, rfl, by decide +kernel, rfl, by decide +kernel, by decide +kernel⟩
abbrev s_law_asset : Stmt := top 12
abbrev N_law_asset : List Str := ["first", "second", "policy"]
theorem sc_law_asset : FnScope N_law_asset ["first", "second"] (defScope s_law_asset) := ⟨rfl, rfl, rfl, by decide +kernel, rfl, by decide +kernel, by decide +kernel⟩
abbrev s_law_assets : Stmt := top 13
abbrev N_law_assets : List Str := ["cell", "numbers", "assets", "more", "k"]
theorem sc_law_assets : FnScope N_law_assets ["cell", "numbers"] (defScope s_law_assets) := ⟨rfl, rfl, rfl, by decide +kernel, rfl, by decide +kernel, by decide +kernel⟩
abbrev s_law_quantity : Stmt := top 14
abbrev N_law_quantity : List Str := ["script", "k", "number"]
theorem sc_law_quantity : FnScope N_law_quantity ["script", "k", "number"] (defScope s_law_quantity) := ⟨rfl, rfl, rfl, by decide +kernel, rfl, by decide +kernel, by decide +kernel⟩
abbrev s_law_rows : Stmt := top 15
abbrev N_law_rows : List Str := ["script", "at", "numbers", "assets", "many", "rows", "k", "number"]
theorem sc_law_rows : FnScope N_law_rows ["script", "at", "numbers", "assets", "many"] (defScope s_law_rows) := ⟨rfl, rfl, rfl, by decide +kernel, rfl, by decide +kernel, by decide +kernel⟩
abbrev s_law_normal : Stmt := top 16
abbrev N_law_normal : List Str := ["rows", "found", "normal", "asset", "quantity", "row"]
theorem sc_law_normal : FnScope N_law_normal ["rows"] (defScope s_law_normal) := ⟨rfl, rfl, rfl, by decide +kernel, rfl, by decide +kernel, by decide +kernel⟩
abbrev s_law_same : Stmt := top 17
abbrev N_law_same : List Str := ["actual", "expected", "k", "row"]
theorem sc_law_same : FnScope N_law_same ["actual", "expected"] (defScope s_law_same) := ⟨rfl, rfl, rfl, by decide +kernel, rfl, by decide +kernel, by decide +kernel⟩
abbrev s_law : Stmt := top 18
abbrev N_law : List Str := ["script", "numbers", "assets", "many", "rows", "normal", "bundle", "answer", "expected", "found", "asset", "quantity", "row"]
theorem sc_law : FnScope N_law ["script"] (defScope s_law) := ⟨rfl, rfl, rfl, by decide +kernel, rfl, by decide +kernel, by decide +kernel⟩

open Bd
def coinA : Ast := (Rd.S [], 0)
theorem encT_shaped {x : Str} (h : PyData.strOk x = true) : SeqAt.shaped (encT x) = true := by
  unfold SeqAt.shaped encT
  simp only [PyData.canLay0, h, PyData.depth, Bool.true_and]
  exact decide_eq_true (by omega)
/-- a good asset: the one without a policy is coin -/
def GA (x : Ast) : Prop := OkA x ∧ (x.1 = Rd.S [] → x = coinA)
def GR (R : List (Ast × Int)) : Prop := ∀ e ∈ R, GA e.1
theorem GR.ok {R : List (Ast × Int)} (h : GR R) : OkR R := fun e he => (h e he).1
theorem GR.tot {R N : List (Ast × Int)} (h : GR R) (hn : Nrm N) (ht : ∀ p, Bd.tot N p = Bd.tot R p) : GR N := fun e he => by
  obtain ⟨f, hf, ef⟩ := List.mem_map.mp (mem_of_tot hn ht he)
  rw [← ef]; exact h f hf
/-- the policies of the first i rows, each once -/
def pols (D : List (Ast × Int)) : List Str := D.foldl (fun ms e => if e.1 = coinA then ms else addT ms e.1.1) []
theorem pols_take {D : List (Ast × Int)} {i : Nat} {e : Ast × Int} (h : D[i]? = some e) : pols (D.take (i + 1)) = if e.1 = coinA then pols (D.take i) else addT (pols (D.take i)) e.1.1 := by
  unfold pols
  rw [List.take_add_one, h, List.foldl_append]
  rfl
theorem addT_len (ms : List Str) (x : Str) : (addT ms x).length ≤ ms.length + 1 := by
  unfold addT
  split
  · omega
  · rw [List.length_append]; simp
theorem pols_len {D : List (Ast × Int)} {ms : List Str} : (D.foldl (fun ms e => if e.1 = coinA then ms else addT ms e.1.1) ms).length ≤ ms.length + D.length := by
  induction D generalizing ms with
  | nil => simp
  | cons e D ih =>
    rw [List.foldl_cons, List.length_cons]
    refine Nat.le_trans ih ?_
    have := addT_len ms e.1.1
    split <;> omega
theorem addT_ok' {ms : List Str} {x : Str} {P : Str → Prop} (h : ∀ y ∈ ms, P y) (hx : P x) : ∀ y ∈ addT ms x, P y := fun y hy => by
  unfold addT at hy
  split at hy
  · exact h y hy
  · rcases List.mem_append.mp hy with z | z
    · exact h y z
    · rw [List.mem_singleton.mp z]; exact hx
theorem pols_ok {D : List (Ast × Int)} (hD : OkR D) : ∀ {ms : List Str}, (∀ y ∈ ms, PyData.strOk y = true) → ∀ y ∈ D.foldl (fun ms e => if e.1 = coinA then ms else addT ms e.1.1) ms, PyData.strOk y = true := by
  induction D with
  | nil => intro ms h; exact h
  | cons e D ih =>
    intro ms h
    rw [List.foldl_cons]
    refine ih (fun f hf => hD f (List.mem_cons.mpr (.inr hf))) ?_
    split
    · exact h
    · exact addT_ok' h (hD e (List.mem_cons.mpr (.inl rfl)))
/-- a list of assets -/
def AssL (H : Hp) (vs : List V) : Prop := ∀ v ∈ vs, ∃ (z : Addr) (x : Ast), v = V.ref z ∧ H z = some (.tup [.str x.1, .int x.2]) ∧ GA x
theorem AssL.keep {H H' : Hp} {vs : List V} (h : AssL H vs) (e : Same H H') : AssL H' vs := fun v hv => by
  obtain ⟨z, x, q, h, o⟩ := h v hv
  exact ⟨z, x, q, e _ _ h, o⟩
theorem AssL.nil {H : Hp} : AssL H [] := fun _ h => absurd h List.not_mem_nil
theorem AssL.app {H : Hp} {vs : List V} {z : Addr} {x : Ast} (h : AssL H vs) (hz : H z = some (.tup [.str x.1, .int x.2])) (o : GA x) : AssL H (vs ++ [.ref z]) := fun v hv => by
  rcases List.mem_append.mp hv with h1 | h1
  · exact h v h1
  · exact ⟨z, x, List.mem_singleton.mp h1, hz, o⟩
theorem AssL.append {H : Hp} {vs ws : List V} (h : AssL H vs) (k : AssL H ws) : AssL H (vs ++ ws) := fun v hv => (List.mem_append.mp hv).elim (h v) (k v)
theorem AssL.put {H : Hp} {vs : List V} {D : Addr} {o : HO} (h : AssL H vs) (hD : ∃ xs, H D = some (.lst xs)) : AssL (upd H D o) vs := fun v hv => by
  obtain ⟨z, x, q, e, o⟩ := h v hv
  obtain ⟨xs, hD⟩ := hD
  exact ⟨z, x, q, (upd_ne fun y => by rw [y, hD] at e; cases e).trans e, o⟩
theorem dig10 {i : Int} (h0 : 0 ≤ i) (h1 : i < 10) : ∃ l, Str.ofString (toString i) = Rd.S l ∧ l.length ≤ 5 ∧ ∀ c ∈ l, c < 1000 := by
  have e : i = 0 ∨ i = 1 ∨ i = 2 ∨ i = 3 ∨ i = 4 ∨ i = 5 ∨ i = 6 ∨ i = 7 ∨ i = 8 ∨ i = 9 := by omega
  rcases e with rfl | rfl | rfl | rfl | rfl | rfl | rfl | rfl | rfl | rfl
  all_goals exact ⟨_, Rd.S_of _, by decide +kernel, by decide +kernel⟩
def B3 (ns : List Int) : Prop := ∀ x ∈ ns, 0 ≤ x ∧ x < 1000

def sp_Bundle___init (K : PySem.W.Frag) : Sp := fun vs H Q _ => ∃ (b dx a : Addr) (xs : List V) (R : List (Ast × Int)), vs = [.ref b, .ref a] ∧ (H b = some (.ins (He.ga K "Bundle") dx [])) ∧ (SqL K H a xs ∨ SqT K H a xs) ∧ (RowL H xs R) ∧ (R.length ≤ 1000) ∧ (∀ H' N, (∀ a o, a ≠ b → H a = some o → H' a = some o) → Nrm N → (∀ p, tot N p = tot R p) → BdAt K H' b N → Q .non H')
def sp_Bundle___add (K : PySem.W.Frag) : Sp := fun vs H Q _ => ∃ (b c : Addr) (N M : List (Ast × Int)), vs = [.ref b, .ref c] ∧ (BdAt K H b N) ∧ (BdAt K H c M) ∧ (N.length + M.length ≤ 1000) ∧ (∀ H' e L, Same H H' → Nrm L → (∀ p, tot L p = tot N p + tot M p) → BdAt K H' e L → Q (.ref e) H')
def sp_Bundle___sub (K : PySem.W.Frag) : Sp := fun vs H Q _ => ∃ (b c : Addr) (N M : List (Ast × Int)), vs = [.ref b, .ref c] ∧ (BdAt K H b N) ∧ (BdAt K H c M) ∧ (N.length + M.length ≤ 1000) ∧ (∀ H' e L, Same H H' → Nrm L → (∀ p, tot L p = tot N p - tot M p) → BdAt K H' e L → Q (.ref e) H')
def sp_Bundle___neg (K : PySem.W.Frag) : Sp := fun vs H Q _ => ∃ (b : Addr) (N : List (Ast × Int)), vs = [.ref b] ∧ (BdAt K H b N) ∧ (N.length ≤ 1000) ∧ (∀ H' c M, Same H H' → Nrm M → (∀ p, tot M p = - tot N p) → BdAt K H' c M → Q (.ref c) H')
def sp_policies (K : PySem.W.Frag) : Sp := fun vs H Q _ => ∃ (b : Addr) (N : List (Ast × Int)), vs = [.ref b] ∧ (BdAt K H b N) ∧ (N.length ≤ 60) ∧ (OkR N) ∧ (∀ p ys H', Same H H' → H p = none → H' p = some (.lst (ys.map V.str)) → ys.Perm (pols N) → sortedS ys = true → Q (.ref p) H')
def sp_split (K : PySem.W.Frag) : Sp := fun vs H Q _ => ∃ (b : Addr) (N : List (Ast × Int)), vs = [.ref b] ∧ (BdAt K H b N) ∧ (N.length ≤ 1000) ∧ (∀ H' p g l, Same H H' → H' p = some (.tup [.ref g, .ref l]) → BdAt K H' g (posF N) → BdAt K H' l (negF N) → Q (.ref p) H')
def sp_law_cell (K : PySem.W.Frag) : Sp := fun vs H Q _ => ∃ (a : Addr) (ns : List Int) (i : Int), vs = [.ref a, .int i] ∧ (SqL K H a (ns.map V.int)) ∧ (0 ≤ i) ∧ (∀ z, Q (.int z) H)
def sp_law_numbers (K : PySem.W.Frag) : Sp := fun vs H Q _ => ∃ (c m : Int), vs = [.int c, .int m] ∧ (0 ≤ m ∧ m ≤ 1000) ∧ (∀ p (nums : List Int) H', Same H H' → H p = none → H' p = some (.lst (nums.map V.int)) → nums.length = m.toNat → B3 nums → Q (.ref p) H')
def sp_law_is_integer (K : PySem.W.Frag) : Sp := fun vs H Q _ => ∃ (i : Int), vs = [.int i] ∧ (Q (.bl true) H)
def sp_law_char (K : PySem.W.Frag) : Sp := fun vs H Q _ => ∃ (i : Int), vs = [.int i] ∧ (∀ c : Nat, c < 1000 → Q (.str (Rd.S [c])) H)
def sp_law_asset (K : PySem.W.Frag) : Sp := fun vs H Q _ => ∃ (f s : Int), vs = [.int f, .int s] ∧ (0 ≤ f ∧ f < 1000) ∧ (0 ≤ s ∧ s < 1000) ∧ (∀ p (x : Ast) H', Same H H' → H p = none → H' p = some (.tup [.str x.1, .int x.2]) → GA x → Q (.ref p) H')
def sp_law_assets (K : PySem.W.Frag) : Sp := fun vs H Q _ => ∃ (c : Int) (b : Addr) (ns : List Int), vs = [.int c, .ref b] ∧ (H b = some (.lst (ns.map V.int))) ∧ (ns.length = 24) ∧ (B3 ns) ∧ (∀ p vs H', Same H H' → H p = none → H' p = some (.lst vs) → AssL H' vs → 4 ≤ vs.length → vs.length ≤ 12 → Q (.ref p) H')
def sp_law_quantity (K : PySem.W.Frag) : Sp := fun vs H Q _ => ∃ (a : Addr) (ns : List Int) (i j : Int), vs = [.ref a, .int i, .int j] ∧ (SqL K H a (ns.map V.int)) ∧ (0 ≤ i) ∧ (∀ z, Q (.int z) H)
def sp_law_rows (K : PySem.W.Frag) : Sp := fun vs H Q _ => ∃ (a b d : Addr) (ns ms : List Int) (ws : List V) (i m : Int), vs = [.ref a, .int i, .ref b, .ref d, .int m] ∧ (SqL K H a (ns.map V.int)) ∧ (0 ≤ i) ∧ (H b = some (.lst (ms.map V.int))) ∧ (0 < ms.length) ∧ (B3 ms) ∧ (H d = some (.lst ws)) ∧ (AssL H ws) ∧ (0 < ws.length) ∧ (0 ≤ m ∧ m ≤ 300) ∧ (∀ p xs R H', Same H H' → H p = none → H' p = some (.lst xs) → RowL H' xs R → GR R → R.length = m.toNat → Q (.ref p) H')
def sp_law_normal (K : PySem.W.Frag) : Sp := fun vs H Q _ => ∃ (a : Addr) (xs : List V) (R : List (Ast × Int)), vs = [.ref a] ∧ (H a = some (.lst xs)) ∧ (RowL H xs R) ∧ (OkR R) ∧ (R.length ≤ 400) ∧ (∀ p ys N H', Same H H' → H' p = some (.tup ys) → RowL H' ys N → Nrm N → (∀ x, tot N x = tot R x) → Q (.ref p) H')
def sp_law_same (K : PySem.W.Frag) : Sp := fun vs H Q _ => ∃ (a e : Addr) (xs ys : List V) (N : List (Ast × Int)), vs = [.ref a, .ref e] ∧ (H a = some (.tup xs)) ∧ (H e = some (.tup ys)) ∧ (RowL H xs N) ∧ (RowL H ys N) ∧ (OkR N) ∧ (N.length ≤ 1000) ∧ (Q (.bl true) H)
def sp_law (K : PySem.W.Frag) : Sp := fun vs H Q _ => ∃ (a : Addr) (ns : List Int), vs = [.ref a] ∧ (SqL K H a (ns.map V.int)) ∧ (ns.length ≤ 63) ∧ (∀ H', Q (.bl true) H')
local macro_rules | `(tactic| walk_at "cnd") => `(tactic| first
  | ((with_reducible show CMul _ _); first | (exact Or.inl (And.intro (by omega) (by omega))) | (exact Or.inr (And.intro (by omega) (by omega))))
  | ((with_reducible show CDiv _ _); exact And.intro (by omega) (by omega))
  | ((with_reducible show CPow _ _); exact And.intro (by omega) (And.intro (by omega) (by omega)))
  | ((with_reducible show Rd.CDivX _ _); exact Rd.cdivX' (by omega) (by omega))
  | ((with_reducible show (_ : Int) < _); omega)
  | ((with_reducible show (_ : Int) ≠ _); omega))
local macro_rules | `(tactic| walk_at "hp") => `(tactic| first
  | assumption
  | (with_reducible exact Rd.slL)
  | (with_reducible exact Rd.slT)
  | (with_reducible exact upd_same)
  | ((with_reducible refine SqL.of ?_); walk_at "hq")
  | ((with_reducible refine SqT.of ?_); walk_at "hq")
  | ((with_reducible refine Rd.nl ‹_› ?_); walk_at "hp")
  | ((with_reducible refine Rd.nt ‹_› ?_); walk_at "hp")
  | ((with_reducible refine Rd.nh ‹_› ?_); walk_at "hp")
  | ((with_reducible refine Rd.ul (by assumption) ?_); walk_at "hp")
  | ((with_reducible refine Rd.ut (by assumption) ?_); walk_at "hp")
  | ((with_reducible refine Rd.uh (by assumption) ?_); walk_at "hp")
  | ((with_reducible refine Same.seq ‹Same _ _› ?_); walk_at "hp")
  | ((with_reducible refine Rd.same_tup ‹Same _ _› ?_); walk_at "hp")
  | ((with_reducible refine (‹Same _ _› : Same _ _) _ _ ?_); walk_at "hp")
  | walk_at "hq2")
local macro_rules | `(tactic| walk_at "hq") => `(tactic| first
  | assumption
  | (with_reducible exact upd_same)
  | ((with_reducible refine Rd.nh ‹_› ?_); walk_at "hq")
  | ((with_reducible refine Rd.uh (by assumption) ?_); walk_at "hq")
  | ((with_reducible refine (‹Same _ _› : Same _ _) _ _ ?_); walk_at "hq")
  | walk_at "hq2")
local macro_rules | `(tactic| walk_at "rd1") => `(tactic| first
  | (with_reducible refine Rd.seq ?_)
  | (with_reducible refine Rd.asg ?_)
  | (with_reducible refine Rd.opIsN ?_)
  | (with_reducible refine Rd.opNotN ?_)
  | (with_reducible refine Rd.opAddS ?_)
  | (with_reducible refine Rd.opInS ?_)
  | (with_reducible refine Rd.op ?_)
  | (with_reducible refine Rd.cst ?_)
  | ((with_reducible show tVar _ _ _ _); refine Rd.var rfl ?_)
  | (with_reducible refine Rd.cons ?_)
  | (with_reducible refine Rd.nil ?_)
  | (with_reducible refine Rd.opI0 ?_)
  | ((with_reducible show rI CPow _ (V.int 10) (V.int _) _ _); refine Rd.pw (z := 1000000000000000) ⟨by decide, by decide, by decide⟩ (by decide) ?_)
  | ((with_reducible show rI CPow _ (V.int 10) (V.int _) _ _); refine Rd.pw (z := 1000000000000000000) ⟨by decide, by decide, by decide⟩ (by decide) ?_)
  | ((with_reducible show rI CPow _ (V.int 10) (V.int _) _ _); refine Rd.pw (z := 1000000000) ⟨by decide, by decide, by decide⟩ (by decide) ?_)
  | ((with_reducible refine Rd.opI ?_ ?_); (first | walk_at "cnd" | skip))
  | (with_reducible refine Rd.ret ?_)
  | (with_reducible refine Rd.ifS ?_)
  | (with_reducible refine Rd.tst ?_)
  | (with_reducible refine Rd.tB_ ?_)
  | (with_reducible refine Rd.bl ?_)
  | (with_reducible refine Rd.eqI ?_)
  | (with_reducible refine Rd.eqS' ?_)
  | (with_reducible refine Rd.eqS ?_)
  | (with_reducible refine Rd.eqB ?_)
  | (with_reducible refine Rd.neI ?_)
  | (with_reducible refine Rd.neS' ?_)
  | (with_reducible refine Rd.neS ?_)
  | (with_reducible refine Rd.neB ?_)
  | (with_reducible refine Rd.callN ?_)
  | (with_reducible refine Rd.cbLen ?_)
  | (with_reducible refine Rd.cbLenS ?_)
  | (with_reducible refine Rd.cbInt ?_)
  | (with_reducible refine Rd.cbIntS ?_)
  | (with_reducible refine Rd.cbAbs ?_)
  | (with_reducible refine Rd.cbStrI ?_)
  | (with_reducible refine Rd.cbLst ?_)
  | (with_reducible refine Rd.cbTup ?_)
  | (with_reducible refine Rd.cbMax2 ?_)
  | (with_reducible refine Rd.cbMin2 ?_)
  | (with_reducible refine Rd.cb ?_)
  | (with_reducible refine Rd.isN' ?_)
  | (with_reducible refine Rd.notN' ?_)
  | (with_reducible refine Rd.intB ?_)
  | (with_reducible refine Rd.max2 (fun _ _ _ _ => ?_))
  | (with_reducible refine Rd.min2 (fun _ _ _ _ => ?_))
  | (with_reducible refine Rd.int1 ?_)
  | (with_reducible refine Rd.abs1 (fun _ _ _ => ?_))
  | (with_reducible refine Rd.un ?_)
  | (with_reducible refine Rd.opU ?_)
  | (with_reducible refine Rd.tup ?_)
  | (with_reducible refine Rd.lst ?_)
  | (with_reducible refine Rd.len (Nat.le_of_ble_eq_true rfl) (fun _ _ => ?_))
  | (with_reducible refine Rd.next ?_)
  | (with_reducible refine Rd.chain ?_)
  | (with_reducible refine Rd.andV ?_)
  | (with_reducible refine Rd.orV ?_)
  | (with_reducible refine Rd.notV ?_)
  | (with_reducible refine Rd.and_ ?_)
  | (with_reducible refine Rd.or_ ?_)
  | (with_reducible refine Rd.not_ ?_)
  | (with_reducible refine Rd.ifE ?_)
  | (with_reducible refine Rd.iteT ?_)
  | (with_reducible refine Rd.iteF ?_)
  | (with_reducible refine Rd.iteD (fun _ => ?_) (fun _ => ?_))
  | (with_reducible refine Rd.iteN (fun _ => ?_) (fun _ => ?_))
  | (with_reducible refine Rd.drop ?_)
  | (with_reducible refine Rd.app ?_)
  | ((with_reducible refine Rd.tyL (xs := ?xs) ?h ?_); (case h => walk_at "hq"))
  | ((with_reducible refine Rd.appd (xs := ?xs) ?h ?z ?_); (case h => walk_at "hq"); (case z => walk_at "sz"))
  | ((with_reducible refine Rd.setL (xs := ?xs) (j := ?j) ?h ?e ?_); (case h => walk_at "hq"); (case e => rfl))
  | ((with_reducible refine Rd.lenL (ys := ?ys) ?h rfl ?_); (case h => walk_at "hp"))
  | ((with_reducible refine Rd.lenT (ys := ?ys) ?h rfl ?_); (case h => walk_at "hp"))
  | ((with_reducible refine Rd.ixL (xs := ?xs) (v := ?v) ?h ?a ?_); (case h => walk_at "hp"); (case a => walk_at "ix"))
  | ((with_reducible refine Rd.ixT (xs := ?xs) (v := ?v) ?h ?a ?_); (case h => walk_at "hp"); (case a => walk_at "ix"))
  | ((with_reducible refine Rd.isiI (r := ?r) ?e ?_); (case e => first | exact Rd.kb_int_int | exact Rd.kb_int_bool | exact Rd.kb_int_str | exact Rd.kb_int_tuple | exact Rd.kb_int_list | exact Rd.kb_int_dict))
  | ((with_reducible refine Rd.isiB (r := ?r) ?e ?_); (case e => first | exact Rd.kb_bool_int | exact Rd.kb_bool_bool | exact Rd.kb_bool_str | exact Rd.kb_bool_tuple | exact Rd.kb_bool_list | exact Rd.kb_bool_dict))
  | ((with_reducible refine Rd.isiS (r := ?r) ?e ?_); (case e => first | exact Rd.kb_str_int | exact Rd.kb_str_bool | exact Rd.kb_str_str | exact Rd.kb_str_tuple | exact Rd.kb_str_list | exact Rd.kb_str_dict))
  | ((with_reducible refine Rd.isiN (r := ?r) ?e ?_); (case e => first | exact Rd.kb_NoneType_int | exact Rd.kb_NoneType_bool | exact Rd.kb_NoneType_str | exact Rd.kb_NoneType_tuple | exact Rd.kb_NoneType_list | exact Rd.kb_NoneType_dict))
  | ((with_reducible refine Rd.isiT (xs := ?xs) (r := ?r) ?h ?e ?_); (case h => walk_at "hp"); (case e => first | exact Rd.kb_tuple_int | exact Rd.kb_tuple_bool | exact Rd.kb_tuple_str | exact Rd.kb_tuple_tuple | exact Rd.kb_tuple_list | exact Rd.kb_tuple_dict))
  | ((with_reducible refine Rd.isiL (xs := ?xs) (r := ?r) ?h ?e ?_); (case h => walk_at "hp"); (case e => first | exact Rd.kb_list_int | exact Rd.kb_list_bool | exact Rd.kb_list_str | exact Rd.kb_list_tuple | exact Rd.kb_list_list | exact Rd.kb_list_dict))
  | (with_reducible refine Rd.iteNT ?_)
  | (with_reducible refine Rd.iteNF ?_)
  | (with_reducible refine Rd.iteB (fun _ => ?_) (fun _ => ?_))
  | (with_reducible refine Rd.asgS ?_)
  | (with_reducible refine Rd.for_ ?_)
  | (with_reducible refine Rd.iR1 ?_)
  | (with_reducible refine Rd.iR2 ?_)
  | (with_reducible refine Rd.iL ?_)
  | (with_reducible refine Rd.iT ?_)
  | (with_reducible refine Rd.lc_ ?_)
  | (with_reducible refine Rd.brk ?_)
  | (with_reducible refine Rd.cont ?_)
  | (with_reducible refine Rd.retN ?_)
  | (with_reducible refine Rd.sl ?_)
  | ((with_reducible show tAug _ _ _ _ _ _); refine Rd.aug rfl ?_)
  | (with_reducible refine Rd.augI ?_)
  | (with_reducible refine Rd.inS ?_)
  | (with_reducible refine Rd.bm0 ?_)
  | (with_reducible refine Rd.revL ?_)
  | ((with_reducible refine Rd.slL' (xs := ?xs) ?h (fun _ _ => ?_)); (case h => walk_at "hp"))
  | ((with_reducible refine Rd.revL' (xs := ?xs) ?h (fun _ _ => ?_)); (case h => walk_at "hp"))
  | ((with_reducible refine Rd.catL (xs := ?xs) (ys := ?ys) ?a ?b ?z (fun _ _ => ?_)); (case a => walk_at "hq"); (case b => walk_at "hq"); (case z => walk_at "sz"))
  | (with_reducible refine Rd.nopart ?_)
  | (with_reducible refine Rd.part ?_)
  | (with_reducible refine Rd.part' ?_)
  | (with_reducible refine Rd.whlN ?_)
  | ((with_reducible refine Rd.addS' ?h ?_); (case h => walk_at "tz"))
  | ((with_reducible refine Rd.lenS' ?h ?_); (case h => walk_at "tz"))
  | ((with_reducible refine Rd.mulS1 ?h ?_); (case h => omega))
  | ((with_reducible refine Rd.ixS (c := ?c) ?h ?a ?_); (case h => walk_at "tz"); (case a => walk_at "ixs"))
  | walk_at "use")
local macro_rules | `(tactic| walk_at "sz") => `(tactic| first
  | (simp only [List.length_map, List.length_append, List.length_cons, List.length_nil]; omega)
  | omega | decide)
local macro_rules | `(tactic| walk_at "tz") => `(tactic| first
  | omega
  | (simp only [List.length_append, List.length_cons, List.length_nil, List.length_replicate]; omega)
  | decide)
local macro_rules | `(tactic| walk_at "ixs") => `(tactic| first
  | assumption
  | ((with_reducible show atI (_ :: _) _ = _); (first | rfl | exact Rd.atI_of (by decide) rfl)))
local macro_rules | `(tactic| walk_at "ix") => `(tactic| first
  | (with_reducible refine Rd.atI_ints ?_ ?_ <;> omega)
  | ((with_reducible show atI (_ :: _) _ = _); (first | rfl | exact Rd.atI_of (by decide) rfl))
  | ((with_reducible show atI (List.set (_ :: _) _ _) _ = _); rfl))
local macro_rules | `(tactic| walk_at "rd") => `(tactic| repeat' (walk_at "rd1"))
local macro_rules | `(tactic| walk_at "sm") => `(tactic| first
  | (with_reducible exact Same.refl _)
  | assumption
  | ((with_reducible refine Same.trans ?_ (Rd.same_new ‹_›)); walk_at "sm")
  | ((with_reducible refine Same.trans ?_ ‹Same _ _›); walk_at "sm"))

local macro_rules | `(tactic| walk_at "rj") => `(tactic| repeat' ((fail_if_success (with_reducible show tSeq (tIfS _ _ _) _ _ _ _)); walk_at "rd1"))


local macro_rules | `(tactic| walk_at "use") => `(tactic| first
  | ((with_reducible show sp_law_char _ _ _ _ _); refine ⟨_, rfl, fun _ _ => ?_⟩)
  | ((with_reducible show sp_law_is_integer _ _ _ _ _); refine ⟨_, rfl, ?_⟩)
  | ((with_reducible show sp_law_numbers _ _ _ _ _); refine ⟨_, _, rfl, by omega, fun _ _ _ _ _ _ _ _ => ?_⟩)
  | ((with_reducible show sp_law_asset _ _ _ _ _); refine ⟨_, _, rfl, ?f, ?s, fun _ _ _ _ _ _ _ => ?_⟩; (case f => walk_at "b3"); (case s => walk_at "b3"))
  | ((with_reducible show sp_law_quantity _ _ _ _ _); refine ⟨_, _, _, _, rfl, ?f, by omega, fun _ => ?_⟩; (case f => walk_at "hp")))
local macro_rules | `(tactic| walk_at "b3") => `(tactic| exact Rd.getD_bd ‹B3 _› (by omega))
theorem mkB {K : PySem.W.Frag} {H1 : Hp} {P : Addr → Hp → Prop} {E : XK} {a : Addr} {xs : List V} {R : List (Ast × Int)} (h : SqL K H1 a xs ∨ SqT K H1 a xs) (hR : RowL H1 xs R) (hl : R.length ≤ 1000)
    (k : ∀ H' c N, Same H1 H' → H1 c = none → Nrm N → (∀ p, tot N p = tot R p) → BdAt K H' c N → P c H') :
    ∀ x dx, H1 x = none → H1 dx = none → dx ≠ x → sp_Bundle___init K (.ref x :: ([.ref a] ++ [])) (upd (upd H1 dx (.own x)) x (.ins (He.ga K "Bundle") dx [])) (fun v H2 => v = .non ∧ P x H2) E := fun x dx hx hd ne => by
  have s1 : Same H1 (upd (upd H1 dx (.own x)) x (.ins (He.ga K "Bundle") dx [])) := fun b o e => by
    rw [upd_ne (ne_of_none e hx), upd_ne (ne_of_none e hd)]; exact e
  refine ⟨x, dx, a, xs, R, rfl, upd_same, h.elim (fun z => .inl (s1.seq z)) (fun z => .inr (Rd.same_tup s1 z)), hR.keep s1, hl, fun H' N kp nm tt bd => ⟨rfl, k H' x N (fun b o e => kp b o (ne_of_none e hx) (s1 b o e)) hx nm tt bd⟩⟩

theorem lit_0 : Str.ofString " !\"#$&'()*+,-./0123456789:;<=>?@ABCDEFGHIJKLMNOPQRSTUVWXYZ[\\]^_`" = Rd.S [32, 33, 34, 35, 36, 38, 39, 40, 41, 42, 43, 44, 45, 46, 47, 48, 49, 50, 51, 52, 53, 54, 55, 56, 57, 58, 59, 60, 61, 62, 63, 64, 65, 66, 67, 68, 69, 70, 71, 72, 73, 74, 75, 76, 77, 78, 79, 80, 81, 82, 83, 84, 85, 86, 87, 88, 89, 90, 91, 92, 93, 94, 95, 96] := by decide +kernel
theorem lit_1 : Str.ofString "abcdefghijklmnopqrstuvwxyz{|}~" = Rd.S [97, 98, 99, 100, 101, 102, 103, 104, 105, 106, 107, 108, 109, 110, 111, 112, 113, 114, 115, 116, 117, 118, 119, 120, 121, 122, 123, 124, 125, 126] := by decide +kernel
theorem lit_2 : Str.ofString "" = Rd.S [] := by decide +kernel
theorem lit_3 : Str.ofString "q" = Rd.S [113] := by decide +kernel
theorem lit_4 : Str.ofString "p" = Rd.S [112] := by decide +kernel
theorem lit_5 : Str.ofString "x" = Rd.S [120] := by decide +kernel
section
variable {P : Program} {w : World} {K : PySem.W.Frag} {mg : Str → Option Value} {base : Heap}
theorem bnd_Bundle___init {fd : FuncData} (F : FunD K "__init__" "Bundle.__init__" (defArgs s_Bundle___init) (defBody s_Bundle___init) (defScope s_Bundle___init) [V.ref (He.dflAt ("Bundle", some "__init__") 0 K)] [] (He.fAd K ("Bundle", some "__init__")) fd) : Binds K fd ["self", "rows"] [] := by
  obtain ⟨ds, r, b⟩ := F.binds1 (ps := ["self", "rows"]) 2 1 (by simp) rfl (fun T kV doc pm an cdv ct us its hu hi => match us, hu, its, hi with | [_, _], _, [_], _ => ⟨_, rfl, rfl⟩)
  cases r
  exact b
theorem bnd0_Bundle___init {fd : FuncData} (F : FunD K "__init__" "Bundle.__init__" (defArgs s_Bundle___init) (defBody s_Bundle___init) (defScope s_Bundle___init) [V.ref (He.dflAt ("Bundle", some "__init__") 0 K)] [] (He.fAd K ("Bundle", some "__init__")) fd) : ∃ ds, Vals [V.ref (He.dflAt ("Bundle", some "__init__") 0 K)] ds ∧ Binds K fd ["self", "rows"] ds := by
  obtain ⟨ds, r, b⟩ := F.binds1 (ps := ["self", "rows"]) 1 0 (by simp) rfl (fun T kV doc pm an cdv ct us its hu hi => match us, hu, its, hi with | [_], _, [_], _ => ⟨_, rfl, rfl⟩)
  exact ⟨ds, r, b⟩
theorem fn_Bundle___init {fd : FuncData} (F : FunD K "__init__" "Bundle.__init__" (defArgs s_Bundle___init) (defBody s_Bundle___init) (defScope s_Bundle___init) [V.ref (He.dflAt ("Bundle", some "__init__") 0 K)] [] (He.fAd K ("Bundle", some "__init__")) fd)  (z_sorted : mg "sorted" = none) (z_tuple : mg "tuple" = none) (W_Bundle : BFacts K mg) : FnOk P w K mg base CX0 1 (He.fAd K ("Bundle", some "__init__")) fd ["self", "rows"] (sp_Bundle___init K) := by
  have Bf := W_Bundle
  refine F.ok sc_Bundle___init (fun vs H Q E h => ?_) (fun cdv A outer s H vs Q E hr h => ?_)
  · obtain ⟨b, dx, a, xs, R, rfl, _⟩ := h; rfl
  · obtain ⟨b, dx, a, xs, R, rfl, hb, hx, hR, hl, k⟩ := h
    refine ⟨_, PSs.nox (pss_cons (ps_set (i := 2) sc_Bundle___init.nd rfl (by first | exact Or.inl rfl | exact Or.inr rfl) pe_dnewT)
      (pss_cons (ps_for PassesOwn.never rfl (Bd.pi_lt (pv 1)) (pg_tup (n := 2) rfl (pgs_cons (pg_name (i := 3) sc_Bundle___init.nd rfl (by first | exact Or.inl rfl | exact Or.inr rfl)) (pgs_cons (pg_name (i := 4) sc_Bundle___init.nd rfl (by first | exact Or.inl rfl | exact Or.inr rfl)) pgs_nil))) (pss_one (ps_dput (hu_of hr) (pv 2) (pv 3) (pe_op op_add (pe_dget2 (hu_of hr) (pv 2) (pv 3) pe_int ⟨rfl, rfl, rfl, rfl⟩) (pv 4)) rfl)))
      (pss_cons (ps_fld (pv 0) (Bd.pe_dcT (own := [("asset", 3)]) (hu_of hr) rfl sc_Bundle___init.nd (pi_list (pe_callB (Bd.cr_sortedDT rfl) (by rfl) z_sorted boot_sorted (pa_cons (pv 2) pa_nil))) (blkOk_by (N := N_Bundle___init) (sc := defScope s_Bundle___init) (by decide +kernel)) (fun _ _ _ _ _ => (pg_name (i := 3) sc_Bundle___init.nd rfl (by first | exact Or.inl rfl | exact Or.inr rfl))) (fun _ _ _ _ _ => pts_one (pt_cmpR op_ne (pe_dget (hu_of hr) (pv 2) (pv 3) (fun _ _ => rfl)) pe_int (nomark _))) (fun _ _ _ _ _ => (pv 3)) (fun _ _ _ _ _ => (pe_dget (hu_of hr) (pv 2) (pv 3) (fun _ _ => rfl)))) rfl)
      (pss_one (ps_fld (pv 0) (pe_callTy (Bd.cr_tupIt rfl) (by rfl) z_tuple boot_tuple (pa_cons (pe_bm0 PySem.F.plainAttrs_dict PySem.F.slot_dict_items PySem.F.type_dict_items L2.DX.mt_itemsT (pe_fld (pv 0) rfl)) pa_nil)) rfl))))), ?_⟩
    try simp only [Rd.cxK]
    refine Rd.seq (Rd.asg (Rb.dnewT fun d hd => ?_))
    have nbd : d ≠ b := fun z => by rw [z, hb] at hd; cases hd
    refine Rd.seq (Rb.forLt (i₀ := 1) (H0 := H) (fun i σ' H' => ∃ m c1 c2, σ' = [some (.ref b), some (.ref a), some (.ref d), c1, c2] ∧ Same H H' ∧ H' d = some (.dT (eD m)) ∧ Sums m (R.take i) ∧ m.length ≤ i) rfl hx (Rd.same_new hd) ⟨[], _, _, rfl, Rd.same_new hd, upd_same, Sums.nil, Nat.le_refl _⟩ (fun i σ' H' _ ⟨_, _, _, _, h, _⟩ => h) ?_ ?_)
    · rintro i x σ' H' hi ⟨m, c1, c2, rfl, hs, hm, hsum, hml⟩
      obtain ⟨z, kq, p, q, rfl, hri, hz, hkq⟩ := hR.get hi
      have hz' := hs _ _ hz
      have hkq' := hs _ _ hkq
      have hi2 : i < R.length := (List.getElem?_eq_some_iff.mp hri).1
      refine Rb.pair2 (SqT.of hz') ?_
      refine Rb.dput (Rd.op (Rb.dget2 ?_))
      refine Rd.var rfl (Rb.isD hm (Rd.var rfl (Rd.cst ?_)))
      refine Rb.dgetO hm hkq' ?_
      rw [hsum.get]
      refine Rd.var rfl (Rd.opI0 ?_)
      refine Rd.var rfl (Rd.var rfl (Rb.dputT hm hkq' (by omega) ?_))
      refine ⟨_, _, _, rfl, Rd.same_mut hs hd, upd_same, ?_, ?_⟩
      · have := hsum.put (p, q)
        rw [List.take_add_one, hri]
        exact this
      · have := length_putK m p (.int (tot (R.take i) p + q)); omega
    · rintro σ' H1 ⟨m, c1, c2, rfl, hs, hm, hsum, hml⟩
      have hlR := hR.len
      rw [hlR, List.take_length] at hsum
      refine Rd.seq (Rb.sfld (Rb.dcT ?_))
      refine Rd.cb (Rd.cons (Rd.var rfl (Rd.nil ?_)))
      refine ⟨d, m, rfl, .inl hm, fun ps l hps hsrt hperm hl => ?_⟩
      have hnd : (ps.map (·.2)).Nodup := hperm.nodup_iff.mpr hsum.nd
      have hm2 : upd H1 l (.lst (ps.map fun z => V.ref z.1)) d = some (.dT (eD m)) := Rd.same_new hl _ _ hm
      have hpl : ps.length ≤ 1000 := by
        have e := hperm.length_eq
        rw [List.length_map, List.length_map] at e
        omega
      refine Rb.dcL (fun D i H' => Same (upd H1 l (.lst (ps.map fun z => V.ref z.1))) H' ∧ H' D = some (.dT (eD ((nfOf R ((ps.take i).map (·.2))).map fun e => (e.1, V.int e.2)))) ) (SqL.of upd_same) (fun D hD => ⟨Rd.same_new hD, upd_same⟩) (fun D i H' _ h => h.1.seq (SqL.of upd_same)) ?_ ?_
      · rintro D i x H' hD hi ⟨hsm, hDm⟩
        obtain ⟨z, hz, rfl⟩ : ∃ z, ps[i]? = some z ∧ x = V.ref z.1 := by
          rw [List.getElem?_map] at hi
          cases e : ps[i]? with
          | none => rw [e] at hi; cases hi
          | some z => rw [e] at hi; exact ⟨z, rfl, (Option.some.inj hi).symm⟩
        have hzm : z ∈ ps := List.mem_of_getElem? hz
        have hk0 : H1 z.1 = some (.tup [.str z.2.1, .int z.2.2]) := hps z hzm
        have hk1 : H' z.1 = some (.tup [.str z.2.1, .int z.2.2]) := hsm _ _ (Rd.same_new hl _ _ hk0)
        have hm3 := hsm _ _ hm2
        have hmem : z.2 ∈ R.map (·.1) := (hsum.keys z.2).mp (hperm.mem_iff.mp (List.mem_map_of_mem (f := (·.2)) hzm))
        have hval : valV m z.2 = some (.int (tot R z.2)) := by rw [hsum.val, if_pos hmem]
        have htk : (ps.take (i + 1)).map (·.2) = (ps.take i).map (·.2) ++ [z.2] := by rw [List.take_add_one, hz, List.map_append]; rfl
        have hno : z.2 ∉ (ps.take i).map (·.2) := by
          have h2 : ((ps.take (i + 1)).map (·.2)).Nodup := (List.take_sublist _ _).map _ |>.nodup hnd
          rw [htk, List.nodup_append] at h2
          intro q
          exact h2.2.2 z.2 q z.2 (List.mem_singleton.mpr rfl) rfl
        refine ⟨rfl, Rd.tst (Rd.op (Rb.dget (Rd.var rfl (Rd.var rfl (Rb.dgetS hm3 hk1 hval (Rd.cst (Rd.neI (Rd.bl (Rd.iteN (fun hne => ?_) (fun he => ?_)))))))))) ⟩
        · refine Rd.var rfl (Rb.dget (Rd.var rfl (Rd.var rfl (Rb.dgetS hm3 hk1 hval ?_))))
          refine ⟨_, eK z.2, z.1, rfl, hk1, hDm, Rd.smallT ?_, Rd.same_mut hsm hD, ?_⟩
          · unfold eD
            rw [List.length_map, List.length_map]
            have := nfOf_len R ((ps.take i).map (·.2))
            simp only [List.length_map, List.length_take] at this
            omega
          · rw [upd_same, putK_eD, htk, put_nf hne hno]
        · refine ⟨hsm, ?_⟩
          rw [htk, nfOf_no he]; exact hDm
      · rintro D H2 hD ⟨hsm, hDm⟩
        rw [List.length_map, List.take_length] at hDm
        have hb2 : H2 b = some (.ins (He.ga K "Bundle") dx []) := hsm _ _ (Rd.same_new hl _ _ (hs _ _ hb))
        have nDb : D ≠ b := fun z => by
          have q := Rd.same_new (o := .lst (ps.map fun z => V.ref z.1)) hl _ _ (hs _ _ hb)
          rw [← z, hD] at q; cases q
        refine Rd.var rfl ⟨b, _, dx, [], rfl, hb2, Bf.cls, Bf.n2, by decide, ?_⟩
        have hD3 : upd H2 b (.ins (He.ga K "Bundle") dx [("_quantities", .ref D)]) D = some (.dT (eD ((nfOf R (ps.map (·.2))).map fun e => (e.1, V.int e.2)))) := (upd_ne nDb).trans hDm
        rw [show putF "_quantities" (V.ref D) [] = [(("_quantities" : Str), V.ref D)] from rfl]
        refine Rb.sfld (Rd.cb (Rd.cons (Rd.bm0 (Rb.fld (Rd.var rfl ⟨b, _, dx, _, .ref D, rfl, upd_same, Bf.cls, Bf.n2, rfl, .inr (.inr (.inl ⟨rfl, .inr ⟨_, hD3⟩⟩)), ⟨D, _, rfl, rfl, hD3, fun p hp => Rd.nil ?_⟩⟩)))))
        have npD : D ≠ p := fun z => by rw [← z, hD3] at hp; cases hp
        refine ⟨p, D, _, rfl, upd_same, (upd_ne npD).trans hD3, fun H' q zs e hq hzs htup hrow => ?_⟩
        have hbp : b ≠ p := fun z => by rw [← z, upd_same] at hp; cases hp
        have hb3 : H' b = some (.ins (He.ga K "Bundle") dx [("_quantities", .ref D)]) := e _ _ ((upd_ne hbp).trans upd_same)
        refine Rd.var rfl ⟨b, _, dx, _, rfl, hb3, Bf.cls, Bf.n1, by simp, ?_⟩
        rw [show putF "rows" (V.ref q) [(("_quantities" : Str), V.ref D)] = [(("_quantities" : Str), V.ref D), (("rows" : Str), V.ref q)] from rfl]
        have nqb : q ≠ b := fun z => by rw [z, hb3] at htup; cases htup
        have keepb : ∀ a' o, a' ≠ b → H a' = some o → upd H' b (.ins (He.ga K "Bundle") dx [("_quantities", .ref D), ("rows", .ref q)]) a' = some o := fun a' o ha e1 => by
          have e2 := hsm _ _ (Rd.same_new hl _ _ (hs _ _ e1))
          have e3 : upd H2 b (.ins (He.ga K "Bundle") dx [("_quantities", .ref D)]) a' = some o := (upd_ne ha).trans e2
          have e4 := e _ _ (Rd.same_new hp _ _ e3)
          exact (upd_ne ha).trans e4
        have hrl : RowL H' (zs.map fun z => V.ref z.1) (nfOf R (ps.map (·.2))) := RowL.zs hzs hrow
        refine k _ (nfOf R (ps.map (·.2))) keepb (nf_nrm hsrt hnd) (nf_tot hsrt hnd fun p' h' => hperm.mem_iff.mpr ((hsum.keys p').mpr h')) ⟨dx, q, D, _, upd_same, (upd_ne nqb).trans htup, hrl.keepT fun z t ht => ?_, ?_, nf_nrm hsrt hnd⟩
        · exact (upd_ne fun y => by rw [y, hb3] at ht; cases ht).trans ht
        · exact (upd_ne nDb).trans (e _ _ ((upd_ne npD).trans hD3))
theorem ok_Bundle___init {fd : FuncData} (F : FunD K "__init__" "Bundle.__init__" (defArgs s_Bundle___init) (defBody s_Bundle___init) (defScope s_Bundle___init) [V.ref (He.dflAt ("Bundle", some "__init__") 0 K)] [] (He.fAd K ("Bundle", some "__init__")) fd)  (z_sorted : mg "sorted" = none) (z_tuple : mg "tuple" = none) (W_Bundle : BFacts K mg) : CalM P w K mg base (He.fAd K ("Bundle", some "__init__")) 1 ["self", "rows"] [V.ref (He.dflAt ("Bundle", some "__init__") 0 K)] (sp_Bundle___init K) :=
  ⟨fd, (bnd_Bundle___init F), fn_Bundle___init F z_sorted z_tuple W_Bundle, (bnd0_Bundle___init F)⟩

theorem fn_policies {f : Addr} {fd : FuncData} (F : FnP K "policies" s_policies f fd)  (z_sorted : mg "sorted" = none) (W_COIN : ∃ a, mg "COIN" = some (.ref a) ∧ ∀ H, SqT K H a [V.str (Rd.S []), V.int 0]) (W_Bundle : BFacts K mg) : FnOk P w K mg base CX0 1 f fd ["bundle"] (sp_policies K) := by
  obtain ⟨a_COIN, g_COIN, h_COIN⟩ := W_COIN; have g_COIN_r : RelV (.ref a_COIN) (.ref a_COIN) := rfl
  have Bf := W_Bundle
  refine F.ok sc_policies (fun vs H Q E h => ?_) (fun cdv A outer s H vs Q E hr h => ?_)
  · obtain ⟨b, N, rfl, _⟩ := h; rfl
  · obtain ⟨b, N, rfl, hb, hl, ho, k⟩ := h
    refine ⟨_, PSs.nox (pss_one (ps_ret (pe_callB (Bd.cr_sortedTx rfl) (by rfl) z_sorted boot_sorted (pa_cons (Bd.pe_scT (own := [("asset", 1), ("quantity", 2)]) (g := (gTup K 2 (gCons (gName 1) (gCons (gName 2) gNil)))) (tt := _) rfl sc_policies.nd (pi_tup (pe_fld (pv 0) rfl)) (blkOk_by (N := N_policies) (sc := defScope s_policies) (by decide +kernel)) (fun _ _ _ _ _ => (pg_tup (n := 2) rfl (pgs_cons (pg_name (i := 1) sc_policies.nd rfl (by first | exact Or.inl rfl | exact Or.inr rfl)) (pgs_cons (pg_name (i := 2) sc_policies.nd rfl (by first | exact Or.inl rfl | exact Or.inr rfl)) pgs_nil)))) (fun _ _ _ _ _ => pts_one (pt_cmpR (Rb.op_neDK (K := K) rfl hr.units) (pv 1) (pe_glob (by rfl) g_COIN g_COIN_r) (nomark _))) (fun _ _ _ _ _ => (pe_ix (Rb.ix_tupK (K := K) rfl) (pv 1) pe_int (fun _ _ => rfl)))) pa_nil)))), ?_⟩
    try simp only [Rd.cxK]
    refine Rd.ret (Rd.cb (Rd.cons (Rb.sc (Rd.iT (Rb.fld (Rd.var rfl (Rb.rowsP Bf hb fun r xs h1 h2 => ?_)))))))
    refine Rb.scJT (fun D i H' => Same H H' ∧ H' D = some (TxO _ D (pols (N.take i)))) (SqT.of h1) (fun D hD => ⟨Rd.same_new hD, upd_same⟩) (fun D i H' _ h => SqT.of (h.1 _ _ h1)) ?_ ?_
    · rintro D i x H' hD hi ⟨hs, hDt⟩
      obtain ⟨z, kq, p, q, rfl, hri, hz, hkq⟩ := h2.get hi
      have hi2 : i < N.length := (List.getElem?_eq_some_iff.mp hri).1
      have hkq' := hs _ _ hkq
      refine Rb.pair2 (SqT.of (hs _ _ hz)) ⟨rfl, ?_⟩
      refine Rd.tst (Rd.op (Rd.var rfl (Rd.cst ⟨encA p, encA coinA, .tup (SqT.of hkq') (.cons (.str _) (.cons (.int _) .nil)), .tup (h_COIN _) (.cons (.str _) (.cons (.int _) .nil)), encA_shaped (ho (p, q) (List.mem_of_getElem? hri)), by decide +kernel, ?_⟩)))
      rw [encA_eqv]
      have hpl : (pols (N.take i)).length ≤ 60 := by
        have := pols_len (D := N.take i) (ms := [])
        rw [List.length_take] at this
        simp only [List.length_nil] at this
        exact Nat.le_trans this (by omega)
      refine Rd.bl (Rd.iteN (fun hne => ?_) (fun he => ?_))
      · refine Rd.op (Rd.var rfl (Rd.cst (Rd.ixT (SqT.of hkq') (Rd.atI_of (by decide) rfl) ⟨_, p.1, rfl, hDt, Nat.lt_of_le_of_lt (Nat.succ_le_succ hpl) (by decide), Rd.same_mut hs hD, ?_⟩)))
        rw [pols_take hri, if_neg hne]
        exact upd_same
      · exact ⟨hs, by rw [pols_take hri, if_pos he]; exact hDt⟩
    · rintro D H2 hD ⟨hs, hDt⟩
      rw [h2.len, List.take_length] at hDt
      have hpl : (pols N).length ≤ 60 := Nat.le_trans (pols_len (D := N) (ms := [])) (by simp; omega)
      refine Rd.nil ⟨D, pols N, rfl, hDt, by omega, fun ys p hp hsr hn => ?_⟩
      exact k p ys _ (hs.trans (Rd.same_new hn)) (hs.free hn) upd_same hp hsr
theorem ok_policies {f : Addr} {fd : FuncData} (mf : mg "policies" = some (.ref f)) (F : FnP K "policies" s_policies f fd)  (z_sorted : mg "sorted" = none) (W_COIN : ∃ a, mg "COIN" = some (.ref a) ∧ ∀ H, SqT K H a [V.str (Rd.S []), V.int 0]) (W_Bundle : BFacts K mg) : Cal P w K mg base "policies" 1 ["bundle"] (sp_policies K) :=
  ⟨f, fd, mf, F.kp, F.bindsN fun _ _ _ _ _ _ us hl => match us, hl with | [_], _ => rfl, fn_policies F z_sorted W_COIN W_Bundle⟩

theorem fn_law_cell {f : Addr} {fd : FuncData} (F : FnP K "_law_cell" s_law_cell f fd)  (z_len : mg "len" = none) : FnOk P w K mg base CX0 1 f fd ["script", "k"] (sp_law_cell K) := by
  refine F.ok sc_law_cell (fun vs H Q E h => ?_) (fun cdv A outer s H vs Q E hr h => ?_)
  · obtain ⟨a, ns, i, rfl, _⟩ := h; rfl
  · obtain ⟨a, ns, i, rfl, hS, h0, k⟩ := h
    refine ⟨_, PSs.nox (pss_cons (ps_if (pt_cmpR op_lt (pv 1) (pe_callB call_len_seq (by rfl) z_len boot_len (pa_cons (pv 0) pa_nil)) (nomark _)) (pss_one (ps_ret (pe_ix ix_list (pv 0) (pv 1) (fun _ _ => rfl)))) pss_nil)
      (pss_one (ps_ret pe_int))), ?_⟩
    try simp only [Rd.cxK]
    walk_at "rd"
    · refine Rd.ixL hS (Rd.atI_ints h0 ?_) (k _)
      rw [← List.length_map (f := V.int)]; assumption
    · exact k _
theorem ok_law_cell {f : Addr} {fd : FuncData} (mf : mg "_law_cell" = some (.ref f)) (F : FnP K "_law_cell" s_law_cell f fd)  (z_len : mg "len" = none) : Cal P w K mg base "_law_cell" 1 ["script", "k"] (sp_law_cell K) :=
  ⟨f, fd, mf, F.kp, F.bindsN fun _ _ _ _ _ _ us hl => match us, hl with | [_, _], _ => rfl, fn_law_cell F z_len⟩

theorem fn_law_numbers {f : Addr} {fd : FuncData} (F : FnP K "_law_numbers" s_law_numbers f fd)  (z_abs : mg "abs" = none) (z_range : mg "range" = none) (z_int : mg "int" = none) : FnOk P w K mg base CX0 1 f fd ["cell", "many"] (sp_law_numbers K) := by
  refine F.ok sc_law_numbers (fun vs H Q E h => ?_) (fun cdv A outer s H vs Q E hr h => ?_)
  · obtain ⟨c, m, rfl, _⟩ := h; rfl
  · obtain ⟨c, m, rfl, hm, k⟩ := h
    refine ⟨_, PSs.nox (pss_cons (ps_set (i := 2) sc_law_numbers.nd rfl (by first | exact Or.inl rfl | exact Or.inr rfl) (pe_callB call_abs (by rfl) z_abs boot_abs (pa_cons (pv 0) pa_nil)))
      (pss_cons (ps_set (i := 3) sc_law_numbers.nd rfl (by first | exact Or.inl rfl | exact Or.inr rfl) (pv 2))
      (pss_cons (ps_set (i := 4) sc_law_numbers.nd rfl (by first | exact Or.inl rfl | exact Or.inr rfl) (pe_lst pa_nil))
      (pss_cons (ps_for PassesOwn.never rfl (pi_range1 (by rfl) z_range (pa_cons (pv 1) pa_nil)) (pg_name (i := 5) sc_law_numbers.nd rfl (by first | exact Or.inl rfl | exact Or.inr rfl)) (pss_one (ps_if (PW.pt (pw_and (pt_cmpR op_ge (pv 3) (pe_op op_pow pe_int pe_int) (nomark _)) (pw_and1 (pt_cmpR op_gt (pv 2) pe_int (nomark _))))) (pss_cons (ps_expr (pe_bm PySem.F.plainAttrs_list PySem.F.slot_list_append PySem.F.type_list_append mt_append (pv 4) (pa_cons (pe_op op_mod (pe_callTy call_int1 (by rfl) z_int boot_int (pa_cons (pv 2) pa_nil)) pe_int) pa_nil)))
      (pss_one (ps_set (i := 2) sc_law_numbers.nd rfl (by first | exact Or.inl rfl | exact Or.inr rfl) (pe_op op_fdiv (pv 2) pe_int)))) (pss_cons (ps_set (i := 6) sc_law_numbers.nd rfl (by first | exact Or.inl rfl | exact Or.inr rfl) (pe_op op_mod (pe_callTy call_int1 (by rfl) z_int boot_int (pa_cons (pe_op op_add (pe_op op_add (pe_op op_mul (pv 3) pe_int) (pe_op op_mul (pv 5) pe_int)) pe_int) pa_nil)) pe_int))
      (pss_cons (ps_set (i := 6) sc_law_numbers.nd rfl (by first | exact Or.inl rfl | exact Or.inr rfl) (pe_op op_mod (pe_callTy call_int1 (by rfl) z_int boot_int (pa_cons (pe_op op_add (pe_op op_add (pe_op op_mul (pv 6) (pv 6)) (pe_op op_mul pe_int (pv 5))) pe_int) pa_nil)) pe_int))
      (pss_one (ps_expr (pe_bm PySem.F.plainAttrs_list PySem.F.slot_list_append PySem.F.type_list_append mt_append (pv 4) (pa_cons (pe_op op_mod (pe_callTy call_int1 (by rfl) z_int boot_int (pa_cons (pe_op op_fdiv (pv 6) pe_int) pa_nil)) pe_int) pa_nil)))))))))
      (pss_one (ps_ret (pv 4))))))), ?_⟩
    try simp only [Rd.cxK]
    walk_at "rd"
    rename_i z hz0 hz1 p hp
    refine Rd.rng1 (fun i σ' H' => ∃ (r : Int) (nums : List Int) (kv mv : Option V), σ' = [some (.int c), some (.int m), some (.int r), some (.int z), some (.ref p), kv, mv] ∧ 0 ≤ r ∧ nums.length = i ∧ (∀ x ∈ nums, 0 ≤ x ∧ x < 1000) ∧ Same H H' ∧ H' p = some (.lst (nums.map V.int))) ⟨by omega, by omega⟩ ?_ ?_ ?_
    · exact ⟨z, [], _, _, rfl, hz0, rfl, by simp, Rd.same_new hp, upd_same⟩
    · rintro i σ' H' hi ⟨r, nums, kv, mv, rfl, hr0, hl, hb, hs, hp'⟩
      walk_at "rd"
      all_goals (refine ⟨_, nums ++ [_], _, _, rfl, ?_, ?_, Rd.bd_app hb ?_, Rd.same_mut hs hp, Rd.pushInts⟩ <;> first | omega | simp [hl])
    · rintro σ' H' ⟨r, nums, kv, mv, rfl, hr0, hl, hb, hs, hp'⟩
      walk_at "rd"
      exact k p nums H' hs hp hp' hl hb
theorem ok_law_numbers {f : Addr} {fd : FuncData} (mf : mg "_law_numbers" = some (.ref f)) (F : FnP K "_law_numbers" s_law_numbers f fd)  (z_abs : mg "abs" = none) (z_range : mg "range" = none) (z_int : mg "int" = none) : Cal P w K mg base "_law_numbers" 1 ["cell", "many"] (sp_law_numbers K) :=
  ⟨f, fd, mf, F.kp, F.bindsN fun _ _ _ _ _ _ us hl => match us, hl with | [_, _], _ => rfl, fn_law_numbers F z_abs z_range z_int⟩

theorem fn_law_is_integer {f : Addr} {fd : FuncData} (F : FnP K "_law_is_integer" s_law_is_integer f fd)  (z_isinstance : mg "isinstance" = none) (z_bool : mg "bool" = none) (z_int : mg "int" = none) : FnOk P w K mg base CX0 1 f fd ["value"] (sp_law_is_integer K) := by
  refine F.ok sc_law_is_integer (fun vs H Q E h => ?_) (fun cdv A outer s H vs Q E hr h => ?_)
  · obtain ⟨i, rfl, _⟩ := h; rfl
  · obtain ⟨i, rfl, k⟩ := h
    refine ⟨_, PSs.nox (pss_one (ps_ret (pe_and (pe_callB call_isi (by rfl) z_isinstance boot_isinstance (pa_cons (pv 0) (pa_cons (pe_bltn (v := .ty "int") (by rfl) z_int boot_int rfl) pa_nil))) (pe_one (pe_not (pe_callB call_isi (by rfl) z_isinstance boot_isinstance (pa_cons (pv 0) (pa_cons (pe_bltn (v := .ty "bool") (by rfl) z_bool boot_bool rfl) pa_nil)))))))), ?_⟩
    try simp only [Rd.cxK]
    walk_at "rd"
    exact k
theorem ok_law_is_integer {f : Addr} {fd : FuncData} (mf : mg "_law_is_integer" = some (.ref f)) (F : FnP K "_law_is_integer" s_law_is_integer f fd)  (z_isinstance : mg "isinstance" = none) (z_bool : mg "bool" = none) (z_int : mg "int" = none) : Cal P w K mg base "_law_is_integer" 1 ["value"] (sp_law_is_integer K) :=
  ⟨f, fd, mf, F.kp, F.bindsN fun _ _ _ _ _ _ us hl => match us, hl with | [_], _ => rfl, fn_law_is_integer F z_isinstance z_bool z_int⟩

theorem fn_law_char {f : Addr} {fd : FuncData} (F : FnP K "_law_char" s_law_char f fd)  (z_int : mg "int" = none) : FnOk P w K mg base CX0 1 f fd ["number"] (sp_law_char K) := by
  refine F.ok sc_law_char (fun vs H Q E h => ?_) (fun cdv A outer s H vs Q E hr h => ?_)
  · obtain ⟨i, rfl, _⟩ := h; rfl
  · obtain ⟨i, rfl, k⟩ := h
    refine ⟨_, PSs.nox (pss_cons (ps_set (i := 1) sc_law_char.nd rfl (by first | exact Or.inl rfl | exact Or.inr rfl) pe_str)
      (pss_cons (ps_set (i := 1) sc_law_char.nd rfl (by first | exact Or.inl rfl | exact Or.inr rfl) (pe_op op_add_str (pv 1) pe_str))
      (pss_one (ps_ret (pe_ix ix_str (pv 1) (pe_op op_mod (pe_callTy call_int1 (by rfl) z_int boot_int (pa_cons (pv 0) pa_nil)) pe_int) (fun _ _ => rfl)))))), ?_⟩
    try simp only [Rd.cxK, lit_0, lit_1]
    walk_at "rd"
    all_goals first | exact Rd.ixSall (by decide) (by omega) (by show _ < (94 : Int); omega) (fun c hc => k c (by revert c; decide))
theorem ok_law_char {f : Addr} {fd : FuncData} (mf : mg "_law_char" = some (.ref f)) (F : FnP K "_law_char" s_law_char f fd)  (z_int : mg "int" = none) : Cal P w K mg base "_law_char" 1 ["number"] (sp_law_char K) :=
  ⟨f, fd, mf, F.kp, F.bindsN fun _ _ _ _ _ _ us hl => match us, hl with | [_], _ => rfl, fn_law_char F z_int⟩

theorem fn_law_quantity {f : Addr} {fd : FuncData} (F : FnP K "_law_quantity" s_law_quantity f fd)  (z_len : mg "len" = none) (z_int : mg "int" = none) : FnOk P w K mg base CX0 1 f fd ["script", "k", "number"] (sp_law_quantity K) := by
  refine F.ok sc_law_quantity (fun vs H Q E h => ?_) (fun cdv A outer s H vs Q E hr h => ?_)
  · obtain ⟨a, ns, i, j, rfl, _⟩ := h; rfl
  · obtain ⟨a, ns, i, j, rfl, hS, h0, k⟩ := h
    refine ⟨_, PSs.nox (pss_cons (ps_if (pt_cmpR op_lt (pv 1) (pe_callB call_len_seq (by rfl) z_len boot_len (pa_cons (pv 0) pa_nil)) (nomark _)) (pss_cons (ps_if (pt_cmpR op_eq (pe_op op_mod (pe_ix ix_list (pv 0) (pv 1) (fun _ _ => rfl)) pe_int) pe_int (nomark _)) (pss_one (ps_ret (pe_op op_sub (pe_op op_mod (pe_callTy call_int1 (by rfl) z_int boot_int (pa_cons (pe_op Rd.op_fdivX (pe_ix ix_list (pv 0) (pv 1) (fun _ _ => rfl)) pe_int) pa_nil)) pe_int) pe_int))) pss_nil)
      (pss_one (ps_ret (pe_op op_sub (pe_op op_mod (pe_callTy call_int1 (by rfl) z_int boot_int (pa_cons (pe_op Rd.op_fdivX (pe_ix ix_list (pv 0) (pv 1) (fun _ _ => rfl)) pe_int) pa_nil)) (pe_op op_add (pe_op op_mul pe_int (pe_op op_pow pe_int pe_int)) pe_int)) (pe_op op_pow pe_int pe_int))))) pss_nil)
      (pss_one (ps_ret (pe_op op_sub (pe_op op_mod (pv 2) pe_int) pe_int)))), ?_⟩
    try simp only [Rd.cxK]
    walk_at "rd"
    · rename_i hi
      simp only [List.length_map] at hi
      walk_at "rd"
      all_goals exact k _
    · exact k _
theorem ok_law_quantity {f : Addr} {fd : FuncData} (mf : mg "_law_quantity" = some (.ref f)) (F : FnP K "_law_quantity" s_law_quantity f fd)  (z_len : mg "len" = none) (z_int : mg "int" = none) : Cal P w K mg base "_law_quantity" 1 ["script", "k", "number"] (sp_law_quantity K) :=
  ⟨f, fd, mf, F.kp, F.bindsN fun _ _ _ _ _ _ us hl => match us, hl with | [_, _, _], _ => rfl, fn_law_quantity F z_len z_int⟩

theorem fn_law_normal {f : Addr} {fd : FuncData} (F : FnP K "_law_normal" s_law_normal f fd)  (z_sorted : mg "sorted" = none) (z_sum : mg "sum" = none) (z_tuple : mg "tuple" = none) : FnOk P w K mg base CX0 1 f fd ["rows"] (sp_law_normal K) := by
  refine F.ok sc_law_normal (fun vs H Q E h => ?_) (fun cdv A outer s H vs Q E hr h => ?_)
  · obtain ⟨a, xs, R, rfl, _⟩ := h; rfl
  · obtain ⟨a, xs, R, rfl, hx, hR, ho, hl, k⟩ := h
    refine ⟨_, PSs.nox (pss_cons (ps_set (i := 1) sc_law_normal.nd rfl (by first | exact Or.inl rfl | exact Or.inr rfl) (pe_lst pa_nil))
      (pss_cons (ps_for PassesOwn.never rfl (Bd.pi_lt (pv 0)) (pg_tup (n := 2) rfl (pgs_cons (pg_name (i := 3) sc_law_normal.nd rfl (by first | exact Or.inl rfl | exact Or.inr rfl)) (pgs_cons (pg_name (i := 4) sc_law_normal.nd rfl (by first | exact Or.inl rfl | exact Or.inr rfl)) pgs_nil))) (pss_one (ps_if (pt_cmpR (op_notInD (Rb.units65 hr)) (pv 3) (pv 1) (by rfl)) (pss_one (ps_expr (pe_bm PySem.F.plainAttrs_list PySem.F.slot_list_append PySem.F.type_list_append mt_append (pv 1) (pa_cons (pv 3) pa_nil)))) pss_nil)))
      (pss_cons (ps_set (i := 2) sc_law_normal.nd rfl (by first | exact Or.inl rfl | exact Or.inr rfl) (pe_lst pa_nil))
      (pss_cons (ps_for PassesOwn.never rfl (pi_list (pe_callB Bd.cr_sortedSI (by rfl) z_sorted boot_sorted (pa_cons (pv 1) pa_nil))) (pg_name (i := 3) sc_law_normal.nd rfl (by first | exact Or.inl rfl | exact Or.inr rfl)) (pss_cons (ps_set (i := 4) sc_law_normal.nd rfl (by first | exact Or.inl rfl | exact Or.inr rfl) (pe_callB (cr_sum rfl) (by rfl) z_sum boot_sum (pa_cons (pe_lc (own := [("row", 5)]) (g := gName 5) (tt := _) rfl sc_law_normal.nd (Bd.pi_lt (pv 0)) (blkOk_by (N := N_law_normal) (sc := defScope s_law_normal) (by decide +kernel)) (fun _ _ _ _ _ => pg_name (i := 5) sc_law_normal.nd rfl (by first | exact Or.inl rfl | exact Or.inr rfl)) (fun _ _ _ _ _ => pts_one (pt_cmpR (Rb.op_eqDK (K := K) rfl hr.units) (pe_ix (Rb.ix_tupK (K := K) rfl) (pv 5) pe_int (fun _ _ => rfl)) (pv 3) (nomark _))) (fun _ _ _ _ _ => (pe_ix (Rb.ix_tupK (K := K) rfl) (pv 5) pe_int (fun _ _ => rfl)))) pa_nil)))
      (pss_one (ps_if (pt_cmpR op_ne (pv 4) pe_int (nomark _)) (pss_one (ps_expr (pe_bm PySem.F.plainAttrs_list PySem.F.slot_list_append PySem.F.type_list_append mt_append (pv 2) (pa_cons (pe_tup (pa_cons (pv 3) (pa_cons (pv 4) pa_nil))) pa_nil)))) pss_nil))))
      (pss_one (ps_ret (pe_callTy call_tuple_of (by rfl) z_tuple boot_tuple (pa_cons (pv 2) pa_nil)))))))), ?_⟩
    try simp only [Rd.cxK]
    refine Rd.seq (Rd.asg (Rd.lst (Rd.nil (Rd.len (by simp) fun f hf => ?_))))
    have hxl := hR.len
    refine Rd.seq (Rb.forLt (i₀ := 0) (H0 := H) (fun i σ' H' => ∃ (ps : List (Addr × Ast)) (c2 c3 c4 c5 : Option V), σ' = [some (.ref a), some (.ref f), c2, c3, c4, c5] ∧ Same H H' ∧ H' f = some (.lst (ps.map fun z => V.ref z.1)) ∧ AsAt H' ps ∧ (ps.map (·.2)).Nodup ∧ (∀ p, p ∈ ps.map (·.2) ↔ p ∈ (R.take i).map (·.1)) ∧ ps.length ≤ i) rfl (.inl (SqL.of hx)) (Rd.same_new hf) ⟨[], _, _, _, _, rfl, Rd.same_new hf, upd_same, fun _ h => absurd h List.not_mem_nil, List.nodup_nil, fun p => by simp, Nat.le_refl _⟩ (fun i σ' H' _ ⟨_, _, _, _, _, _, h, _⟩ => h) ?_ ?_)
    · rintro i x σ' H' hi ⟨ps, c2, c3, c4, c5, rfl, hs, hfl, hAs, hnd, hmem, hpl⟩
      obtain ⟨z, kq, p, q, rfl, hri, hz, hkq⟩ := hR.get hi
      have hz' := hs _ _ hz
      have hkq' := hs _ _ hkq
      have hi2 : i < R.length := (List.getElem?_eq_some_iff.mp hri).1
      have hop : OkA p := ho (p, q) (List.mem_of_getElem? hri)
      have hok : ∀ y ∈ ps.map (·.2), OkA y := fun y hy => by
        obtain ⟨e, he, rfl⟩ := List.mem_map.mp ((hmem y).mp hy)
        exact ho e (List.mem_of_mem_take he)
      have htk : (R.take (i + 1)).map (·.1) = (R.take i).map (·.1) ++ [p] := by rw [List.take_add_one, hri, List.map_append]; rfl
      refine Rb.pair2 (SqT.of hz') (Rd.ifS (Rd.tst (Rd.op (Rd.var rfl (Rd.var rfl ⟨encA p, (ps.map (·.2)).map encA, .tup (SqT.of hkq') (.cons (.str _) (.cons (.int _) .nil)), .lst (SqL.of hfl) (asAt_dp hAs), encA_shaped hop, encAs_shaped hok, ?_⟩)))))
      rw [encA_any]
      refine Rd.bl (Rd.iteN (fun hno => ?_) (fun hyes => ?_))
      · walk_at "rd"
        refine ⟨ps ++ [(kq, p)], _, _, _, _, rfl, Rd.same_mut hs hf, by rw [upd_same, List.map_append]; rfl, ?_, ?_, ?_, by rw [List.length_append]; simp; omega⟩
        · intro y hy
          rcases List.mem_append.mp hy with h | h
          · exact (upd_ne fun e => by have := hAs y h; rw [e, hfl] at this; cases this).trans (hAs y h)
          · rw [List.mem_singleton.mp h]
            exact (upd_ne fun e => by have e' : kq = f := e; rw [e', hfl] at hkq'; cases hkq').trans hkq'
        · rw [List.map_append, List.nodup_append]
          refine ⟨hnd, by simp, fun y hy w hw => ?_⟩
          have e : w = p := by simpa using hw
          rw [e]; intro e2; rw [e2] at hy; exact hno hy
        · intro y
          rw [htk, List.map_append, List.mem_append, List.mem_append, hmem]
          rfl
      · walk_at "rd"
        refine ⟨ps, _, _, _, _, rfl, hs, hfl, hAs, hnd, fun y => ?_, by omega⟩
        rw [htk, List.mem_append, ← hmem]
        exact ⟨.inl, fun h => h.elim id fun h => by rw [List.mem_singleton.mp h]; exact hyes⟩
    · rintro σ' H1 ⟨ps, c2, c3, c4, c5, rfl, hs, hfl, hAs, hnd, hmem, hpl⟩
      rw [hxl, List.take_length] at hmem
      refine Rd.seq (Rd.asg (Rd.lst (Rd.nil (Rd.len (by simp) fun n hn => ?_))))
      refine Rd.seq (Rd.for_ (Rd.iL (Rd.cb (Rd.cons (Rd.var rfl (Rd.nil ?_))))))
      refine ⟨f, ps, rfl, SqL.of (Rd.same_new hn _ _ hfl), fun z hz => Rd.same_new hn _ _ (hAs z hz), fun qs l hperm hsrt hl => ?_⟩
      have hqnd : (qs.map (·.2)).Nodup := (hperm.map _).nodup_iff.mpr hnd
      have hqA : AsAt H1 qs := fun z hz => hAs z (hperm.mem_iff.mp hz)
      have nln : n ≠ l := fun y => by rw [← y, upd_same] at hl; cases hl
      have hql : qs.length ≤ 400 := by rw [hperm.length_eq]; omega
      have hqk : ∀ p, p ∈ R.map (·.1) → p ∈ qs.map (·.2) := fun p hp => (hperm.map _).mem_iff.mpr ((hmem p).mpr hp)
      have hHn : H n = none := by
        cases e : H n with
        | none => rfl
        | some o => have := hs _ _ e; rw [hn] at this; cases this
      have hbase : Same H (upd (upd H1 n (.lst [])) l (.lst (qs.map fun z => V.ref z.1))) := (hs.trans (Rd.same_new hn)).trans (Rd.same_new hl)
      refine Rd.forL (fun i σ' H' => ∃ (ys : List V) (c3 c4 c5 : Option V), σ' = [some (.ref a), some (.ref f), some (.ref n), c3, c4, c5] ∧ Same H H' ∧ H' l = some (.lst (qs.map fun z => V.ref z.1)) ∧ AsAt H' qs ∧ H' n = some (.lst ys) ∧ RowL H' ys (nfOf R ((qs.take i).map (·.2)))) (SqL.of upd_same) ⟨[], _, _, _, rfl, hbase, upd_same, fun z hz => Rd.same_new hl _ _ (Rd.same_new hn _ _ (hqA z hz)), (upd_ne nln).trans upd_same, .nil⟩ (fun i σ' H' _ ⟨_, _, _, _, _, _, h, _⟩ => SqL.of h) ?_ ?_
      · rintro i x σ' H2 hi ⟨ys, c3, c4, c5, rfl, hs2, hl2, hA2, hn2, hrow⟩
        obtain ⟨z, hz, rfl⟩ : ∃ z, qs[i]? = some z ∧ x = V.ref z.1 := by
          rw [List.getElem?_map] at hi
          cases e : qs[i]? with
          | none => rw [e] at hi; cases hi
          | some z => rw [e] at hi; exact ⟨z, rfl, (Option.some.inj hi).symm⟩
        have hzm : z ∈ qs := List.mem_of_getElem? hz
        have hk := hA2 z hzm
        have hoz : OkA z.2 := by
          obtain ⟨e, he, ee⟩ := List.mem_map.mp ((hmem z.2).mp ((hperm.map _).mem_iff.mp (List.mem_map_of_mem (f := (·.2)) hzm)))
          rw [← ee]; exact ho e he
        have htk : (qs.take (i + 1)).map (·.2) = (qs.take i).map (·.2) ++ [z.2] := by rw [List.take_add_one, hz, List.map_append]; rfl
        have hx2 := hs2 _ _ hx
        have hR2 := hR.keep hs2
        refine Rd.seq (Rd.asg (Rd.cb (Rd.cons (Rd.lc_ (.inl (Rd.var rfl ?_))))))
        refine Rb.lcTest (fun i q2 => q2.sum = tot (R.take i) z.2) (SqL.of hx2) (by omega) rfl ?_ ?_
        · intro j y q2 D H3 RR hD s3 hj hq2l hDl hsum hyes hno
          obtain ⟨w, kq, p, q, rfl, hrj, hw, hkq⟩ := hR2.get hj
          have hw3 := s3 _ _ hw
          have hkq3 := s3 _ _ hkq
          have hk3 := s3 _ _ hk
          have hop : OkA p := ho (p, q) (List.mem_of_getElem? hrj)
          have hj2 : j < R.length := (List.getElem?_eq_some_iff.mp hrj).1
          refine ⟨rfl, Rd.tst (Rd.op (Rd.op (Rd.var rfl (Rd.cst (Rd.ixT (SqT.of hw3) (Rd.atI_of (by decide) rfl) (Rd.var rfl ⟨encA p, encA z.2, .tup (SqT.of hkq3) (.cons (.str _) (.cons (.int _) .nil)), .tup (SqT.of hk3) (.cons (.str _) (.cons (.int _) .nil)), encA_shaped hop, encA_shaped hoz, ?_⟩))))))⟩
          rw [encA_eqv]
          refine Rd.bl (Rd.iteD (fun hpe => ?_) (fun hpe => ?_))
          · refine Rd.op (Rd.var rfl (Rd.cst (Rd.ixT (SqT.of hw3) (Rd.atI_of (by decide) rfl) ⟨_, hDl, Rd.smallT (by rw [List.length_map]; omega), hyes q ?_⟩)))
            rw [tot_take hrj, if_pos hpe, List.sum_append, hsum]; simp
          · exact hno (by rw [tot_take hrj, if_neg hpe, hsum]; simp)
        · intro D q2 H3 hD s3 hDl hsum
          rw [hxl, List.take_length] at hsum
          refine Rd.nil ⟨D, q2, rfl, SqL.of hDl, ?_⟩
          rw [hsum]
          have hn3 := s3 _ _ hn2
          have hk3 := s3 _ _ hk
          have hyl := (hrow.keep s3).len
          have hnl := nfOf_len R ((qs.take i).map (·.2))
          simp only [List.length_map, List.length_take] at hnl
          walk_at "rd"
          · rename_i hne t ht
            have ntn : t ≠ n := fun e => by rw [e, hn3] at ht; cases ht
            refine ⟨_, _, _, _, rfl, Rd.same_mut ((hs2.trans s3).trans (Rd.same_new ht)) hHn, ?_, fun y hy => ?_, upd_same, ?_⟩
            · exact (upd_ne (Ne.symm nln)).trans (Rd.same_new ht _ _ (s3 _ _ hl2))
            · have h1 := Rd.same_new (o := .tup [V.ref z.1, V.int (tot R z.2)]) ht _ _ (s3 _ _ (hA2 y hy))
              exact (upd_ne fun e => by have := s3 _ _ (hA2 y hy); rw [e, hn3] at this; cases this).trans h1
            · rw [htk, nfOf_yes hne]
              refine ((hrow.keep s3).keepT fun y w hy => ?_).append (.cons (kq := z.1) ?_ ?_ .nil)
              · exact (upd_ne fun e => by rw [e, hn3] at hy; cases hy).trans (Rd.same_new ht _ _ hy)
              · exact (upd_ne ntn).trans upd_same
              · exact (upd_ne fun e => by rw [e, hn3] at hk3; cases hk3).trans (Rd.same_new ht _ _ hk3)
          · rename_i he
            refine ⟨ys, _, _, _, rfl, hs2.trans s3, s3 _ _ hl2, fun y hy => s3 _ _ (hA2 y hy), hn3, ?_⟩
            rw [htk, nfOf_no (by omega)]
            exact hrow.keep s3
      · rintro σ' H2 ⟨ys, c3, c4, c5, rfl, hs2, hl2, hA2, hn2, hrow⟩
        rw [List.length_map, List.take_length] at hrow
        refine Rd.ret (Rd.cbTup (Rd.cons (Rd.var rfl (Rd.nil (Rd.tupL (SqL.of hn2) fun t ht => ?_)))))
        exact k t ys _ _ (hs2.trans (Rd.same_new ht)) upd_same (hrow.keep (Rd.same_new ht)) (nf_nrm hsrt hqnd) (nf_tot hsrt hqnd hqk)
theorem ok_law_normal {f : Addr} {fd : FuncData} (mf : mg "_law_normal" = some (.ref f)) (F : FnP K "_law_normal" s_law_normal f fd)  (z_sorted : mg "sorted" = none) (z_sum : mg "sum" = none) (z_tuple : mg "tuple" = none) : Cal P w K mg base "_law_normal" 1 ["rows"] (sp_law_normal K) :=
  ⟨f, fd, mf, F.kp, F.bindsN fun _ _ _ _ _ _ us hl => match us, hl with | [_], _ => rfl, fn_law_normal F z_sorted z_sum z_tuple⟩

theorem fn_law_asset {f : Addr} {fd : FuncData} (F : FnP K "_law_asset" s_law_asset f fd) (C_law_char : Cal P w K mg base "_law_char" 1 ["number"] (sp_law_char K)) (z_int : mg "int" = none) : FnOk P w K mg base CX0 2 f fd ["first", "second"] (sp_law_asset K) := by
  obtain ⟨f_law_char, fd_law_char, m_law_char, k_law_char, b_law_char, G_law_char⟩ := C_law_char.ex
  refine F.ok sc_law_asset (fun vs H Q E h => ?_) (fun cdv A outer s H vs Q E hr h => ?_)
  · obtain ⟨f, s, rfl, _⟩ := h; rfl
  · obtain ⟨f, s, rfl, hf, hs, k⟩ := h
    refine ⟨_, PSs.nox (pss_cons (ps_if (pt_cmpR op_eq (pe_op op_mod (pv 0) pe_int) pe_int (nomark _)) (pss_one (ps_ret (pe_tup (pa_cons pe_str (pa_cons pe_int pa_nil))))) pss_nil)
      (pss_cons (ps_set (i := 2) sc_law_asset.nd rfl (by first | exact Or.inl rfl | exact Or.inr rfl) (pe_call G_law_char (hr.mono (by decide)) (by rfl) m_law_char k_law_char b_law_char .nil pass0 (pa_cons (pv 0) pa_nil)))
      (pss_cons (ps_if (pt_cmpR op_eq (pe_op op_mod (pv 0) pe_int) pe_int (nomark _)) (pss_one (ps_set (i := 2) sc_law_asset.nd rfl (by first | exact Or.inl rfl | exact Or.inr rfl) (pe_op op_add_str (pe_op op_add_str (pv 2) (pe_call G_law_char (hr.mono (by decide)) (by rfl) m_law_char k_law_char b_law_char .nil pass0 (pa_cons (pv 1) pa_nil))) pe_str))) pss_nil)
      (pss_cons (ps_if (pt_cmpR op_eq (pe_op op_mod (pv 0) pe_int) pe_int (nomark _)) (pss_one (ps_set (i := 2) sc_law_asset.nd rfl (by first | exact Or.inl rfl | exact Or.inr rfl) (pe_op op_add_str pe_str (pv 2)))) pss_nil)
      (pss_cons (ps_if (pt_cmpR op_eq (pe_op op_mod (pv 1) pe_int) pe_int (nomark _)) (pss_one (ps_ret (pe_tup (pa_cons (pv 2) (pa_cons (pe_op op_mod (pe_callTy call_int1 (by rfl) z_int boot_int (pa_cons (pe_op op_mul (pv 1) pe_int) pa_nil)) pe_int) pa_nil))))) pss_nil)
      (pss_one (ps_ret (pe_tup (pa_cons (pv 2) (pa_cons (pe_op op_mod (pv 1) pe_int) pa_nil)))))))))), ?_⟩
    try simp only [Rd.cxK, lit_2, lit_3, lit_4]
    walk_at "rd"
    all_goals refine k _ (⟨_, _⟩ : Ast) _ (by walk_at "sm") ‹_› upd_same ⟨strOk_S (by intro c hc; simp only [List.mem_append, List.mem_cons, List.not_mem_nil, or_false] at hc <;> omega), fun h => ?_⟩
    all_goals first
      | rfl
      | exact absurd (Rd.S_inj h) (by simp)
theorem ok_law_asset {f : Addr} {fd : FuncData} (mf : mg "_law_asset" = some (.ref f)) (F : FnP K "_law_asset" s_law_asset f fd) (C_law_char : Cal P w K mg base "_law_char" 1 ["number"] (sp_law_char K)) (z_int : mg "int" = none) : Cal P w K mg base "_law_asset" 2 ["first", "second"] (sp_law_asset K) :=
  ⟨f, fd, mf, F.kp, F.bindsN fun _ _ _ _ _ _ us hl => match us, hl with | [_, _], _ => rfl, fn_law_asset F C_law_char z_int⟩

theorem fn_law_rows {f : Addr} {fd : FuncData} (F : FnP K "_law_rows" s_law_rows f fd) (C_law_quantity : Cal P w K mg base "_law_quantity" 1 ["script", "k", "number"] (sp_law_quantity K)) (z_range : mg "range" = none) (z_int : mg "int" = none) (z_len : mg "len" = none) : FnOk P w K mg base CX0 2 f fd ["script", "at", "numbers", "assets", "many"] (sp_law_rows K) := by
  obtain ⟨f_law_quantity, fd_law_quantity, m_law_quantity, k_law_quantity, b_law_quantity, G_law_quantity⟩ := C_law_quantity.ex
  refine F.ok sc_law_rows (fun vs H Q E h => ?_) (fun cdv A outer s H vs Q E hr h => ?_)
  · obtain ⟨a, b, d, ns, ms, ws, i, m, rfl, _⟩ := h; rfl
  · obtain ⟨a, b, d, ns, ms, ws, i, m, rfl, hS, h0, hb, hl, h3, hd, hA, hv, hm, k⟩ := h
    refine ⟨_, PSs.nox (pss_cons (ps_set (i := 5) sc_law_rows.nd rfl (by first | exact Or.inl rfl | exact Or.inr rfl) (pe_lst pa_nil))
      (pss_cons (ps_for PassesOwn.never rfl (pi_range1 (by rfl) z_range (pa_cons (pv 4) pa_nil)) (pg_name (i := 6) sc_law_rows.nd rfl (by first | exact Or.inl rfl | exact Or.inr rfl)) (pss_cons (ps_set (i := 7) sc_law_rows.nd rfl (by first | exact Or.inl rfl | exact Or.inr rfl) (pe_ix ix_list (pv 2) (pe_op op_mod (pe_callTy call_int1 (by rfl) z_int boot_int (pa_cons (pv 6) pa_nil)) (pe_callB call_len_seq (by rfl) z_len boot_len (pa_cons (pv 2) pa_nil))) (fun _ _ => rfl)))
      (pss_one (ps_expr (pe_bm PySem.F.plainAttrs_list PySem.F.slot_list_append PySem.F.type_list_append mt_append (pv 5) (pa_cons (pe_tup (pa_cons (pe_ix ix_list (pv 3) (pe_op op_mod (pe_callTy call_int1 (by rfl) z_int boot_int (pa_cons (pe_op op_add (pv 7) (pv 6)) pa_nil)) (pe_callB call_len_seq (by rfl) z_len boot_len (pa_cons (pv 3) pa_nil))) (fun _ _ => rfl)) (pa_cons (pe_call G_law_quantity (hr.mono (by decide)) (by rfl) m_law_quantity k_law_quantity b_law_quantity .nil pass0 (pa_cons (pv 0) (pa_cons (pe_op op_add (pv 1) (pv 6)) (pa_cons (pe_op op_fdiv (pv 7) pe_int) pa_nil)))) pa_nil))) pa_nil))))))
      (pss_one (ps_ret (pv 5))))), ?_⟩
    try simp only [Rd.cxK]
    walk_at "rd"
    rename_i r hr0
    have hml : 0 < ((ms.map V.int).length : Int) := by rw [List.length_map]; omega
    have hwl : 0 < (ws.length : Int) := by omega
    refine Rd.rng1 (fun j σ' H' => ∃ (xs : List V) (R : List (Ast × Int)) (kv nv : Option V), σ' = [some (.ref a), some (.int i), some (.ref b), some (.ref d), some (.int m), some (.ref r), kv, nv] ∧ Same H H' ∧ H' r = some (.lst xs) ∧ RowL H' xs R ∧ GR R ∧ R.length = j) (by omega) ⟨[], [], _, _, rfl, Rd.same_new hr0, upd_same, .nil, fun _ h => absurd h List.not_mem_nil, rfl⟩ ?_ ?_
    · rintro j σ' H' hj ⟨xs, R, kv, nv, rfl, hs, hx, hR, hO, hRl⟩
      have hb' := hs _ _ hb
      have hd' := hs _ _ hd
      have hS' := hs.seq hS
      have hxl := hR.len
      walk_at "rd"
      refine Rd.ixLmem (SqL.of hb') (Int.emod_nonneg _ (by omega)) (Int.emod_lt_of_pos _ hml) (fun v hv => ?_)
      obtain ⟨n, hn, rfl⟩ := List.mem_map.mp hv
      have hn3 := h3 n hn
      walk_at "rd"
      refine Rd.ixLmem (SqL.of hd') (Int.emod_nonneg _ (by omega)) (Int.emod_lt_of_pos _ hwl) (fun v hv => ?_)
      obtain ⟨z, x, rfl, hz, hox⟩ := hA v hv
      have hz' := hs _ _ hz
      walk_at "rd"
      refine ⟨_, _, _, _, rfl, hS', by omega, fun q => ?_⟩
      walk_at "rd"
      rename_i t ht
      have ntr : t ≠ r := fun y => by rw [y, hx] at ht; cases ht
      refine ⟨_, R ++ [(x, q)], _, _, rfl, Rd.same_mut (hs.trans (Rd.same_new ht)) hr0, upd_same, ?_, ?_, by rw [List.length_append]; simp [hRl]⟩
      · refine (hR.keepT fun y w hy => ?_).append (.cons (kq := z) ?_ ?_ .nil)
        · exact (upd_ne fun e => by rw [e, hx] at hy; cases hy).trans (Rd.same_new ht _ _ hy)
        · exact (upd_ne ntr).trans upd_same
        · exact (upd_ne fun e => by rw [e, hx] at hz'; cases hz').trans (Rd.same_new ht _ _ hz')
      · intro e he
        rcases List.mem_append.mp he with h | h
        · exact hO e h
        · rw [List.mem_singleton.mp h]; exact hox
    · rintro σ' H' ⟨xs, R, kv, nv, rfl, hs, hx, hR, hO, hRl⟩
      walk_at "rd"
      exact k r xs R H' hs hr0 hx hR hO hRl
theorem ok_law_rows {f : Addr} {fd : FuncData} (mf : mg "_law_rows" = some (.ref f)) (F : FnP K "_law_rows" s_law_rows f fd) (C_law_quantity : Cal P w K mg base "_law_quantity" 1 ["script", "k", "number"] (sp_law_quantity K)) (z_range : mg "range" = none) (z_int : mg "int" = none) (z_len : mg "len" = none) : Cal P w K mg base "_law_rows" 2 ["script", "at", "numbers", "assets", "many"] (sp_law_rows K) :=
  ⟨f, fd, mf, F.kp, F.bindsN fun _ _ _ _ _ _ us hl => match us, hl with | [_, _, _, _, _], _ => rfl, fn_law_rows F C_law_quantity z_range z_int z_len⟩

theorem fn_law_same {f : Addr} {fd : FuncData} (F : FnP K "_law_same" s_law_same f fd) (C_law_is_integer : Cal P w K mg base "_law_is_integer" 1 ["value"] (sp_law_is_integer K)) (z_len : mg "len" = none) (z_isinstance : mg "isinstance" = none) (z_tuple : mg "tuple" = none) (z_range : mg "range" = none) (z_str : mg "str" = none) : FnOk P w K mg base CX0 2 f fd ["actual", "expected"] (sp_law_same K) := by
  obtain ⟨f_law_is_integer, fd_law_is_integer, m_law_is_integer, k_law_is_integer, b_law_is_integer, G_law_is_integer⟩ := C_law_is_integer.ex
  refine F.ok sc_law_same (fun vs H Q E h => ?_) (fun cdv A outer s H vs Q E hr h => ?_)
  · obtain ⟨a, e, xs, ys, N, rfl, _⟩ := h; rfl
  · obtain ⟨a, e, xs, ys, N, rfl, hx, hy, h1, h2, ho, hl, k⟩ := h
    refine ⟨_, PSs.nox (pss_cons (ps_if (PW.pt (pw_or (pt_not (pt_val (pe_callB call_isi (by rfl) z_isinstance boot_isinstance (pa_cons (pv 0) (pa_cons (pe_bltn (v := .ty "tuple") (by rfl) z_tuple boot_tuple rfl) pa_nil))))) (pw_or1 (pt_cmpR op_ne (pe_callB call_len_seq (by rfl) z_len boot_len (pa_cons (pv 0) pa_nil)) (pe_callB call_len_seq (by rfl) z_len boot_len (pa_cons (pv 1) pa_nil)) (nomark _))))) (pss_one (ps_ret pe_bl)) pss_nil)
      (pss_cons (ps_for PassesOwn.never rfl (pi_range1 (by rfl) z_range (pa_cons (pe_callB call_len_seq (by rfl) z_len boot_len (pa_cons (pv 1) pa_nil)) pa_nil)) (pg_name (i := 2) sc_law_same.nd rfl (by first | exact Or.inl rfl | exact Or.inr rfl)) (pss_cons (ps_set (i := 3) sc_law_same.nd rfl (by first | exact Or.inl rfl | exact Or.inr rfl) (pe_ix ix_tup (pv 0) (pv 2) (fun _ _ => rfl)))
      (pss_cons (ps_if (PW.pt (pw_or (pt_not (pt_val (pe_callB call_isi (by rfl) z_isinstance boot_isinstance (pa_cons (pv 3) (pa_cons (pe_bltn (v := .ty "tuple") (by rfl) z_tuple boot_tuple rfl) pa_nil))))) (pw_or (pt_cmpR op_ne (pe_callB call_len_seq (by rfl) z_len boot_len (pa_cons (pv 3) pa_nil)) pe_int (nomark _)) (pw_or (pt_not (pt_val (pe_callB call_isi (by rfl) z_isinstance boot_isinstance (pa_cons (pe_ix ix_tup (pv 3) pe_int (fun _ _ => rfl)) (pa_cons (pe_bltn (v := .ty "tuple") (by rfl) z_tuple boot_tuple rfl) pa_nil))))) (pw_or1 (pt_cmpR op_ne (pe_callB call_len_seq (by rfl) z_len boot_len (pa_cons (pe_ix ix_tup (pv 3) pe_int (fun _ _ => rfl)) pa_nil)) pe_int (nomark _))))))) (pss_one (ps_ret pe_bl)) pss_nil)
      (pss_one (ps_if (PW.pt (pw_or (pt_not (pt_val (pe_callB call_isi (by rfl) z_isinstance boot_isinstance (pa_cons (pe_ix ix_tup (pe_ix ix_tup (pv 3) pe_int (fun _ _ => rfl)) pe_int (fun _ _ => rfl)) (pa_cons (pe_bltn (v := .ty "str") (by rfl) z_str boot_str rfl) pa_nil))))) (pw_or (pt_not (pt_val (pe_call G_law_is_integer (hr.mono (by decide)) (by rfl) m_law_is_integer k_law_is_integer b_law_is_integer .nil pass0 (pa_cons (pe_ix ix_tup (pe_ix ix_tup (pv 3) pe_int (fun _ _ => rfl)) pe_int (fun _ _ => rfl)) pa_nil)))) (pw_or1 (pt_not (pt_val (pe_call G_law_is_integer (hr.mono (by decide)) (by rfl) m_law_is_integer k_law_is_integer b_law_is_integer .nil pass0 (pa_cons (pe_ix ix_tup (pv 3) pe_int (fun _ _ => rfl)) pa_nil)))))))) (pss_one (ps_ret pe_bl)) pss_nil)))))
      (pss_one (ps_ret (pe_cmpR (op_eqD hr.units) (pv 0) (pv 1) (nomark _)))))), ?_⟩
    try simp only [Rd.cxK]
    have e1 := h1.len
    have e2 := h2.len
    walk_at "rd"
    · rename_i hne; exact absurd (by rw [e1, e2]) hne
    refine Rd.rng1 (fun i σ' H' => ∃ kv rv, σ' = [some (.ref a), some (.ref e), kv, rv] ∧ H' = H) (by omega) ⟨_, _, rfl, rfl⟩ ?_ ?_
    · rintro i σ' H' hi ⟨kv, rv, rfl, rfl⟩
      have hi2 : i < xs.length := by omega
      obtain ⟨z, kq, p, q, hz0, hri, hz, hkq⟩ := h1.get (List.getElem?_eq_getElem hi2)
      walk_at "rd"
      refine Rd.ixT (SqT.of hx) (atI_nat ((List.getElem?_eq_getElem hi2).trans (by rw [hz0]))) ?_
      walk_at "rd"
      all_goals first | exact absurd rfl ‹_› | contradiction | exact ⟨_, _, rfl, rfl⟩
    · rintro σ' H' ⟨kv, rv, rfl, rfl⟩
      walk_at "rd"
      refine ⟨_, _, .tup (SqT.of hx) h1.dp, .tup (SqT.of hy) h2.dp, encR_shaped ho, encR_shaped ho, ?_⟩
      rw [show PyData.eqv (.tuple (N.map encR)) (.tuple (N.map encR)) = true by simp only [PyData.eqv]; exact encR_eqvAll N]
      exact k
theorem ok_law_same {f : Addr} {fd : FuncData} (mf : mg "_law_same" = some (.ref f)) (F : FnP K "_law_same" s_law_same f fd) (C_law_is_integer : Cal P w K mg base "_law_is_integer" 1 ["value"] (sp_law_is_integer K)) (z_len : mg "len" = none) (z_isinstance : mg "isinstance" = none) (z_tuple : mg "tuple" = none) (z_range : mg "range" = none) (z_str : mg "str" = none) : Cal P w K mg base "_law_same" 2 ["actual", "expected"] (sp_law_same K) :=
  ⟨f, fd, mf, F.kp, F.bindsN fun _ _ _ _ _ _ us hl => match us, hl with | [_, _], _ => rfl, fn_law_same F C_law_is_integer z_len z_isinstance z_tuple z_range z_str⟩

theorem fn_Bundle___add {fd : FuncData} (F : FunD K "__add__" "Bundle.__add__" (defArgs s_Bundle___add) (defBody s_Bundle___add) (defScope s_Bundle___add) [] [] (He.fAd K ("Bundle", some "__add__")) fd) (C_Bundle___init : CalM P w K mg base (He.fAd K ("Bundle", some "__init__")) 1 ["self", "rows"] [V.ref (He.dflAt ("Bundle", some "__init__") 0 K)] (sp_Bundle___init K))  (W_Bundle : BFacts K mg) : FnOk P w K mg base CX0 3 (He.fAd K ("Bundle", some "__add__")) fd ["self", "other"] (sp_Bundle___add K) := by
  obtain ⟨fd_Bundle___init, b_Bundle___init, G_Bundle___init, ds_Bundle___init, dr_Bundle___init, db_Bundle___init⟩ := C_Bundle___init.ex
  have Bf := W_Bundle
  refine F.ok sc_Bundle___add (fun vs H Q E h => ?_) (fun cdv A outer s H vs Q E hr h => ?_)
  · obtain ⟨b, c, N, M, rfl, _⟩ := h; rfl
  · obtain ⟨b, c, N, M, rfl, hb, hc, hl, k⟩ := h
    refine ⟨_, PSs.nox (pss_one (ps_ret (pe_make Bf.mkr G_Bundle___init (hr.mono (by decide)) (by rfl) Bf.m b_Bundle___init .nil pass0 (pa_cons (pe_op op_catA (pe_fld (pv 0) rfl) (pe_fld (pv 1) rfl)) pa_nil)))), ?_⟩
    try simp only [Rd.cxK]
    refine Rd.ret (Rb.make (Rd.cons (Rd.op (Rb.fld (Rd.var rfl (Rb.rowsP Bf hb fun r xs h1 h2 => Rb.fld (Rd.var rfl (Rb.rowsP Bf hc fun r' ys h3 h4 => ?_))))))))
    refine Rb.catA (SqT.of h1) (SqT.of h3) (by have := h2.len; have := h4.len; omega) fun p H1 s1 h5 => Rd.nil ?_
    refine mkB (.inr h5) ((h2.keep s1).append (h4.keep s1)) (by rw [List.length_append]; exact hl) fun H' c' L s2 _ nm tt bd => ?_
    exact k H' c' L (s1.trans s2) nm (fun p => by rw [tt, tot_append]) bd
theorem ok_Bundle___add {fd : FuncData} (F : FunD K "__add__" "Bundle.__add__" (defArgs s_Bundle___add) (defBody s_Bundle___add) (defScope s_Bundle___add) [] [] (He.fAd K ("Bundle", some "__add__")) fd) (C_Bundle___init : CalM P w K mg base (He.fAd K ("Bundle", some "__init__")) 1 ["self", "rows"] [V.ref (He.dflAt ("Bundle", some "__init__") 0 K)] (sp_Bundle___init K))  (W_Bundle : BFacts K mg) : CalM P w K mg base (He.fAd K ("Bundle", some "__add__")) 3 ["self", "other"] [] (sp_Bundle___add K) :=
  ⟨fd, F.bindsN fun _ _ _ _ _ _ us hl => match us, hl with | [_, _], _ => rfl, fn_Bundle___add F C_Bundle___init W_Bundle, [], .nil, F.bindsN fun _ _ _ _ _ _ us hl => match us, hl with | [_, _], _ => rfl⟩

theorem fn_Bundle___neg {fd : FuncData} (F : FunD K "__neg__" "Bundle.__neg__" (defArgs s_Bundle___neg) (defBody s_Bundle___neg) (defScope s_Bundle___neg) [] [] (He.fAd K ("Bundle", some "__neg__")) fd) (C_Bundle___init : CalM P w K mg base (He.fAd K ("Bundle", some "__init__")) 1 ["self", "rows"] [V.ref (He.dflAt ("Bundle", some "__init__") 0 K)] (sp_Bundle___init K))  (W_Bundle : BFacts K mg) : FnOk P w K mg base CX0 3 (He.fAd K ("Bundle", some "__neg__")) fd ["self"] (sp_Bundle___neg K) := by
  obtain ⟨fd_Bundle___init, b_Bundle___init, G_Bundle___init, ds_Bundle___init, dr_Bundle___init, db_Bundle___init⟩ := C_Bundle___init.ex
  have Bf := W_Bundle
  refine F.ok sc_Bundle___neg (fun vs H Q E h => ?_) (fun cdv A outer s H vs Q E hr h => ?_)
  · obtain ⟨b, N, rfl, _⟩ := h; rfl
  · obtain ⟨b, N, rfl, hb, hl, k⟩ := h
    refine ⟨_, PSs.nox (pss_one (ps_ret (pe_make Bf.mkr G_Bundle___init (hr.mono (by decide)) (by rfl) Bf.m b_Bundle___init .nil pass0 (pa_cons (pe_lc (own := [("asset", 1), ("quantity", 2)]) (g := (gTup K 2 (gCons (gName 1) (gCons (gName 2) gNil)))) (tt := tYes) rfl sc_Bundle___neg.nd (pi_tup (pe_fld (pv 0) rfl)) (blkOk_by (N := N_Bundle___neg) (sc := defScope s_Bundle___neg) (by decide +kernel)) (fun _ _ _ _ _ => (pg_tup (n := 2) rfl (pgs_cons (pg_name (i := 1) sc_Bundle___neg.nd rfl (by first | exact Or.inl rfl | exact Or.inr rfl)) (pgs_cons (pg_name (i := 2) sc_Bundle___neg.nd rfl (by first | exact Or.inl rfl | exact Or.inr rfl)) pgs_nil)))) (fun _ _ _ _ _ => pts_nil) (fun _ _ _ _ _ => (pe_tup (pa_cons (pv 1) (pa_cons (pe_un un_neg (pv 2)) pa_nil))))) pa_nil)))), ?_⟩
    try simp only [Rd.cxK]
    refine Rd.ret (Rb.make (Rd.cons (Rd.lc_ (Rd.iT (Rb.fld (Rd.var rfl (Rb.rowsP Bf hb fun r xs h1 h2 => ?_)))))))
    refine Rb.lcT (fun D i acc H' => RowL H' acc ((N.take i).map fun e => (e.1, -e.2))) (SqT.of h1) (fun D H' _ _ _ => .nil) ?_ ?_
    · intro i x acc D H' hD hs hi hac hDl hrow
      obtain ⟨z, kq, p, q, rfl, hri, hz, hkq⟩ := h2.get hi
      refine Rb.pair2 (SqT.of (hs _ _ hz)) ⟨rfl, ?_⟩
      refine Rd.tup (Rd.cons (Rd.var rfl (Rd.cons (Rd.un (Rd.var rfl (Rd.opU (Rd.nil (Rd.len (by simp) fun t ht => ?_))))))))
      have hi2 : i < N.length := (List.getElem?_eq_some_iff.mp hri).1
      have st := hs.trans (Rd.same_new (o := .tup [V.ref kq, V.int (-q)]) ht)
      have nDt : D ≠ t := fun y => by rw [← y, hDl] at ht; cases ht
      refine Rd.lcE hD ((upd_ne nDt).trans hDl) st hac (by omega) ?_
      have e1 : ((N.take (i + 1)).map fun e => (e.1, -e.2)) = ((N.take i).map fun e => (e.1, -e.2)) ++ [(p, -q)] := by rw [List.take_add_one, hri, List.map_append]; rfl
      rw [e1]
      refine (hrow.keepT fun y w hy => ?_).append (.cons (kq := kq) ?_ ?_ .nil)
      · exact (upd_ne fun e => by rw [e, hDl] at hy; cases hy).trans (Rd.same_new ht _ _ hy)
      · exact (upd_ne (Ne.symm nDt)).trans upd_same
      · exact (upd_ne fun e => by rw [e, hD] at hkq; cases hkq).trans (st _ _ hkq)
    · intro D acc H1 hD hs hDl hal hrow
      rw [h2.len, List.take_length] at hrow
      refine Rd.nil ?_
      refine mkB (.inl (SqL.of hDl)) hrow (by rw [List.length_map]; exact hl) fun H' c' L s2 _ nm tt bd => ?_
      exact k H' c' L (hs.trans s2) nm (fun p => by rw [tt, tot_neg]) bd
theorem ok_Bundle___neg {fd : FuncData} (F : FunD K "__neg__" "Bundle.__neg__" (defArgs s_Bundle___neg) (defBody s_Bundle___neg) (defScope s_Bundle___neg) [] [] (He.fAd K ("Bundle", some "__neg__")) fd) (C_Bundle___init : CalM P w K mg base (He.fAd K ("Bundle", some "__init__")) 1 ["self", "rows"] [V.ref (He.dflAt ("Bundle", some "__init__") 0 K)] (sp_Bundle___init K))  (W_Bundle : BFacts K mg) : CalM P w K mg base (He.fAd K ("Bundle", some "__neg__")) 3 ["self"] [] (sp_Bundle___neg K) :=
  ⟨fd, F.bindsN fun _ _ _ _ _ _ us hl => match us, hl with | [_], _ => rfl, fn_Bundle___neg F C_Bundle___init W_Bundle, [], .nil, F.bindsN fun _ _ _ _ _ _ us hl => match us, hl with | [_], _ => rfl⟩

theorem fn_split {f : Addr} {fd : FuncData} (F : FnP K "split" s_split f fd) (C_Bundle___init : CalM P w K mg base (He.fAd K ("Bundle", some "__init__")) 1 ["self", "rows"] [V.ref (He.dflAt ("Bundle", some "__init__") 0 K)] (sp_Bundle___init K))  (W_Bundle : BFacts K mg) : FnOk P w K mg base CX0 3 f fd ["bundle"] (sp_split K) := by
  obtain ⟨fd_Bundle___init, b_Bundle___init, G_Bundle___init, ds_Bundle___init, dr_Bundle___init, db_Bundle___init⟩ := C_Bundle___init.ex
  have Bf := W_Bundle
  refine F.ok sc_split (fun vs H Q E h => ?_) (fun cdv A outer s H vs Q E hr h => ?_)
  · obtain ⟨b, N, rfl, _⟩ := h; rfl
  · obtain ⟨b, N, rfl, hb, hl, k⟩ := h
    refine ⟨_, PSs.nox (pss_cons (ps_set (i := 1) sc_split.nd rfl (by first | exact Or.inl rfl | exact Or.inr rfl) (pe_make Bf.mkr G_Bundle___init (hr.mono (by decide)) (by rfl) Bf.m b_Bundle___init .nil pass0 (pa_cons (pe_lc (own := [("asset", 3), ("quantity", 4)]) (g := (gTup K 2 (gCons (gName 3) (gCons (gName 4) gNil)))) (tt := _) rfl sc_split.nd (pi_tup (pe_fld (pv 0) rfl)) (blkOk_by (N := N_split) (sc := defScope s_split) (by decide +kernel)) (fun _ _ _ _ _ => (pg_tup (n := 2) rfl (pgs_cons (pg_name (i := 3) sc_split.nd rfl (by first | exact Or.inl rfl | exact Or.inr rfl)) (pgs_cons (pg_name (i := 4) sc_split.nd rfl (by first | exact Or.inl rfl | exact Or.inr rfl)) pgs_nil)))) (fun _ _ _ _ _ => pts_one (pt_cmpR op_gt (pv 4) pe_int (nomark _))) (fun _ _ _ _ _ => (pe_tup (pa_cons (pv 3) (pa_cons (pv 4) pa_nil))))) pa_nil)))
      (pss_cons (ps_set (i := 2) sc_split.nd rfl (by first | exact Or.inl rfl | exact Or.inr rfl) (pe_make Bf.mkr G_Bundle___init (hr.mono (by decide)) (by rfl) Bf.m b_Bundle___init .nil pass0 (pa_cons (pe_lc (own := [("asset", 3), ("quantity", 4)]) (g := (gTup K 2 (gCons (gName 3) (gCons (gName 4) gNil)))) (tt := _) rfl sc_split.nd (pi_tup (pe_fld (pv 0) rfl)) (blkOk_by (N := N_split) (sc := defScope s_split) (by decide +kernel)) (fun _ _ _ _ _ => (pg_tup (n := 2) rfl (pgs_cons (pg_name (i := 3) sc_split.nd rfl (by first | exact Or.inl rfl | exact Or.inr rfl)) (pgs_cons (pg_name (i := 4) sc_split.nd rfl (by first | exact Or.inl rfl | exact Or.inr rfl)) pgs_nil)))) (fun _ _ _ _ _ => pts_one (pt_cmpR op_lt (pv 4) pe_int (nomark _))) (fun _ _ _ _ _ => (pe_tup (pa_cons (pv 3) (pa_cons (pe_un un_neg (pv 4)) pa_nil))))) pa_nil)))
      (pss_one (ps_ret (pe_tup (pa_cons (pv 1) (pa_cons (pv 2) pa_nil))))))), ?_⟩
    try simp only [Rd.cxK]
    refine Rd.seq (Rd.asg (Rb.make (Rd.cons (Rd.lc_ (Rd.iT (Rb.fld (Rd.var rfl (Rb.rowsP Bf hb fun r xs h1 h2 => ?_))))))))
    refine Rb.lcTestT (fun D i acc H' => RowL H' acc (posF (N.take i))) (SqT.of h1) (fun D H' _ _ _ => .nil) ?_ ?_
    · intro i x acc D H' hD hs hi hac hDl hrow
      obtain ⟨z, kq, p, q, rfl, hri, hz, hkq⟩ := h2.get hi
      have hi2 : i < N.length := (List.getElem?_eq_some_iff.mp hri).1
      have hkq' := hs _ _ hkq
      refine Rb.pair2 (SqT.of (hs _ _ hz)) ⟨rfl, ?_⟩
      walk_at "rd"
      · rename_i hq t ht
        exact Rb.rowE hD hs hDl ht hac (by omega) hrow hkq' (fun D i acc H' => RowL H' acc (posF (N.take i))) fun acc' H5 hr => by rw [posF_take hri, if_pos (by exact hq)]; exact hr
      · rename_i hq
        exact ⟨acc, hs, by omega, hDl, by rw [posF_take hri, if_neg (by exact hq), List.append_nil]; exact hrow⟩
    intro D acc H1 hD hs hDl hal hrow
    rw [h2.len, List.take_length] at hrow
    refine Rd.nil ?_
    refine mkB (.inl (SqL.of hDl)) hrow (by have := posF_len N; omega) fun H2 g P s2 _ nm tt bd => ?_
    have eP : posF N = P := (posF_nrm hb.nrm).uniq nm fun p => (tt p).symm
    subst eP
    have hb2 := hb.keep (hs.trans s2)
    refine Rd.seq (Rd.asg (Rb.make (Rd.cons (Rd.lc_ (Rd.iT (Rb.fld (Rd.var rfl (Rb.rowsP Bf hb2 fun r xs h1 h2 => ?_))))))))
    refine Rb.lcTestT (fun D i acc H' => RowL H' acc (negF (N.take i))) (SqT.of h1) (fun D H' _ _ _ => .nil) ?_ ?_
    · intro i x acc D H' hD hs hi hac hDl hrow
      obtain ⟨z, kq, p, q, rfl, hri, hz, hkq⟩ := h2.get hi
      have hi2 : i < N.length := (List.getElem?_eq_some_iff.mp hri).1
      have hkq' := hs _ _ hkq
      refine Rb.pair2 (SqT.of (hs _ _ hz)) ⟨rfl, ?_⟩
      walk_at "rd"
      · rename_i hq t ht
        exact Rb.rowE hD hs hDl ht hac (by omega) hrow hkq' (fun D i acc H' => RowL H' acc (negF (N.take i))) fun acc' H5 hr => by rw [negF_take hri, if_pos (by exact hq)]; exact hr
      · rename_i hq
        exact ⟨acc, hs, by omega, hDl, by rw [negF_take hri, if_neg (by exact hq), List.append_nil]; exact hrow⟩
    intro D acc H3 hD hs3 hDl hal hrow
    rw [h2.len, List.take_length] at hrow
    refine Rd.nil ?_
    refine mkB (.inl (SqL.of hDl)) hrow (by have := negF_len N; omega) fun H4 l P s4 _ nm tt bd2 => ?_
    have eL : negF N = P := (negF_nrm hb.nrm).uniq nm fun p => (tt p).symm
    subst eL
    refine Rd.ret (Rd.tup (Rd.cons (Rd.var rfl (Rd.cons (Rd.var rfl (Rd.nil (Rd.len (by simp) fun t ht => ?_)))))))
    have st := Rd.same_new (o := .tup [V.ref g, V.ref l]) ht
    exact k _ t g l (((hs.trans s2).trans (hs3.trans s4)).trans st) upd_same ((bd.keep (hs3.trans s4)).keep st) (bd2.keep st)
theorem ok_split {f : Addr} {fd : FuncData} (mf : mg "split" = some (.ref f)) (F : FnP K "split" s_split f fd) (C_Bundle___init : CalM P w K mg base (He.fAd K ("Bundle", some "__init__")) 1 ["self", "rows"] [V.ref (He.dflAt ("Bundle", some "__init__") 0 K)] (sp_Bundle___init K))  (W_Bundle : BFacts K mg) : Cal P w K mg base "split" 3 ["bundle"] (sp_split K) :=
  ⟨f, fd, mf, F.kp, F.bindsN fun _ _ _ _ _ _ us hl => match us, hl with | [_], _ => rfl, fn_split F C_Bundle___init W_Bundle⟩

theorem fn_law_assets {f : Addr} {fd : FuncData} (F : FnP K "_law_assets" s_law_assets f fd) (C_law_asset : Cal P w K mg base "_law_asset" 2 ["first", "second"] (sp_law_asset K)) (C_law_numbers : Cal P w K mg base "_law_numbers" 1 ["cell", "many"] (sp_law_numbers K)) (z_range : mg "range" = none) (z_abs : mg "abs" = none) : FnOk P w K mg base CX0 3 f fd ["cell", "numbers"] (sp_law_assets K) := by
  obtain ⟨f_law_asset, fd_law_asset, m_law_asset, k_law_asset, b_law_asset, G_law_asset⟩ := C_law_asset.ex
  obtain ⟨f_law_numbers, fd_law_numbers, m_law_numbers, k_law_numbers, b_law_numbers, G_law_numbers⟩ := C_law_numbers.ex
  refine F.ok sc_law_assets (fun vs H Q E h => ?_) (fun cdv A outer s H vs Q E hr h => ?_)
  · obtain ⟨c, b, ns, rfl, _⟩ := h; rfl
  · obtain ⟨c, b, ns, rfl, hb, hn, h3, k⟩ := h
    refine ⟨_, PSs.nox (pss_cons (ps_setLc (i := 2) (own := [("k", 4)]) (g := gName 4) (tt := tYes) rfl sc_law_assets.nd rfl rfl (sw_true rfl rfl rfl (by decide +kernel)) (pi_range1 (by rfl) z_range (pa_cons pe_int pa_nil)) (blkOk_by (N := N_law_assets) (sc := defScope s_law_assets) (by decide +kernel)) (fun _ _ _ _ _ => pg_name (i := 4) sc_law_assets.nd rfl (by first | exact Or.inl rfl | exact Or.inr rfl)) (fun _ _ _ _ _ => pts_nil) (fun _ _ _ _ _ => (pe_call G_law_asset (hr.mono (by decide)) (by rfl) m_law_asset k_law_asset b_law_asset .nil pass0 (pa_cons (pe_ix (Rb.ix_listK (K := K) rfl) (pv 1) (pe_op op_mul pe_int (pv 4)) (fun _ _ => rfl)) (pa_cons (pe_ix (Rb.ix_listK (K := K) rfl) (pv 1) (pe_op op_add (pe_op op_mul pe_int (pv 4)) pe_int) (fun _ _ => rfl)) pa_nil)))))
      (pss_cons (ps_if (pt_cmpR op_eq (pe_op op_mod (pe_ix ix_list (pv 1) pe_int (fun _ _ => rfl)) pe_int) pe_int (nomark _)) (pss_cons (ps_set (i := 3) sc_law_assets.nd rfl (by first | exact Or.inl rfl | exact Or.inr rfl) (pe_call G_law_numbers (hr.mono (by decide)) (by rfl) m_law_numbers k_law_numbers b_law_numbers .nil pass0 (pa_cons (pe_op op_add (pe_callB call_abs (by rfl) z_abs boot_abs (pa_cons (pv 0) pa_nil)) pe_int) (pa_cons pe_int pa_nil))))
      (pss_one (ps_set (i := 2) sc_law_assets.nd rfl (by first | exact Or.inl rfl | exact Or.inr rfl) (pe_op op_cat (pv 2) (pe_lc (own := [("k", 4)]) (g := gName 4) (tt := tYes) rfl sc_law_assets.nd (pi_range1 (by rfl) z_range (pa_cons pe_int pa_nil)) (blkOk_by (N := N_law_assets) (sc := defScope s_law_assets) (by decide +kernel)) (fun _ _ _ _ _ => pg_name (i := 4) sc_law_assets.nd rfl (by first | exact Or.inl rfl | exact Or.inr rfl)) (fun _ _ _ _ _ => pts_nil) (fun _ _ _ _ _ => (pe_call G_law_asset (hr.mono (by decide)) (by rfl) m_law_asset k_law_asset b_law_asset .nil pass0 (pa_cons (pe_ix (Rb.ix_listK (K := K) rfl) (pv 3) (pe_op op_mul pe_int (pv 4)) (fun _ _ => rfl)) (pa_cons (pe_ix (Rb.ix_listK (K := K) rfl) (pv 3) (pe_op op_add (pe_op op_mul pe_int (pv 4)) pe_int) (fun _ _ => rfl)) pa_nil))))))))) pss_nil)
      (pss_one (ps_ret (pv 2))))), ?_⟩
    try simp only [Rd.cxK]
    walk_at "rd"
    refine Rd.lcR1 (fun D i acc H' => AssL H' acc) (by omega) (fun D H' _ _ _ => AssL.nil) ?_ ?_
    · rintro i acc D H' hD s hi hl hDl hA
      have hb' := s _ _ hb
      walk_at "rd"
      rename_i q x H2 s2 hq hqx ho
      refine Rd.lcE hD (s2 _ _ hDl) (s.trans s2) hl (by omega) ?_
      have nqD : q ≠ D := fun z => by rw [z, hDl] at hq; cases hq
      exact ((hA.keep s2).put ⟨_, s2 _ _ hDl⟩).app ((upd_ne nqD).trans hqx) ho
    · rintro D acc H2 hD s hDl hal hA
      have hb' := s _ _ hb
      have hal' : acc.length = 4 := hal
      walk_at "rd"
      · rename_i h13 p nums H3 s3 hp hpn hpl h3'
        have hpl' : nums.length = 16 := hpl
        refine Rd.lcR1 (fun D i acc H' => AssL H' acc) (by omega) (fun D H' _ _ _ => AssL.nil) ?_ ?_
        · rintro i acc D H' hD s hi hl hDl hA
          have hb' := s _ _ hpn
          walk_at "rd"
          rename_i q x H2 s2 hq hqx ho
          refine Rd.lcE hD (s2 _ _ hDl) (s.trans s2) hl (by omega) ?_
          have nqD : q ≠ D := fun z => by rw [z, hDl] at hq; cases hq
          exact ((hA.keep s2).put ⟨_, s2 _ _ hDl⟩).app ((upd_ne nqD).trans hqx) ho
        · rintro D2 acc2 H4 hD2 s4 hDl2 hal2 hA2
          have hal2' : acc2.length = 8 := hal2
          have hDl3 := s4 _ _ (s3 _ _ hDl)
          walk_at "rd"
          rename_i r hr0
          have sT : Same H (upd H4 r (.lst (acc ++ acc2))) := ((s.trans s3).trans s4).trans (Rd.same_new hr0)
          exact k r (acc ++ acc2) _ sT (by
            cases e : H r with
            | none => rfl
            | some o => have := (s4 _ _ (s3 _ _ (s _ _ e))); rw [hr0] at this; cases this) upd_same ((((hA.keep s3).keep s4).append hA2).keep (Rd.same_new hr0)) (by rw [List.length_append]; omega) (by rw [List.length_append]; omega)
      · exact k D acc H2 s hD hDl hA (by omega) (by omega)
theorem ok_law_assets {f : Addr} {fd : FuncData} (mf : mg "_law_assets" = some (.ref f)) (F : FnP K "_law_assets" s_law_assets f fd) (C_law_asset : Cal P w K mg base "_law_asset" 2 ["first", "second"] (sp_law_asset K)) (C_law_numbers : Cal P w K mg base "_law_numbers" 1 ["cell", "many"] (sp_law_numbers K)) (z_range : mg "range" = none) (z_abs : mg "abs" = none) : Cal P w K mg base "_law_assets" 3 ["cell", "numbers"] (sp_law_assets K) :=
  ⟨f, fd, mf, F.kp, F.bindsN fun _ _ _ _ _ _ us hl => match us, hl with | [_, _], _ => rfl, fn_law_assets F C_law_asset C_law_numbers z_range z_abs⟩

theorem fn_Bundle___sub {fd : FuncData} (F : FunD K "__sub__" "Bundle.__sub__" (defArgs s_Bundle___sub) (defBody s_Bundle___sub) (defScope s_Bundle___sub) [] [] (He.fAd K ("Bundle", some "__sub__")) fd) (C_Bundle___init : CalM P w K mg base (He.fAd K ("Bundle", some "__init__")) 1 ["self", "rows"] [V.ref (He.dflAt ("Bundle", some "__init__") 0 K)] (sp_Bundle___init K)) (C_Bundle___neg : CalM P w K mg base (He.fAd K ("Bundle", some "__neg__")) 3 ["self"] [] (sp_Bundle___neg K))  (W_Bundle : BFacts K mg) : FnOk P w K mg base CX0 4 (He.fAd K ("Bundle", some "__sub__")) fd ["self", "other"] (sp_Bundle___sub K) := by
  obtain ⟨fd_Bundle___init, b_Bundle___init, G_Bundle___init, ds_Bundle___init, dr_Bundle___init, db_Bundle___init⟩ := C_Bundle___init.ex
  obtain ⟨fd_Bundle___neg, b_Bundle___neg, G_Bundle___neg, ds_Bundle___neg, dr_Bundle___neg, db_Bundle___neg⟩ := C_Bundle___neg.ex
  have Bf := W_Bundle
  refine F.ok sc_Bundle___sub (fun vs H Q E h => ?_) (fun cdv A outer s H vs Q E hr h => ?_)
  · obtain ⟨b, c, N, M, rfl, _⟩ := h; rfl
  · obtain ⟨b, c, N, M, rfl, hb, hc, hl, k⟩ := h
    refine ⟨_, PSs.nox (pss_one (ps_ret (pe_make Bf.mkr G_Bundle___init (hr.mono (by decide)) (by rfl) Bf.m b_Bundle___init .nil pass0 (pa_cons (pe_op op_catA (pe_fld (pv 0) rfl) (pe_fld (pe_un (Bd.un_own G_Bundle___neg Bf.at_Bundle___neg Bf.fn_Bundle___neg b_Bundle___neg pass0 (hr.mono (by decide))) (pv 1)) rfl)) pa_nil)))), ?_⟩
    try simp only [Rd.cxK]
    refine Rd.ret (Rb.make (Rd.cons (Rd.op (Rb.fld (Rd.var rfl (Rb.rowsP Bf hb fun r xs h1 h2 => Rb.fld (Rd.un (Rd.var rfl (Rb.own1 (Rb.insOf hc) ⟨_, _, rfl, hc, by omega, fun H1 c' M' s1 nm1 tt1 bd1 => ?_⟩)))))))))
    refine Rb.rowsP Bf bd1 fun r' ys h3 h4 => ?_
    have hM : M'.length = M.length := by
      rw [nm1.uniq hc.nrm.neg fun p => by rw [tt1, tot_neg], List.length_map]
    refine Rb.catA (SqT.of (s1 _ _ h1)) (SqT.of h3) (by have := h2.len; have := h4.len; omega) fun p H2 s2 h5 => Rd.nil ?_
    refine mkB (.inr h5) (((h2.keep s1).keep s2).append (h4.keep s2)) (by rw [List.length_append]; omega) fun H' c' L s3 _ nm tt bd => ?_
    exact k H' c' L ((s1.trans s2).trans s3) nm (fun p => by rw [tt, tot_append, tt1]; omega) bd
theorem ok_Bundle___sub {fd : FuncData} (F : FunD K "__sub__" "Bundle.__sub__" (defArgs s_Bundle___sub) (defBody s_Bundle___sub) (defScope s_Bundle___sub) [] [] (He.fAd K ("Bundle", some "__sub__")) fd) (C_Bundle___init : CalM P w K mg base (He.fAd K ("Bundle", some "__init__")) 1 ["self", "rows"] [V.ref (He.dflAt ("Bundle", some "__init__") 0 K)] (sp_Bundle___init K)) (C_Bundle___neg : CalM P w K mg base (He.fAd K ("Bundle", some "__neg__")) 3 ["self"] [] (sp_Bundle___neg K))  (W_Bundle : BFacts K mg) : CalM P w K mg base (He.fAd K ("Bundle", some "__sub__")) 4 ["self", "other"] [] (sp_Bundle___sub K) :=
  ⟨fd, F.bindsN fun _ _ _ _ _ _ us hl => match us, hl with | [_, _], _ => rfl, fn_Bundle___sub F C_Bundle___init C_Bundle___neg W_Bundle, [], .nil, F.bindsN fun _ _ _ _ _ _ us hl => match us, hl with | [_, _], _ => rfl⟩

theorem fn_law {f : Addr} {fd : FuncData} (F : FnP K "law" s_law f fd) (C_law_numbers : Cal P w K mg base "_law_numbers" 1 ["cell", "many"] (sp_law_numbers K)) (C_law_cell : Cal P w K mg base "_law_cell" 1 ["script", "k"] (sp_law_cell K)) (C_law_assets : Cal P w K mg base "_law_assets" 3 ["cell", "numbers"] (sp_law_assets K)) (C_law_rows : Cal P w K mg base "_law_rows" 2 ["script", "at", "numbers", "assets", "many"] (sp_law_rows K)) (C_law_normal : Cal P w K mg base "_law_normal" 1 ["rows"] (sp_law_normal K)) (C_Bundle___init : CalM P w K mg base (He.fAd K ("Bundle", some "__init__")) 1 ["self", "rows"] [V.ref (He.dflAt ("Bundle", some "__init__") 0 K)] (sp_Bundle___init K)) (C_split : Cal P w K mg base "split" 3 ["bundle"] (sp_split K)) (C_law_same : Cal P w K mg base "_law_same" 2 ["actual", "expected"] (sp_law_same K)) (C_Bundle___sub : CalM P w K mg base (He.fAd K ("Bundle", some "__sub__")) 4 ["self", "other"] [] (sp_Bundle___sub K)) (C_policies : Cal P w K mg base "policies" 1 ["bundle"] (sp_policies K)) (z_list : mg "list" = none) (z_len : mg "len" = none) (z_isinstance : mg "isinstance" = none) (z_tuple : mg "tuple" = none) (z_sorted : mg "sorted" = none) (W_Bundle : BFacts K mg) : FnOk P w K mg base CX0 5 f fd ["script"] (sp_law K) := by
  obtain ⟨f_law_numbers, fd_law_numbers, m_law_numbers, k_law_numbers, b_law_numbers, G_law_numbers⟩ := C_law_numbers.ex
  obtain ⟨f_law_cell, fd_law_cell, m_law_cell, k_law_cell, b_law_cell, G_law_cell⟩ := C_law_cell.ex
  obtain ⟨f_law_assets, fd_law_assets, m_law_assets, k_law_assets, b_law_assets, G_law_assets⟩ := C_law_assets.ex
  obtain ⟨f_law_rows, fd_law_rows, m_law_rows, k_law_rows, b_law_rows, G_law_rows⟩ := C_law_rows.ex
  obtain ⟨f_law_normal, fd_law_normal, m_law_normal, k_law_normal, b_law_normal, G_law_normal⟩ := C_law_normal.ex
  obtain ⟨fd_Bundle___init, b_Bundle___init, G_Bundle___init, ds_Bundle___init, dr_Bundle___init, db_Bundle___init⟩ := C_Bundle___init.ex
  obtain ⟨f_split, fd_split, m_split, k_split, b_split, G_split⟩ := C_split.ex
  obtain ⟨f_law_same, fd_law_same, m_law_same, k_law_same, b_law_same, G_law_same⟩ := C_law_same.ex
  obtain ⟨fd_Bundle___sub, b_Bundle___sub, G_Bundle___sub, ds_Bundle___sub, dr_Bundle___sub, db_Bundle___sub⟩ := C_Bundle___sub.ex
  obtain ⟨f_policies, fd_policies, m_policies, k_policies, b_policies, G_policies⟩ := C_policies.ex
  have Bf := W_Bundle
  refine F.ok sc_law (fun vs H Q E h => ?_) (fun cdv A outer s H vs Q E hr h => ?_)
  · obtain ⟨a, ns, rfl, _⟩ := h; rfl
  · obtain ⟨a, ns, rfl, hS, h63, k⟩ := h
    refine ⟨_, PSs.nox (pss_cons (ps_set (i := 1) sc_law.nd rfl (by first | exact Or.inl rfl | exact Or.inr rfl) (pe_call G_law_numbers (hr.mono (by decide)) (by rfl) m_law_numbers k_law_numbers b_law_numbers .nil pass0 (pa_cons (pe_call G_law_cell (hr.mono (by decide)) (by rfl) m_law_cell k_law_cell b_law_cell .nil pass0 (pa_cons (pv 0) (pa_cons pe_int pa_nil))) (pa_cons pe_int pa_nil))))
      (pss_cons (ps_set (i := 2) sc_law.nd rfl (by first | exact Or.inl rfl | exact Or.inr rfl) (pe_call G_law_assets (hr.mono (by decide)) (by rfl) m_law_assets k_law_assets b_law_assets .nil pass0 (pa_cons (pe_call G_law_cell (hr.mono (by decide)) (by rfl) m_law_cell k_law_cell b_law_cell .nil pass0 (pa_cons (pv 0) (pa_cons pe_int pa_nil))) (pa_cons (pv 1) pa_nil))))
      (pss_cons (ps_set (i := 3) sc_law.nd rfl (by first | exact Or.inl rfl | exact Or.inr rfl) (pe_op op_mod (pe_ix ix_list (pv 1) pe_int (fun _ _ => rfl)) pe_int))
      (pss_cons (ps_if (pt_cmpR op_eq (pe_op op_mod (pe_ix ix_list (pv 1) pe_int (fun _ _ => rfl)) pe_int) pe_int (nomark _)) (pss_one (ps_set (i := 3) sc_law.nd rfl (by first | exact Or.inl rfl | exact Or.inr rfl) (pe_op op_mod (pe_ix ix_list (pv 1) pe_int (fun _ _ => rfl)) pe_int))) pss_nil)
      (pss_cons (ps_set (i := 4) sc_law.nd rfl (by first | exact Or.inl rfl | exact Or.inr rfl) (pe_call G_law_rows (hr.mono (by decide)) (by rfl) m_law_rows k_law_rows b_law_rows .nil pass0 (pa_cons (pv 0) (pa_cons pe_int (pa_cons (pv 1) (pa_cons (pv 2) (pa_cons (pv 3) pa_nil)))))))
      (pss_cons (ps_set (i := 5) sc_law.nd rfl (by first | exact Or.inl rfl | exact Or.inr rfl) (pe_call G_law_normal (hr.mono (by decide)) (by rfl) m_law_normal k_law_normal b_law_normal .nil pass0 (pa_cons (pv 4) pa_nil)))
      (pss_cons (ps_set (i := 6) sc_law.nd rfl (by first | exact Or.inl rfl | exact Or.inr rfl) (pe_make Bf.mkr G_Bundle___init (hr.mono (by decide)) (by rfl) Bf.m b_Bundle___init .nil pass0 (pa_cons (pe_callTy call_list_of (by rfl) z_list boot_list (pa_cons (pv 4) pa_nil)) pa_nil)))
      (pss_cons (ps_set (i := 7) sc_law.nd rfl (by first | exact Or.inl rfl | exact Or.inr rfl) (pe_call G_split (hr.mono (by decide)) (by rfl) m_split k_split b_split .nil pass0 (pa_cons (pv 6) pa_nil)))
      (pss_cons (ps_if (PW.pt (pw_or (pt_not (pt_val (pe_callB call_isi (by rfl) z_isinstance boot_isinstance (pa_cons (pv 7) (pa_cons (pe_bltn (v := .ty "tuple") (by rfl) z_tuple boot_tuple rfl) pa_nil))))) (pw_or1 (pt_cmpR op_ne (pe_callB call_len_seq (by rfl) z_len boot_len (pa_cons (pv 7) pa_nil)) pe_int (nomark _))))) (pss_one (ps_ret pe_bl)) pss_nil)
      (pss_cons (ps_if (pt_not (pt_val (pe_call G_law_same (hr.mono (by decide)) (by rfl) m_law_same k_law_same b_law_same .nil pass0 (pa_cons (pe_fld (pe_ix ix_tup (pv 7) pe_int (fun _ _ => rfl)) rfl) (pa_cons (pe_callTy call_tuple_of (by rfl) z_tuple boot_tuple (pa_cons (pe_lc (own := [("row", 12)]) (g := gName 12) (tt := _) rfl sc_law.nd (pi_tup (pv 5)) (blkOk_by (N := N_law) (sc := defScope s_law) (by decide +kernel)) (fun _ _ _ _ _ => pg_name (i := 12) sc_law.nd rfl (by first | exact Or.inl rfl | exact Or.inr rfl)) (fun _ _ _ _ _ => pts_one (pt_cmpR op_gt (pe_ix (Rb.ix_tupK (K := K) rfl) (pv 12) pe_int (fun _ _ => rfl)) pe_int (nomark _))) (fun _ _ _ _ _ => (pv 12))) pa_nil)) pa_nil))))) (pss_one (ps_ret pe_bl)) pss_nil)
      (pss_cons (ps_if (pt_not (pt_val (pe_call G_law_same (hr.mono (by decide)) (by rfl) m_law_same k_law_same b_law_same .nil pass0 (pa_cons (pe_fld (pe_ix ix_tup (pv 7) pe_int (fun _ _ => rfl)) rfl) (pa_cons (pe_callTy call_tuple_of (by rfl) z_tuple boot_tuple (pa_cons (pe_lc (own := [("row", 12)]) (g := gName 12) (tt := _) rfl sc_law.nd (pi_tup (pv 5)) (blkOk_by (N := N_law) (sc := defScope s_law) (by decide +kernel)) (fun _ _ _ _ _ => pg_name (i := 12) sc_law.nd rfl (by first | exact Or.inl rfl | exact Or.inr rfl)) (fun _ _ _ _ _ => pts_one (pt_cmpR op_lt (pe_ix (Rb.ix_tupK (K := K) rfl) (pv 12) pe_int (fun _ _ => rfl)) pe_int (nomark _))) (fun _ _ _ _ _ => (pe_tup (pa_cons (pe_ix (Rb.ix_tupK (K := K) rfl) (pv 12) pe_int (fun _ _ => rfl)) (pa_cons (pe_un un_neg (pe_ix (Rb.ix_tupK (K := K) rfl) (pv 12) pe_int (fun _ _ => rfl))) pa_nil))))) pa_nil)) pa_nil))))) (pss_one (ps_ret pe_bl)) pss_nil)
      (pss_cons (ps_if (pt_not (pt_val (pe_call G_law_same (hr.mono (by decide)) (by rfl) m_law_same k_law_same b_law_same .nil pass0 (pa_cons (pe_fld (pe_op (Bd.op_own G_Bundle___sub Bf.first Bf.at_Bundle___sub Bf.fn_Bundle___sub b_Bundle___sub pass0 (hr.mono (by decide))) (pe_ix ix_tup (pv 7) pe_int (fun _ _ => rfl)) (pe_ix ix_tup (pv 7) pe_int (fun _ _ => rfl))) rfl) (pa_cons (pv 5) pa_nil))))) (pss_one (ps_ret pe_bl)) pss_nil)
      (pss_cons (ps_set (i := 8) sc_law.nd rfl (by first | exact Or.inl rfl | exact Or.inr rfl) (pe_lst pa_nil))
      (pss_cons (ps_for PassesOwn.never rfl (pi_tup (pv 5)) (pg_tup (n := 2) rfl (pgs_cons (pg_name (i := 10) sc_law.nd rfl (by first | exact Or.inl rfl | exact Or.inr rfl)) (pgs_cons (pg_name (i := 11) sc_law.nd rfl (by first | exact Or.inl rfl | exact Or.inr rfl)) pgs_nil))) (pss_one (ps_if (PW.pt (pw_and (pt_cmpR op_ne (pe_ix ix_tup (pv 10) pe_int (fun _ _ => rfl)) pe_str (nomark _)) (pw_and1 (pt_cmpR (op_notInD (Rb.units65 hr)) (pe_ix ix_tup (pv 10) pe_int (fun _ _ => rfl)) (pv 8) (by rfl))))) (pss_one (ps_expr (pe_bm PySem.F.plainAttrs_list PySem.F.slot_list_append PySem.F.type_list_append mt_append (pv 8) (pa_cons (pe_ix ix_tup (pv 10) pe_int (fun _ _ => rfl)) pa_nil)))) pss_nil)))
      (pss_cons (ps_set (i := 9) sc_law.nd rfl (by first | exact Or.inl rfl | exact Or.inr rfl) (pe_call G_policies (hr.mono (by decide)) (by rfl) m_policies k_policies b_policies .nil pass0 (pa_cons (pv 6) pa_nil)))
      (pss_cons (ps_if (PW.pt (pw_or (pt_not (pt_val (pe_callB call_isi (by rfl) z_isinstance boot_isinstance (pa_cons (pv 9) (pa_cons (pe_bltn (v := .ty "list") (by rfl) z_list boot_list rfl) pa_nil))))) (pw_or1 (pt_cmpR (op_neD hr.units) (pv 9) (pe_callB cr_sortedS (by rfl) z_sorted boot_sorted (pa_cons (pv 8) pa_nil)) (nomark _))))) (pss_one (ps_ret pe_bl)) pss_nil)
      (pss_cons (ps_expr (pe_bm PySem.F.plainAttrs_list PySem.F.slot_list_append PySem.F.type_list_append mt_append (pv 9) (pa_cons pe_str pa_nil)))
      (pss_one (ps_ret (pe_and (pe_cmpR (op_eqD hr.units) (pe_call G_policies (hr.mono (by decide)) (by rfl) m_policies k_policies b_policies .nil pass0 (pa_cons (pv 6) pa_nil)) (pe_callB cr_sortedS (by rfl) z_sorted boot_sorted (pa_cons (pv 8) pa_nil)) (nomark _)) (pe_one (pe_call G_law_same (hr.mono (by decide)) (by rfl) m_law_same k_law_same b_law_same .nil pass0 (pa_cons (pe_fld (pv 6) rfl) (pa_cons (pv 5) pa_nil)))))))))))))))))))))))), ?_⟩
    try simp only [Rd.cxK, lit_2, lit_5]
    walk_at "rd"
    refine ⟨a, ns, 0, rfl, hS, by omega, fun z => ?_⟩
    walk_at "rd"
    rename_i p nums H1 s1 hp hpn hpl h3
    refine ⟨a, ns, 0, rfl, s1.seq hS, by omega, fun z2 => ?_⟩
    walk_at "rd"
    have hpl' : nums.length = 24 := hpl
    refine ⟨_, p, nums, rfl, hpn, hpl', h3, fun q vs H2 s2 hq hqv hA hv4 hv12 => ?_⟩
    have hpn2 := s2 _ _ hpn
    have hS2 := s2.seq (s1.seq hS)
    walk_at "rj"
    refine Rd.join (fun σ' H' => ∃ m : Int, σ' = [some (.ref a), some (.ref p), some (.ref q), some (.int m), none, none, none, none, none, none, none, none, none] ∧ H' = H2 ∧ 0 ≤ m ∧ m ≤ 60) (fun Nx hN => ?_) ?_
    · walk_at "rd"
      all_goals exact hN _ _ ⟨_, rfl, rfl, by omega, by omega⟩
    rintro σ' H3 ⟨m, rfl, rfl, hm0, hm60⟩
    walk_at "rd"
    refine ⟨a, p, q, ns, nums, vs, 1, m, rfl, hS2, by omega, hpn2, by omega, h3, hqv, hA, by omega, by omega, fun fa xs R H5 s5 hfa hfx hR hG hRl => ?_⟩
    walk_at "rd"
    refine ⟨fa, xs, R, rfl, hfx, hR, hG.ok, by omega, fun t ys N H6 s6 hty hyr nm tt => ?_⟩
    have hfx6 := s6 _ _ hfx
    have hR6 := hR.keep s6
    have gN := hG.tot nm tt
    have oN := gN.ok
    have lN := nm.len tt
    have hyl := hyr.len
    refine Rd.seq (Rd.asg (Rb.make (Rd.cons (Rd.cbLst (Rd.cons (Rd.var rfl (Rd.nil (Rd.lstL (SqL.of hfx6) fun l hl => Rd.nil ?_))))))))
    have sl := Rd.same_new (o := .lst xs) hl
    refine mkB (.inl (SqL.of upd_same)) (hR6.keep sl) (by omega) fun H7 b M s7 _ nmM ttM bd => ?_
    have eM : N = M := nm.uniq nmM fun x => by rw [tt, ttM]
    subst eM
    refine Rd.seq (Rd.asg (Rd.callN (Rd.cons (Rd.var rfl (Rd.nil ⟨b, N, rfl, bd, by omega, fun H8 aw g lo s8 haw bg bl => ?_⟩)))))
    have u8 := (sl.trans s7).trans s8
    have hty8 := u8 _ _ hty
    have hyr8 := hyr.keep u8
    have bd8 := bd.keep s8
    clear bd sl s7 hl
    walk_at "rd"
    · exact absurd rfl ‹_›
    refine Rb.fld (Rd.op (Rd.var rfl (Rd.cst (Rd.ixT (SqT.of haw) (Rd.atI_of (by decide) rfl) (Rb.rowsP Bf bg fun r1 zs hr1 hz => ?_)))))
    refine Rd.cons (Rd.cbTup (Rd.cons (Rd.lc_ (Rd.iT (Rd.var rfl ?_)))))
    refine Rb.lcTestT (fun D i acc H' => RowL H' acc (posF (N.take i))) (SqT.of hty8) (fun D H' _ _ _ => .nil) ?_ ?_
    · intro i x acc D H' hD hs hi hac hDl hrow
      obtain ⟨z, kq, p', q', rfl, hri, hz, hkq⟩ := hyr8.get hi
      have hi2 : i < N.length := (List.getElem?_eq_some_iff.mp hri).1
      have hz' := hs _ _ hz
      have hkq' := hs _ _ hkq
      refine ⟨rfl, Rd.tst (Rd.op (Rd.op (Rd.var rfl (Rd.cst (Rd.ixT (SqT.of hz') (Rd.atI_of (by decide) rfl) (Rd.cst (Rd.opI0 (Rd.bl (Rd.iteD (fun hq => ?_) (fun hq => ?_))))))))))⟩
      · refine Rd.var rfl ⟨acc, hDl, Rd.smallT (by omega), acc ++ [.ref z], Rd.same_mut hs hD, by rw [List.length_append]; simp; omega, upd_same, ?_⟩
        rw [posF_take hri, if_pos (by exact hq)]
        have up : ∀ y w, H' y = some (.tup w) → (upd H' D (.lst (acc ++ [V.ref z]))) y = some (.tup w) := fun y w hy => (upd_ne fun e => by rw [e, hDl] at hy; cases hy).trans hy
        exact (hrow.keepT up).append (.cons (kq := kq) (up _ _ hz') (up _ _ hkq') .nil)
      · exact ⟨acc, hs, by omega, hDl, by rw [posF_take hri, if_neg (by exact hq), List.append_nil]; exact hrow⟩
    intro D1 acc1 H9 hD1 s9 hDl1 hal1 hrow1
    rw [hyl, List.take_length] at hrow1
    have lP := posF_len N
    have lN2 := negF_len N
    refine Rd.nil (Rd.tupL (SqL.of hDl1) fun t1 ht1 => Rd.nil ?_)
    have st1 := Rd.same_new (o := .tup acc1) ht1
    have u9 := s9.trans st1
    refine ⟨r1, t1, zs, acc1, posF N, rfl, u9 _ _ hr1, upd_same, hz.keep u9, hrow1.keep st1, posF_ok oN, by omega, true, rfl, Rd.iteNT (Rd.next ?_)⟩
    have v9 := u8.trans u9
    have haw9 := u9 _ _ haw
    have bg9 := bg.keep u9
    have bl9 := bl.keep u9
    have bd9 := bd8.keep u9
    have hty9 := v9 _ _ hty
    have hyr9 := hyr.keep v9
    generalize upd H9 t1 (.tup acc1) = HA at v9 haw9 bg9 bl9 bd9 hty9 hyr9 ⊢
    clear st1 u9 hrow1 hDl1 ht1 s9 hr1 hz bg bl haw hyr8 hty8 bd8
    refine Rd.seq (Rd.ifS (Rd.not_ (Rd.tB_ (Rd.callN (Rd.cons (Rb.fld (Rd.op (Rd.var rfl (Rd.cst (Rd.ixT (SqT.of haw9) (Rd.atI_of (by decide) rfl) (Rb.rowsP Bf bl9 fun r1 zs hr1 hz => ?_)))))))))))
    refine Rd.cons (Rd.cbTup (Rd.cons (Rd.lc_ (Rd.iT (Rd.var rfl ?_)))))
    refine Rb.lcTestT (fun D i acc H' => RowL H' acc (negF (N.take i))) (SqT.of hty9) (fun D H' _ _ _ => .nil) ?_ ?_
    · intro i x acc D H' hD hs hi hac hDl hrow
      obtain ⟨z, kq, p', q', rfl, hri, hz, hkq⟩ := hyr9.get hi
      have hi2 : i < N.length := (List.getElem?_eq_some_iff.mp hri).1
      have hz' := hs _ _ hz
      have hkq' := hs _ _ hkq
      refine ⟨rfl, Rd.tst (Rd.op (Rd.op (Rd.var rfl (Rd.cst (Rd.ixT (SqT.of hz') (Rd.atI_of (by decide) rfl) (Rd.cst (Rd.opI0 (Rd.bl (Rd.iteD (fun hq => ?_) (fun hq => ?_))))))))))⟩
      · walk_at "rd"
        rename_i tt0 htt
        exact Rb.rowE hD hs hDl htt hac (by omega) hrow hkq' (fun D i acc H' => RowL H' acc (negF (N.take i))) fun acc' H5 hr => by rw [negF_take hri, if_pos (by exact hq)]; exact hr
      · exact ⟨acc, hs, by omega, hDl, by rw [negF_take hri, if_neg (by exact hq), List.append_nil]; exact hrow⟩
    intro D1 acc1 H9 hD1 s9 hDl1 hal1 hrow1
    rw [hyl, List.take_length] at hrow1
    refine Rd.nil (Rd.tupL (SqL.of hDl1) fun t1 ht1 => Rd.nil ?_)
    have st1 := Rd.same_new (o := .tup acc1) ht1
    have u9 := s9.trans st1
    have oNeg : OkR (negF N) := fun e he => by
      obtain ⟨f, hf, rfl⟩ := List.mem_map.mp he
      exact oN f (List.mem_filter.mp hf).1
    refine ⟨r1, t1, zs, acc1, negF N, rfl, u9 _ _ hr1, upd_same, hz.keep u9, hrow1.keep st1, oNeg, by omega, true, rfl, Rd.iteNT (Rd.next ?_)⟩
    have vA := v9.trans u9
    have hawA := u9 _ _ haw9
    have bgA := bg9.keep u9
    have blA := bl9.keep u9
    have bdA := bd9.keep u9
    have htyA := vA _ _ hty
    have hyrA := hyr.keep vA
    generalize upd H9 t1 (.tup acc1) = HB at vA hawA bgA blA bdA htyA hyrA ⊢
    clear st1 u9 hrow1 hDl1 ht1 s9 hr1 hz bg9 bl9 haw9 hyr9 hty9 bd9 v9
    refine Rd.seq (Rd.ifS (Rd.not_ (Rd.tB_ (Rd.callN (Rd.cons (Rb.fld (Rd.op (Rd.op (Rd.var rfl (Rd.cst (Rd.ixT (SqT.of hawA) (Rd.atI_of (by decide) rfl) (Rd.op (Rd.var rfl (Rd.cst (Rd.ixT (SqT.of hawA) (Rd.atI_of (by decide) rfl) (Rb.own2 (Rb.insOf bgA) (Rb.insOf blA) ⟨g, lo, posF N, negF N, rfl, bgA, blA, by omega, fun HC df Dn sC nmD ttD bdD => ?_⟩))))))))))))))))
    have eD : Dn = N := nmD.uniq nm fun x => by rw [ttD, pos_neg]
    subst eD
    refine Rb.rowsP Bf bdD fun r1 zs hr1 hz => Rd.cons (Rd.var rfl (Rd.nil ⟨r1, t, zs, ys, Dn, rfl, hr1, sC _ _ htyA, hz, hyrA.keep sC, oN, by omega, true, rfl, Rd.iteNT (Rd.next ?_)⟩))
    have vC := vA.trans sC
    have bdC := bdA.keep sC
    have htyC := vC _ _ hty
    have hyrC := hyr.keep vC
    clear hr1 hz bgA blA bdA htyA hyrA hawA bdD
    refine Rd.seq (Rd.asg (Rd.lst (Rd.nil (Rd.len (by simp) fun ex hex => ?_))))
    have sx := Rd.same_new (o := .lst []) hex
    refine Rd.seq (Rd.for_ (Rd.iT (Rd.var rfl ?_)))
    refine Rd.forT (fun i σ' H' => ∃ (c10 c11 : Option V), σ' = [some (.ref a), some (.ref p), some (.ref q), some (.int m), some (.ref fa), some (.ref t), some (.ref b), some (.ref aw), some (.ref ex), none, c10, c11, none] ∧ Same HC H' ∧ H' ex = some (.lst ((pols (Dn.take i)).map V.str))) (SqT.of (sx _ _ htyC)) ⟨_, _, rfl, sx, upd_same⟩ (fun i σ' H' _ ⟨_, _, _, h, _⟩ => SqT.of (h _ _ htyC)) ?_ ?_
    · rintro i x σ' H' hi ⟨c10, c11, rfl, hs, hexl⟩
      obtain ⟨z, kq, p', q', rfl, hri, hz, hkq⟩ := (hyrC.keep hs).get hi
      have hi2 : i < Dn.length := (List.getElem?_eq_some_iff.mp hri).1
      have hga := gN _ (List.mem_of_getElem? hri)
      have hpl : (pols (Dn.take i)).length ≤ 60 := by
        have := pols_len (D := Dn.take i) (ms := [])
        rw [List.length_take] at this
        simp only [List.length_nil] at this
        exact Nat.le_trans this (by omega)
      have hpo : ∀ y ∈ pols (Dn.take i), PyData.strOk y = true := pols_ok (D := Dn.take i) (fun e he => oN e (List.mem_of_mem_take he)) (ms := []) (fun y hy => absurd hy List.not_mem_nil)
      refine Rb.pair2 (SqT.of hz) ?_
      refine Rd.ifS (Rd.and_ (Rd.tst (Rd.op (Rd.op (Rd.var rfl (Rd.cst (Rd.ixT (SqT.of hkq) (Rd.atI_of (by decide) rfl) (Rd.cst (Rd.neS (Rd.bl (Rd.iteN (fun hne => ?_) (fun he => ?_))))))))))))
      · refine Rd.tst (Rd.op (Rd.op (Rd.var rfl (Rd.cst (Rd.ixT (SqT.of hkq) (Rd.atI_of (by decide) rfl) (Rd.var rfl ⟨encT p'.1, (pols (Dn.take i)).map encT, .str _, .lst (SqL.of hexl) (vals_dp _), ?_, encTs_shaped hpo, ?_⟩))))))
        · exact encT_shaped hga.1
        have nc : ¬ p' = coinA := fun e => hne (by rw [e]; rfl)
        rw [encT_any]
        refine Rd.bl (Rd.iteN (fun hno => ?_) (fun hyes => ?_))
        · refine Rd.drop (Rd.app (Rd.var rfl (Rd.tyL hexl (Rd.cons (Rd.op (Rd.var rfl (Rd.cst (Rd.ixT (SqT.of hkq) (Rd.atI_of (by decide) rfl) (Rd.nil (Rd.appd hexl (by rw [List.length_map]; omega) ⟨_, _, rfl, Rd.same_mut hs hex, ?_⟩))))))))))
          rw [upd_same, pols_take hri, if_neg nc]
          unfold addT
          rw [if_neg hno, List.map_append]
          rfl
        · refine Rd.next ⟨_, _, rfl, hs, ?_⟩
          rw [pols_take hri, if_neg nc]
          unfold addT
          rw [if_pos hyes]
          exact hexl
      · refine Rd.iteF (Rd.next ⟨_, _, rfl, hs, ?_⟩)
        rw [pols_take hri, if_pos (hga.2 he)]
        exact hexl
    rintro σ' HD ⟨c10, c11, rfl, hs, hexl⟩
    rw [hyl, List.take_length] at hexl
    have hpl : (pols Dn).length ≤ 60 := Nat.le_trans (pols_len (D := Dn) (ms := [])) (by simp; omega)
    have hpo : ∀ y ∈ pols Dn, PyData.strOk y = true := pols_ok (D := Dn) oN (ms := []) (fun y hy => absurd hy List.not_mem_nil)
    have bdD := bdC.keep hs
    refine Rd.seq (Rd.asg (Rd.callN (Rd.cons (Rd.var rfl (Rd.nil ⟨b, Dn, rfl, bdD, by omega, oN, fun fd fs HE sE hfd hfl hfp hfs => ?_⟩)))))
    have hexE := sE _ _ hexl
    have nef : ex ≠ fd := fun e => by rw [← e, hexl] at hfd; cases hfd
    have hfo : ∀ y ∈ fs, PyData.strOk y = true := fun y hy => hpo y (hfp.mem_iff.mp hy)
    have hfn : fs.length ≤ 60 := by rw [hfp.length_eq]; exact hpl
    refine Rd.seq (Rd.ifS (Rd.or_ (Rd.not_ (Rd.tB_ (Rd.cb (Rd.cons (Rd.var rfl (Rd.cons (Rd.cst (Rd.nil (Rd.isiL (SqL.of hfl) Rd.kb_list_list ⟨true, rfl, Rd.iteNT ?_⟩)))))))))))
    refine Rd.tst (Rd.op (Rd.var rfl (Rd.cb (Rd.cons (Rd.var rfl (Rd.nil ⟨ex, pols Dn, rfl, SqL.of hexE, by omega, fun gs p2 hgp hgs hp2 => ?_⟩))))))
    have eg : fs = gs := sorted_uniq hfs hgs (hfp.trans hgp.symm)
    subst eg
    have s2' := Rd.same_new (o := .lst (fs.map V.str)) hp2
    refine ⟨.list (fs.map encT), .list (fs.map encT), .lst (SqL.of (s2' _ _ hfl)) (vals_dp _), .lst (SqL.of upd_same) (vals_dp _), encTs_shaped hfo, encTs_shaped hfo, ?_⟩
    rw [show PyData.eqv (.list (fs.map encT)) (.list (fs.map encT)) = true by simp only [PyData.eqv]; exact encT_all fs]
    refine ⟨!true, rfl, Rd.iteNT (Rd.next ?_)⟩
    have sE2 := sE.trans s2'
    have hflE := s2' _ _ hfl
    refine Rd.seq (Rd.drop (Rd.app (Rd.var rfl (Rd.tyL hflE (Rd.cons (Rd.cst (Rd.nil (Rd.appd hflE (by rw [List.length_map]; omega) ?_))))))))
    have sF := Rd.same_mut (o := .lst (fs.map V.str ++ [V.str (Rd.S [120])])) sE2 hfd
    have bdF := bdD.keep sF
    have hexF := sF _ _ hexl
    have htyF := sF _ _ (hs _ _ htyC)
    have hyrF := (hyrC.keep hs).keep sF
    refine Rd.ret (Rd.andV (Rd.op (Rd.callN (Rd.cons (Rd.var rfl (Rd.nil ⟨b, Dn, rfl, bdF, by omega, oN, fun fd2 fs2 HG sG hfd2 hfl2 hfp2 hfs2 => ?_⟩))))))
    refine Rd.cb (Rd.cons (Rd.var rfl (Rd.nil ⟨ex, pols Dn, rfl, SqL.of (sG _ _ hexF), by omega, fun gs2 p3 hgp2 hgs2 hp3 => ?_⟩)))
    have eg2 : fs2 = gs2 := sorted_uniq hfs2 hgs2 (hfp2.trans hgp2.symm)
    subst eg2
    have hfo2 : ∀ y ∈ fs2, PyData.strOk y = true := fun y hy => hpo y (hfp2.mem_iff.mp hy)
    have s3' := Rd.same_new (o := .lst (fs2.map V.str)) hp3
    refine ⟨.list (fs2.map encT), .list (fs2.map encT), .lst (SqL.of (s3' _ _ hfl2)) (vals_dp _), .lst (SqL.of upd_same) (vals_dp _), encTs_shaped hfo2, encTs_shaped hfo2, ?_⟩
    rw [show PyData.eqv (.list (fs2.map encT)) (.list (fs2.map encT)) = true by simp only [PyData.eqv]; exact encT_all fs2]
    refine ⟨true, rfl, Rd.iteT ?_⟩
    have sH := sG.trans s3'
    refine Rd.callN (Rd.cons (Rb.fld (Rd.var rfl (Rb.rowsP Bf (bdF.keep sH) fun r1 zs hr1 hz => Rd.cons (Rd.var rfl (Rd.nil ⟨r1, t, zs, ys, Dn, rfl, hr1, sH _ _ htyF, hz, hyrF.keep sH, oN, by omega, k _⟩))))))
theorem ok_law {f : Addr} {fd : FuncData} (mf : mg "law" = some (.ref f)) (F : FnP K "law" s_law f fd) (C_law_numbers : Cal P w K mg base "_law_numbers" 1 ["cell", "many"] (sp_law_numbers K)) (C_law_cell : Cal P w K mg base "_law_cell" 1 ["script", "k"] (sp_law_cell K)) (C_law_assets : Cal P w K mg base "_law_assets" 3 ["cell", "numbers"] (sp_law_assets K)) (C_law_rows : Cal P w K mg base "_law_rows" 2 ["script", "at", "numbers", "assets", "many"] (sp_law_rows K)) (C_law_normal : Cal P w K mg base "_law_normal" 1 ["rows"] (sp_law_normal K)) (C_Bundle___init : CalM P w K mg base (He.fAd K ("Bundle", some "__init__")) 1 ["self", "rows"] [V.ref (He.dflAt ("Bundle", some "__init__") 0 K)] (sp_Bundle___init K)) (C_split : Cal P w K mg base "split" 3 ["bundle"] (sp_split K)) (C_law_same : Cal P w K mg base "_law_same" 2 ["actual", "expected"] (sp_law_same K)) (C_Bundle___sub : CalM P w K mg base (He.fAd K ("Bundle", some "__sub__")) 4 ["self", "other"] [] (sp_Bundle___sub K)) (C_policies : Cal P w K mg base "policies" 1 ["bundle"] (sp_policies K)) (z_list : mg "list" = none) (z_len : mg "len" = none) (z_isinstance : mg "isinstance" = none) (z_tuple : mg "tuple" = none) (z_sorted : mg "sorted" = none) (W_Bundle : BFacts K mg) : Cal P w K mg base "law" 5 ["script"] (sp_law K) :=
  ⟨f, fd, mf, F.kp, F.bindsN fun _ _ _ _ _ _ us hl => match us, hl with | [_], _ => rfl, fn_law F C_law_numbers C_law_cell C_law_assets C_law_rows C_law_normal C_Bundle___init C_split C_law_same C_Bundle___sub C_policies z_list z_len z_isinstance z_tuple z_sorted W_Bundle⟩

end
def d_Bundle___init : He.DefD := ⟨("Bundle", some "__init__"), "__init__", "Bundle.__init__", defArgs s_Bundle___init, defBody s_Bundle___init, defScope s_Bundle___init, [.adr (He.dflAt ("Bundle", some "__init__") 0)], []⟩
def d_policies : He.DefD := ⟨("policies", none), "policies", "policies", defArgs s_policies, defBody s_policies, defScope s_policies, [], []⟩
def d_law_cell : He.DefD := ⟨("_law_cell", none), "_law_cell", "_law_cell", defArgs s_law_cell, defBody s_law_cell, defScope s_law_cell, [], []⟩
def d_law_numbers : He.DefD := ⟨("_law_numbers", none), "_law_numbers", "_law_numbers", defArgs s_law_numbers, defBody s_law_numbers, defScope s_law_numbers, [], []⟩
def d_law_is_integer : He.DefD := ⟨("_law_is_integer", none), "_law_is_integer", "_law_is_integer", defArgs s_law_is_integer, defBody s_law_is_integer, defScope s_law_is_integer, [], []⟩
def d_law_char : He.DefD := ⟨("_law_char", none), "_law_char", "_law_char", defArgs s_law_char, defBody s_law_char, defScope s_law_char, [], []⟩
def d_law_quantity : He.DefD := ⟨("_law_quantity", none), "_law_quantity", "_law_quantity", defArgs s_law_quantity, defBody s_law_quantity, defScope s_law_quantity, [], []⟩
def d_law_normal : He.DefD := ⟨("_law_normal", none), "_law_normal", "_law_normal", defArgs s_law_normal, defBody s_law_normal, defScope s_law_normal, [], []⟩
def d_law_asset : He.DefD := ⟨("_law_asset", none), "_law_asset", "_law_asset", defArgs s_law_asset, defBody s_law_asset, defScope s_law_asset, [], []⟩
def d_law_rows : He.DefD := ⟨("_law_rows", none), "_law_rows", "_law_rows", defArgs s_law_rows, defBody s_law_rows, defScope s_law_rows, [], []⟩
def d_law_same : He.DefD := ⟨("_law_same", none), "_law_same", "_law_same", defArgs s_law_same, defBody s_law_same, defScope s_law_same, [], []⟩
def d_Bundle___add : He.DefD := ⟨("Bundle", some "__add__"), "__add__", "Bundle.__add__", defArgs s_Bundle___add, defBody s_Bundle___add, defScope s_Bundle___add, [], []⟩
def d_Bundle___neg : He.DefD := ⟨("Bundle", some "__neg__"), "__neg__", "Bundle.__neg__", defArgs s_Bundle___neg, defBody s_Bundle___neg, defScope s_Bundle___neg, [], []⟩
def d_split : He.DefD := ⟨("split", none), "split", "split", defArgs s_split, defBody s_split, defScope s_split, [], []⟩
def d_law_assets : He.DefD := ⟨("_law_assets", none), "_law_assets", "_law_assets", defArgs s_law_assets, defBody s_law_assets, defScope s_law_assets, [], []⟩
def d_Bundle___sub : He.DefD := ⟨("Bundle", some "__sub__"), "__sub__", "Bundle.__sub__", defArgs s_Bundle___sub, defBody s_Bundle___sub, defScope s_Bundle___sub, [], []⟩
def d_law : He.DefD := ⟨("law", none), "law", "law", defArgs s_law, defBody s_law, defScope s_law, [], []⟩
def fn : List He.DefD := [d_Bundle___init, d_policies, d_law_cell, d_law_numbers, d_law_is_integer, d_law_char, d_law_quantity, d_law_normal, d_law_asset, d_law_rows, d_law_same, d_Bundle___add, d_Bundle___neg, d_split, d_law_assets, d_Bundle___sub, d_law]
def fa : List He.Fa := [.glo "policies", .glo "_law_cell", .glo "_law_numbers", .glo "_law_is_integer", .glo "_law_char", .glo "_law_quantity", .glo "_law_normal", .glo "_law_asset", .glo "_law_rows", .glo "_law_same", .glo "split", .glo "_law_assets", .glo "law", .free "abs", .free "bool", .free "int", .free "isinstance", .free "len", .free "list", .free "range", .free "sorted", .free "str", .free "sum", .free "tuple", .glo "Bundle", .cls "Bundle", .noat "Bundle" "rows", .noat "Bundle" "_quantities", .mkr "Bundle", .meth "Bundle" "__add__", .meth "Bundle" "__sub__", .meth "Bundle" "__neg__", .glo "COIN"]
abbrev R : PySem.W.OpenRow := PySem.W.OpenLaw.row PySem.Challenge.rw_keptcoin_k05_split_and_policies
def ex (K : PySem.W.Frag) : Bool := PySem.W.selfFirst K (He.ga K "Bundle") && He.tupB K "COIN" [He.Dv.str (Rd.S []), He.Dv.int 0]
abbrev hk : PySem.W.Hook := He.hookX 4 fa fn [] [] ex
def ob (s : PySem.W.SharedT) : He.AlX := He.obsX 4 fa fn [] [] ex (HandSHeadRun.getT s)
theorem ob_eq (s : PySem.W.SharedT) : ob s = hk.obs s.abs := He.obsX_eq (HandSHeadRun.getT_eq s)
theorem run (w : World) : HandSHeadRun.RunEq R (PySem.W.view R.prog [18]) hk ob 2000 ["_wall", "COIN", "Bundle", "policies", "split", "_law_cell", "_law_numbers", "_law_is_integer", "_law_char", "_law_asset", "_law_assets", "_law_quantity", "_law_rows", "_law_normal", "_law_same"] w := by
  intro os
  kernel_rfl
theorem facts {P : Program} {w : World} {K : PySem.W.Frag} {h : Heap} {mg : Str → Option Value} {f : Addr} (X : K.In h) (G : h.Ns mainGlobals mg) (hfa : mg ("law" : Str) = some (.ref f)) (cx : ex K = true) (c : He.SaysD fa fn K) :
    ∃ fd : FuncData, (∀ (s : Shared) (v : Value), BindsTo s fd ⟨[v], []⟩ [("script", v)]) ∧ ∀ base : Heap, K.In base → base.Ns mainGlobals mg → FnOk P w K mg base CX0 5 f fd ["script"] (sp_law K) := by
  obtain ⟨fd_Bundle___init, F_Bundle___init⟩ := c.def_ 0 (d := d_Bundle___init) rfl
  obtain ⟨fd_policies, F_policies⟩ := c.def_ 1 (d := d_policies) rfl
  have m_policies := He.glo_ok X G (c.fact 0 (f := .glo "policies") rfl)
  obtain ⟨fd_law_cell, F_law_cell⟩ := c.def_ 2 (d := d_law_cell) rfl
  have m_law_cell := He.glo_ok X G (c.fact 1 (f := .glo "_law_cell") rfl)
  obtain ⟨fd_law_numbers, F_law_numbers⟩ := c.def_ 3 (d := d_law_numbers) rfl
  have m_law_numbers := He.glo_ok X G (c.fact 2 (f := .glo "_law_numbers") rfl)
  obtain ⟨fd_law_is_integer, F_law_is_integer⟩ := c.def_ 4 (d := d_law_is_integer) rfl
  have m_law_is_integer := He.glo_ok X G (c.fact 3 (f := .glo "_law_is_integer") rfl)
  obtain ⟨fd_law_char, F_law_char⟩ := c.def_ 5 (d := d_law_char) rfl
  have m_law_char := He.glo_ok X G (c.fact 4 (f := .glo "_law_char") rfl)
  obtain ⟨fd_law_quantity, F_law_quantity⟩ := c.def_ 6 (d := d_law_quantity) rfl
  have m_law_quantity := He.glo_ok X G (c.fact 5 (f := .glo "_law_quantity") rfl)
  obtain ⟨fd_law_normal, F_law_normal⟩ := c.def_ 7 (d := d_law_normal) rfl
  have m_law_normal := He.glo_ok X G (c.fact 6 (f := .glo "_law_normal") rfl)
  obtain ⟨fd_law_asset, F_law_asset⟩ := c.def_ 8 (d := d_law_asset) rfl
  have m_law_asset := He.glo_ok X G (c.fact 7 (f := .glo "_law_asset") rfl)
  obtain ⟨fd_law_rows, F_law_rows⟩ := c.def_ 9 (d := d_law_rows) rfl
  have m_law_rows := He.glo_ok X G (c.fact 8 (f := .glo "_law_rows") rfl)
  obtain ⟨fd_law_same, F_law_same⟩ := c.def_ 10 (d := d_law_same) rfl
  have m_law_same := He.glo_ok X G (c.fact 9 (f := .glo "_law_same") rfl)
  obtain ⟨fd_Bundle___add, F_Bundle___add⟩ := c.def_ 11 (d := d_Bundle___add) rfl
  obtain ⟨fd_Bundle___neg, F_Bundle___neg⟩ := c.def_ 12 (d := d_Bundle___neg) rfl
  obtain ⟨fd_split, F_split⟩ := c.def_ 13 (d := d_split) rfl
  have m_split := He.glo_ok X G (c.fact 10 (f := .glo "split") rfl)
  obtain ⟨fd_law_assets, F_law_assets⟩ := c.def_ 14 (d := d_law_assets) rfl
  have m_law_assets := He.glo_ok X G (c.fact 11 (f := .glo "_law_assets") rfl)
  obtain ⟨fd_Bundle___sub, F_Bundle___sub⟩ := c.def_ 15 (d := d_Bundle___sub) rfl
  obtain ⟨fd_law, F_law⟩ := c.def_ 16 (d := d_law) rfl
  have m_law := He.glo_ok X G (c.fact 12 (f := .glo "law") rfl)
  have z_abs := He.free_ok X G (c.fact 13 (f := .free "abs") rfl)
  have z_bool := He.free_ok X G (c.fact 14 (f := .free "bool") rfl)
  have z_int := He.free_ok X G (c.fact 15 (f := .free "int") rfl)
  have z_isinstance := He.free_ok X G (c.fact 16 (f := .free "isinstance") rfl)
  have z_len := He.free_ok X G (c.fact 17 (f := .free "len") rfl)
  have z_list := He.free_ok X G (c.fact 18 (f := .free "list") rfl)
  have z_range := He.free_ok X G (c.fact 19 (f := .free "range") rfl)
  have z_sorted := He.free_ok X G (c.fact 20 (f := .free "sorted") rfl)
  have z_str := He.free_ok X G (c.fact 21 (f := .free "str") rfl)
  have z_sum := He.free_ok X G (c.fact 22 (f := .free "sum") rfl)
  have z_tuple := He.free_ok X G (c.fact 23 (f := .free "tuple") rfl)
  have W_Bundle : BFacts K mg := ⟨He.glo_ok X G (c.fact 24 (f := .glo "Bundle") rfl), He.cls_ok (c.fact 25 (f := .cls "Bundle") rfl), He.noat_ok (c.fact 26 (f := .noat "Bundle" "rows") rfl), He.noat_ok (c.fact 27 (f := .noat "Bundle" "_quantities") rfl), He.mkr_ok (c.fact 28 (f := .mkr "Bundle") rfl), (Bool.and_eq_true_iff.mp cx).1, (He.meth_ok (c.fact 29 (f := .meth "Bundle" "__add__") rfl)).at_, (He.meth_ok (c.fact 29 (f := .meth "Bundle" "__add__") rfl)).fn, (He.meth_ok (c.fact 30 (f := .meth "Bundle" "__sub__") rfl)).at_, (He.meth_ok (c.fact 30 (f := .meth "Bundle" "__sub__") rfl)).fn, (He.meth_ok (c.fact 31 (f := .meth "Bundle" "__neg__") rfl)).at_, (He.meth_ok (c.fact 31 (f := .meth "Bundle" "__neg__") rfl)).fn⟩
  have W_COIN : ∃ a, mg "COIN" = some (.ref a) ∧ ∀ H, SqT K H a [V.str (Rd.S []), V.int 0] := ⟨_, He.glo_ok X G (c.fact 32 (f := .glo "COIN") rfl), fun H => He.tupB_ok (vs := [He.Dv.str (Rd.S []), He.Dv.int 0]) (Bool.and_eq_true_iff.mp cx).2 H⟩
  have e := hfa.symm.trans m_law
  cases e
  have b := FunD.bindsA (ps := ["script"]) F_law fun _ _ _ _ _ _ us hl => match us, hl with | [_], _ => rfl
  refine ⟨fd_law, fun s v => b s [v] rfl, fun base _ _ => ?_⟩
  have C_Bundle___init := ok_Bundle___init (P := P) (w := w) (base := base) F_Bundle___init z_sorted z_tuple W_Bundle
  have C_policies := ok_policies (P := P) (w := w) (base := base) m_policies F_policies z_sorted W_COIN W_Bundle
  have C_law_cell := ok_law_cell (P := P) (w := w) (base := base) m_law_cell F_law_cell z_len
  have C_law_numbers := ok_law_numbers (P := P) (w := w) (base := base) m_law_numbers F_law_numbers z_abs z_range z_int
  have C_law_is_integer := ok_law_is_integer (P := P) (w := w) (base := base) m_law_is_integer F_law_is_integer z_isinstance z_bool z_int
  have C_law_char := ok_law_char (P := P) (w := w) (base := base) m_law_char F_law_char z_int
  have C_law_quantity := ok_law_quantity (P := P) (w := w) (base := base) m_law_quantity F_law_quantity z_len z_int
  have C_law_normal := ok_law_normal (P := P) (w := w) (base := base) m_law_normal F_law_normal z_sorted z_sum z_tuple
  have C_law_asset := ok_law_asset (P := P) (w := w) (base := base) m_law_asset F_law_asset C_law_char z_int
  have C_law_rows := ok_law_rows (P := P) (w := w) (base := base) m_law_rows F_law_rows C_law_quantity z_range z_int z_len
  have C_law_same := ok_law_same (P := P) (w := w) (base := base) m_law_same F_law_same C_law_is_integer z_len z_isinstance z_tuple z_range z_str
  have C_Bundle___add := ok_Bundle___add (P := P) (w := w) (base := base) F_Bundle___add C_Bundle___init W_Bundle
  have C_Bundle___neg := ok_Bundle___neg (P := P) (w := w) (base := base) F_Bundle___neg C_Bundle___init W_Bundle
  have C_split := ok_split (P := P) (w := w) (base := base) m_split F_split C_Bundle___init W_Bundle
  have C_law_assets := ok_law_assets (P := P) (w := w) (base := base) m_law_assets F_law_assets C_law_asset C_law_numbers z_range z_abs
  have C_Bundle___sub := ok_Bundle___sub (P := P) (w := w) (base := base) F_Bundle___sub C_Bundle___init C_Bundle___neg W_Bundle
  exact fn_law (P := P) (w := w) (base := base) F_law C_law_numbers C_law_cell C_law_assets C_law_rows C_law_normal C_Bundle___init C_split C_law_same C_Bundle___sub C_policies z_list z_len z_isinstance z_tuple z_sorted W_Bundle
end NK05
open PySem PySem.W PySem.Calls PyProof.Rows
set_option maxRecDepth 100000 in
set_option maxHeartbeats 0 in
theorem PySem.Challenge.cw_keptcoin_k05_split_and_policies_holds : PySem.Challenge.rw_keptcoin_k05_split_and_policies.Holds := by
  w_on; o_law
  refine HandSHeadRun.head_any (r := OpenLaw.row PySem.Challenge.rw_keptcoin_k05_split_and_policies) (q := view (OpenLaw.row PySem.Challenge.rw_keptcoin_k05_split_and_policies).prog [18]) (H := NK05.hk) (ob := NK05.ob) (M := 2000) (loose := ["_wall", "COIN", "Bundle", "policies", "split", "_law_cell", "_law_numbers", "_law_is_integer", "_law_char", "_law_asset", "_law_assets", "_law_quantity", "_law_rows", "_law_normal", "_law_same"]) (d := HandSHeadRun.topDef (OpenLaw.row PySem.Challenge.rw_keptcoin_k05_split_and_policies).prog 18) (kwd := []) NK05.ob_eq
    (by kernel_rfl) (fun s => by kernel_rfl) NK05.run (by kernel_rfl) (by kernel_rfl) (by kernel_rfl) (by rfl) (by first | assumption | decide +kernel) (by decide +kernel) ⟨rfl, rfl, rfl, rfl, rfl, by decide +kernel⟩ ?hw ?hc
  case hw => w_witness2
  case hc =>
    refine L2.walk_ofE (l := PySem.Challenge.rw_keptcoin_k05_split_and_policies) (n := 63) (k := 5) (x := "script") (CX := L2.CX0) rfl (by decide) (by kernel_rfl) ⟨rfl, by decide, by decide⟩ ?F (fun _ _ _ _ z => z)
    intro w mg fa h Y G hmg0
    obtain ⟨K, KX, c⟩ := Y
    have hmg : mg ("law" : PySem.Str) = some (.ref fa) := by
      have e : (HandSHeadRun.topDef (OpenLaw.row PySem.Challenge.rw_keptcoin_k05_split_and_policies).prog 18).name = ("law" : PySem.Str) := by kernel_rfl
      rw [← e]
      exact hmg0
    obtain ⟨fd, hb, hF⟩ := NK05.facts (P := (PySem.Challenge.rw_keptcoin_k05_split_and_policies).prog) (w := w) KX G hmg c.more c.t.d
    exact ⟨K, fd, NK05.sp_law K, KX, hb, fun H a ns hl _ hS => ⟨a, ns, rfl, hS, hl, fun _ => rfl⟩, hF⟩


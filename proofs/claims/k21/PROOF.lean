import PyProof.Rows.All
import Wide.All
import OpenK.AllK
import Wide.FinOn
import KE.KStateDown
import HandS.Base
import HandS.Call
import HandS.List
import HandS.Comp
import HandS.Ends
import HandS.Dict
import HandS.Iter
import HandS.Text
import HandS.More
import HandS.Words
import HandS.WordsList
import HandS.WordsExc
import HandS.Defaults
import HandS.Wide
import HandS.IsInst
import HandS.Flow
import HandS.TupAny
import HandS.Head0
import HandS.Head1
import HandS.Head2
import HandS.HeadEnd
import HandS.HeadHook1
import HandS.HeadHook2
import HandS.HeadHook3
import PySem.Challenge.RW_keptcoin_k21_operators
set_option Elab.async false
set_option linter.all false
set_option maxRecDepth 100000
/-! Reading rules: each reading of the hand layer as one step towards what follows. -/
namespace Rd
open PySem PySem.Spec PyProof.Rows L2

/-! ### heaps -/
theorem same_new {H : Hp} {p : Addr} {o : HO} (h : H p = none) : Same H (upd H p o) := fun b x e => by
  rw [upd_ne (ne_of_none e h)]
  exact e
/-- an object that H does not know may change -/
theorem same_mut {H H' : Hp} {p : Addr} {o : HO} (e : Same H H') (h : H p = none) : Same H (upd H' p o) := fun a u ha => by
  rw [upd_ne (ne_of_none ha h)]
  exact e a u ha
theorem same_tup {K : PySem.W.Frag} {H H' : Hp} {a : Addr} {xs : List V} (e : Same H H') (h : SqT K H a xs) : SqT K H' a xs := by
  rcases h with (h | ⟨o, h⟩) | h
  · exact .inl (.inl (e _ _ h))
  · exact .inl (.inr ⟨o, e _ _ h⟩)
  · exact .inr h
theorem nl {K : PySem.W.Frag} {H : Hp} {p a : Addr} {o : HO} {xs : List V} (hp : H p = none) (h : SqL K H a xs) : SqL K (upd H p o) a xs := (same_new hp).seq h
theorem nt {K : PySem.W.Frag} {H : Hp} {p a : Addr} {o : HO} {xs : List V} (hp : H p = none) (h : SqT K H a xs) : SqT K (upd H p o) a xs := same_tup (same_new hp) h
theorem nh {H : Hp} {p a : Addr} {o u : HO} (hp : H p = none) (h : H a = some u) : upd H p o a = some u := same_new hp _ _ h
theorem slT {K : PySem.W.Frag} {H : Hp} {p : Addr} {xs : List V} : SqT K (upd H p (.tup xs)) p xs := SqT.of upd_same
theorem slL {K : PySem.W.Frag} {H : Hp} {p : Addr} {xs : List V} : SqL K (upd H p (.lst xs)) p xs := SqL.of upd_same
theorem small {n : Nat} (h : n ≤ 100000) : n ≤ sizeLine := Nat.le_trans h (by decide)
theorem smallT {n : Nat} (h : n < 100000) : n < sizeLine := Nat.lt_of_lt_of_le h (by decide)

theorem ul {K : PySem.W.Frag} {H : Hp} {p a : Addr} {o : HO} {xs : List V} (hp : a ≠ p) (h : SqL K H a xs) : SqL K (upd H p o) a xs := by
  rcases h with (h | ⟨u, h⟩) | h
  · exact .inl (.inl ((upd_ne hp).trans h))
  · exact .inl (.inr ⟨u, (upd_ne hp).trans h⟩)
  · exact .inr h
theorem ut {K : PySem.W.Frag} {H : Hp} {p a : Addr} {o : HO} {xs : List V} (hp : a ≠ p) (h : SqT K H a xs) : SqT K (upd H p o) a xs := by
  rcases h with (h | ⟨u, h⟩) | h
  · exact .inl (.inl ((upd_ne hp).trans h))
  · exact .inl (.inr ⟨u, (upd_ne hp).trans h⟩)
  · exact .inr h
theorem uh {H : Hp} {p a : Addr} {o u : HO} (hp : a ≠ p) (h : H a = some u) : upd H p o a = some u := (upd_ne hp).trans h
/-! ### expressions -/
section
variable {σ : L2.St} {H : Hp} {Q : VK} {ta tb te tc : TE} {K : PySem.W.Frag}
theorem var {i : Nat} {v : V} (h : σ[i]? = some (some v)) (k : Q v H) : tVar i σ H Q := ⟨v, h, k⟩
theorem cst {v : V} (k : Q v H) : tC v σ H Q := k
theorem op {r : R2} (k : ta σ H fun x H1 => tb σ H1 fun y H2 => r x y H2 Q) : tOp r ta tb σ H Q := k
theorem un {r : V → Hp → VK → Prop} (k : ta σ H fun x H1 => r x H1 Q) : tUn r ta σ H Q := k
theorem opI0 {g : Int → Int → V} {i j : Int} (k : Q (g i j) H) : rI0 g (.int i) (.int j) H Q := ⟨i, j, rfl, rfl, k⟩
theorem opI {C : Int → Int → Prop} {g : Int → Int → V} {i j : Int} (c : C i j) (k : Q (g i j) H) : rI C g (.int i) (.int j) H Q := ⟨i, j, rfl, rfl, c, k⟩
theorem opU {g : Int → V} {i : Int} (k : Q (g i) H) : rU g (.int i) H Q := ⟨i, rfl, k⟩
theorem eqI {i j : Int} (k : Q (.bl (decide (i = j))) H) : rEq (.int i) (.int j) H Q := ⟨rfl, by
  have e : decide (V.int i = V.int j) = decide (i = j) := by simp
  rw [e]; exact k⟩
theorem neI {i j : Int} (k : Q (.bl (!decide (i = j))) H) : rNe (.int i) (.int j) H Q := ⟨rfl, by
  have e : decide (V.int i = V.int j) = decide (i = j) := by simp
  rw [e]; exact k⟩
theorem eqS {i j : Str} (k : Q (.bl (decide (i = j))) H) : rEq (.str i) (.str j) H Q := ⟨rfl, by
  have e : decide (V.str i = V.str j) = decide (i = j) := by simp
  rw [e]; exact k⟩
theorem neS {i j : Str} (k : Q (.bl (!decide (i = j))) H) : rNe (.str i) (.str j) H Q := ⟨rfl, by
  have e : decide (V.str i = V.str j) = decide (i = j) := by simp
  rw [e]; exact k⟩
theorem eqB {i j : Bool} (k : Q (.bl (decide (i = j))) H) : rEq (.bl i) (.bl j) H Q := ⟨rfl, by
  have e : decide (V.bl i = V.bl j) = decide (i = j) := by simp
  rw [e]; exact k⟩
theorem neB {i j : Bool} (k : Q (.bl (!decide (i = j))) H) : rNe (.bl i) (.bl j) H Q := ⟨rfl, by
  have e : decide (V.bl i = V.bl j) = decide (i = j) := by simp
  rw [e]; exact k⟩
theorem chain {r r' : R2} (k : ta σ H fun x H1 => tb σ H1 fun y H2 => r x y H2 fun z H3 => ∃ k, z = .bl k ∧ (if k = true then tc σ H3 fun w' H4 => r' y w' H4 Q else Q (.bl false) H3)) : tChain r r' ta tb tc σ H Q := k
theorem bl {b : Bool} {P : Bool → Prop} (k : P b) : ∃ c, V.bl b = V.bl c ∧ P c := ⟨b, rfl, k⟩
theorem andV (k : ta σ H fun x H1 => ∃ c, x = .bl c ∧ if c = true then tb σ H1 Q else Q (.bl false) H1) : tAndV ta tb σ H Q := k
theorem orV (k : ta σ H fun x H1 => ∃ c, x = .bl c ∧ if c = true then Q (.bl true) H1 else tb σ H1 Q) : tOrV ta tb σ H Q := k
theorem notV (k : ta σ H fun x H1 => ∃ c, x = .bl c ∧ Q (.bl (!c)) H1) : tNotV ta σ H Q := k
theorem ifE {t : TT} (k : t σ H fun c H1 => if c = true then ta σ H1 Q else tb σ H1 Q) : tIf t ta tb σ H Q := k
theorem nil {Q : List V → Hp → Prop} (k : Q [] H) : tNil σ H Q := k
theorem cons {tr : TA} {Q : List V → Hp → Prop} (k : ta σ H fun x H1 => tr σ H1 fun xs H2 => Q (x :: xs) H2) : tCons ta tr σ H Q := k
theorem callN {sp : Sp} {E : XK} {t : TA} (k : t σ H fun vs H1 => sp vs H1 Q E) : tCall sp [] E t σ H Q := by
  unfold tCall
  simp only [List.append_nil]
  exact k
theorem cb {r : List V → Hp → VK → Prop} {t : TA} (k : t σ H fun vs H1 => r vs H1 Q) : tCB r t σ H Q := k
theorem tup {t : TA} (k : t σ H fun xs H1 => xs.length ≤ sizeLine ∧ ∀ p, H1 p = none → Q (.ref p) (upd H1 p (.tup xs))) : tTup t σ H Q := k
theorem lst {t : TA} (k : t σ H fun xs H1 => xs.length ≤ sizeLine ∧ ∀ p, H1 p = none → Q (.ref p) (upd H1 p (.lst xs))) : tLst t σ H Q := k
theorem ixL {p : Addr} {xs : List V} {i : Int} {v : V} (h : SqL K H p xs) (a : atI xs i = some v) (k : Q v H) : rIxL K (.ref p) (.int i) H Q := ⟨p, xs, i, v, rfl, rfl, h, a, k⟩
theorem ixT {p : Addr} {xs : List V} {i : Int} {v : V} (h : SqT K H p xs) (a : atI xs i = some v) (k : Q v H) : rIxT K (.ref p) (.int i) H Q := ⟨p, xs, i, v, rfl, rfl, h, a, k⟩
theorem sl {r : V → Option Int → Option Int → Hp → VK → Prop} {tl th : TO} (k : te σ H fun x H1 => tl σ H1 fun lo H2 => th σ H2 fun hi H3 => r x lo hi H3 Q) : tSl r te tl th σ H Q := k
/-! built-ins whose readings are written out: each by a name -/
def LenK (K : PySem.W.Frag) (xs : List V) (H : Hp) (Q : VK) : Prop := ∃ p ys, xs = [.ref p] ∧ (SqL K H p ys ∨ SqT K H p ys) ∧ Q (.int ys.length) H
def LenSK (xs : List V) (H : Hp) (Q : VK) : Prop := ∃ z : Str, xs = [.str z] ∧ z.length ≤ sizeLine ∧ Q (.int z.length) H
def IntK (xs : List V) (H : Hp) (Q : VK) : Prop := (∃ i, xs = [.int i] ∧ Q (.int i) H) ∨ ∃ k, xs = [.bl k] ∧ Q (.int (if k then 1 else 0)) H
def AbsK (xs : List V) (H : Hp) (Q : VK) : Prop := ∃ i, xs = [.int i] ∧ Q (.int (if i < 0 then -i else i)) H
def StrIK (xs : List V) (H : Hp) (Q : VK) : Prop := ∃ i, xs = [.int i] ∧ i.natAbs.log2 < 1920 ∧ Q (.str (toString i)) H
def LstK (K : PySem.W.Frag) (xs : List V) (H : Hp) (Q : VK) : Prop := ∃ p ys, xs = [.ref p] ∧ (SqL K H p ys ∨ SqT K H p ys) ∧ ∀ l, H l = none → Q (.ref l) (upd H l (.lst ys))
def TupK (K : PySem.W.Frag) (xs : List V) (H : Hp) (Q : VK) : Prop := ∃ p ys, xs = [.ref p] ∧ ((SqL K H p ys ∧ ∀ l, H l = none → Q (.ref l) (upd H l (.tup ys))) ∨ (SqT K H p ys ∧ Q (.ref p) H))
def Max2K (xs : List V) (H : Hp) (Q : VK) : Prop := ∃ i j, xs = [.int i, .int j] ∧ Q (.int (if j > i then j else i)) H
def Min2K (xs : List V) (H : Hp) (Q : VK) : Prop := ∃ i j, xs = [.int i, .int j] ∧ Q (.int (if j < i then j else i)) H
theorem cbLen {t : TA} (k : t σ H fun vs H1 => LenK K vs H1 Q) : tCB (fun xs H Q => ∃ p ys, xs = [V.ref p] ∧ (SqL K H p ys ∨ SqT K H p ys) ∧ Q (.int ys.length) H) t σ H Q := k
theorem cbLenS {t : TA} (k : t σ H fun vs H1 => LenSK vs H1 Q) : tCB (fun xs H Q => ∃ z, xs = [V.str z] ∧ z.length ≤ sizeLine ∧ Q (.int z.length) H) t σ H Q := k
theorem cbInt {t : TA} (k : t σ H fun vs H1 => IntK vs H1 Q) : tCB (fun xs H Q => (∃ i, xs = [V.int i] ∧ Q (.int i) H) ∨ ∃ k, xs = [V.bl k] ∧ Q (.int (if k then 1 else 0)) H) t σ H Q := k
theorem cbAbs {t : TA} (k : t σ H fun vs H1 => AbsK vs H1 Q) : tCB (fun xs H Q => ∃ i, xs = [V.int i] ∧ Q (.int (if i < 0 then -i else i)) H) t σ H Q := k
theorem cbStrI {t : TA} (k : t σ H fun vs H1 => StrIK vs H1 Q) : tCB (fun xs H Q => ∃ i, xs = [V.int i] ∧ i.natAbs.log2 < 1920 ∧ Q (.str (toString i)) H) t σ H Q := k
theorem cbLst {t : TA} (k : t σ H fun vs H1 => LstK K vs H1 Q) : tCB (fun xs H Q => ∃ p ys, xs = [V.ref p] ∧ (SqL K H p ys ∨ SqT K H p ys) ∧ ∀ l, H l = none → Q (.ref l) (upd H l (.lst ys))) t σ H Q := k
theorem cbTup {t : TA} (k : t σ H fun vs H1 => TupK K vs H1 Q) : tCB (fun xs H Q => ∃ p ys, xs = [V.ref p] ∧ ((SqL K H p ys ∧ ∀ l, H l = none → Q (.ref l) (upd H l (.tup ys))) ∨ (SqT K H p ys ∧ Q (.ref p) H))) t σ H Q := k
theorem cbMax2 {t : TA} (k : t σ H fun vs H1 => Max2K vs H1 Q) : tCB (fun xs H Q => ∃ i j, xs = [V.int i, V.int j] ∧ Q (.int (if j > i then j else i)) H) t σ H Q := k
theorem cbMin2 {t : TA} (k : t σ H fun vs H1 => Min2K vs H1 Q) : tCB (fun xs H Q => ∃ i j, xs = [V.int i, V.int j] ∧ Q (.int (if j < i then j else i)) H) t σ H Q := k
def IsNK (x y : V) (H : Hp) (Q : VK) : Prop := y = .non ∧ Q (.bl (decide (x = .non))) H
def NotNK (x y : V) (H : Hp) (Q : VK) : Prop := y = .non ∧ Q (.bl (!decide (x = .non))) H
def AddSK (x y : V) (H : Hp) (Q : VK) : Prop := ∃ i j, x = .str i ∧ y = .str j ∧ i.length + j.length ≤ sizeLine ∧ Q (.str (i ++ j)) H
theorem opIsN (k : ta σ H fun x H1 => tb σ H1 fun y H2 => IsNK x y H2 Q) : tOp (fun x y H Q => y = V.non ∧ Q (.bl (decide (x = .non))) H) ta tb σ H Q := k
theorem opNotN (k : ta σ H fun x H1 => tb σ H1 fun y H2 => NotNK x y H2 Q) : tOp (fun x y H Q => y = V.non ∧ Q (.bl (!decide (x = .non))) H) ta tb σ H Q := k
theorem opAddS (k : ta σ H fun x H1 => tb σ H1 fun y H2 => AddSK x y H2 Q) : tOp (fun x y H Q => ∃ i j, x = V.str i ∧ y = V.str j ∧ i.length + j.length ≤ sizeLine ∧ Q (.str (i ++ j)) H) ta tb σ H Q := k
theorem addS {i j : Str} (h : i.length + j.length ≤ 100000) (k : Q (.str (i ++ j)) H) : AddSK (.str i) (.str j) H Q := ⟨i, j, rfl, rfl, small h, k⟩
theorem isN' {x : V} (k : Q (.bl (decide (x = .non))) H) : IsNK x .non H Q := ⟨rfl, k⟩
theorem notN' {x : V} (k : Q (.bl (!decide (x = .non))) H) : NotNK x .non H Q := ⟨rfl, k⟩
theorem lenS {z : Str} (h : z.length ≤ 100000) (k : Q (.int z.length) H) : LenSK [.str z] H Q := ⟨z, rfl, small h, k⟩
theorem intB {b : Bool} (k : Q (.int (if b then 1 else 0)) H) : IntK [.bl b] H Q := .inr ⟨b, rfl, k⟩
theorem lstL {p : Addr} {ys : List V} (h : SqL K H p ys) (k : ∀ l, H l = none → Q (.ref l) (upd H l (.lst ys))) : LstK K [.ref p] H Q := ⟨p, ys, rfl, .inl h, k⟩
theorem lstT {p : Addr} {ys : List V} (h : SqT K H p ys) (k : ∀ l, H l = none → Q (.ref l) (upd H l (.lst ys))) : LstK K [.ref p] H Q := ⟨p, ys, rfl, .inr h, k⟩
theorem tupL {p : Addr} {ys : List V} (h : SqL K H p ys) (k : ∀ l, H l = none → Q (.ref l) (upd H l (.tup ys))) : TupK K [.ref p] H Q := ⟨p, ys, rfl, .inl ⟨h, k⟩⟩
theorem tupT {p : Addr} {ys : List V} (h : SqT K H p ys) (k : Q (.ref p) H) : TupK K [.ref p] H Q := ⟨p, ys, rfl, .inr ⟨h, k⟩⟩
theorem max2 {i j : Int} (k : ∀ z : Int, i ≤ z → j ≤ z → (z = i ∨ z = j) → Q (.int z) H) : Max2K [.int i, .int j] H Q := ⟨i, j, rfl, k _ (by split <;> omega) (by split <;> omega) (by split <;> omega)⟩
theorem min2 {i j : Int} (k : ∀ z : Int, z ≤ i → z ≤ j → (z = i ∨ z = j) → Q (.int z) H) : Min2K [.int i, .int j] H Q := ⟨i, j, rfl, k _ (by split <;> omega) (by split <;> omega) (by split <;> omega)⟩
theorem lenL {p : Addr} {ys : List V} {n : Nat} (h : SqL K H p ys) (e : ys.length = n) (k : Q (.int n) H) : LenK K [.ref p] H Q := ⟨p, ys, rfl, .inl h, by rw [e]; exact k⟩
theorem lenT {p : Addr} {ys : List V} {n : Nat} (h : SqT K H p ys) (e : ys.length = n) (k : Q (.int n) H) : LenK K [.ref p] H Q := ⟨p, ys, rfl, .inr h, by rw [e]; exact k⟩
theorem int1 {i : Int} (k : Q (.int i) H) : IntK [.int i] H Q := .inl ⟨i, rfl, k⟩
theorem abs1 {i : Int} (k : ∀ z : Int, 0 ≤ z → (z = i ∨ z = -i) → Q (.int z) H) : AbsK [.int i] H Q := ⟨i, rfl, k _ (by split <;> omega) (by split <;> omega)⟩
theorem len {xs : List V} {P : Prop} (h : xs.length ≤ 100000) (k : P) : xs.length ≤ sizeLine ∧ P := ⟨small h, k⟩
theorem pw {a e z : Int} (c : CPow a e) (h : a ^ e.toNat = z) (k : Q (.int z) H) : rI CPow (fun i j => .int (i ^ j.toNat)) (.int a) (.int e) H Q := ⟨a, e, rfl, rfl, c, by subst h; exact k⟩
theorem isi {x c : V} {t u : Value} {b : Bool} (hc : ClsV c u) (ht : TyX K H x t) (e : PySem.W.kitOne K t u = some b) (k : Q (.bl b) H) : rIsi K [x, c] H Q := ⟨x, c, t, u, b, rfl, hc, ht, e, k⟩
/-- a new value of a kind at the end of a derivation -/
theorem fresh {P : Addr → Hp → Prop} {o : HO} (k : ∀ p H', H p = none → H' = upd H p o → P p H') : ∀ p, H p = none → P p (upd H p o) := fun p hp => k p _ hp rfl
end

/-! ### tests, statements -/
section
variable {σ : L2.St} {H : Hp} {n b c : L2.St → Hp → Prop} {r : VK} {ta te : TE} {t u : TS} {D : Ends} {tc td : TT}
theorem tst {Q : Bool → Hp → Prop} (k : te σ H fun x H' => ∃ c, x = .bl c ∧ Q c H') : tTest te σ H Q := k
theorem tB_ {Q : Bool → Hp → Prop} (k : te σ H fun x H' => ∃ c, x = .bl c ∧ Q c H') : tB te σ H Q := k
theorem and_ {Q : Bool → Hp → Prop} (k : tc σ H fun c H1 => if c = true then td σ H1 Q else Q false H1) : tAnd tc td σ H Q := k
theorem or_ {Q : Bool → Hp → Prop} (k : tc σ H fun c H1 => if c = true then Q true H1 else td σ H1 Q) : tOr tc td σ H Q := k
theorem not_ {Q : Bool → Hp → Prop} (k : tc σ H fun c H1 => Q (!c) H1) : tNot tc σ H Q := k
theorem seq (k : t ⟨u ⟨n, r, b, c⟩, r, b, c⟩ σ H) : tSeq t u ⟨n, r, b, c⟩ σ H := k
theorem asg {i : Nat} (k : te σ H fun x H1 => n (σ.set i (some x)) H1) : tAsg te (gName i) ⟨n, r, b, c⟩ σ H := k
theorem asgS {to ti : TE} {ts : TSet} (k : te σ H fun x H1 => to σ H1 fun o H2 => ti σ H2 fun i H3 => ts o i x H3 fun H4 => n σ H4) : tAsg te (gSub to ti ts) ⟨n, r, b, c⟩ σ H := k
theorem ret (k : te σ H r) : tRet te ⟨n, r, b, c⟩ σ H := k
theorem retN (k : r .non H) : tRetN ⟨n, r, b, c⟩ σ H := k
theorem drop (k : te σ H fun _ H1 => n σ H1) : tDrop te ⟨n, r, b, c⟩ σ H := k
theorem next (k : n σ H) : tNext ⟨n, r, b, c⟩ σ H := k
theorem brk (k : b σ H) : tBreak ⟨n, r, b, c⟩ σ H := k
theorem cont (k : c σ H) : tCont ⟨n, r, b, c⟩ σ H := k
theorem ifS (k : tc σ H fun x H1 => if x = true then t D σ H1 else u D σ H1) : tIfS tc t u D σ H := k
theorem aug {i : Nat} {ti : TIp} {x : V} (h : σ[i]? = some (some x)) (k : te σ H fun y H1 => ti x y H1 fun z H2 => n (σ.set i (some z)) H2) : tAug i te ti ⟨n, r, b, c⟩ σ H := ⟨x, h, k⟩
theorem augI {f : Int → Int → Int} {i j : Int} {Q : VK} (k : Q (.int (f i j)) H) : ipI f (.int i) (.int j) H Q := ⟨i, j, rfl, rfl, k⟩
theorem iteT {A B : Prop} (h : A) : if true = true then A else B := by rw [if_pos rfl]; exact h
theorem iteF {A B : Prop} (h : B) : if false = true then A else B := by rw [if_neg Bool.false_ne_true]; exact h
theorem iteD {p : Prop} [Decidable p] {A B : Prop} (h1 : p → A) (h2 : ¬ p → B) : if decide p = true then A else B := by
  by_cases h : p
  · rw [decide_eq_true h]; exact iteT (h1 h)
  · rw [decide_eq_false h]; exact iteF (h2 h)
theorem iteN {p : Prop} [Decidable p] {A B : Prop} (h1 : ¬ p → A) (h2 : p → B) : if (!decide p) = true then A else B := by
  by_cases h : p
  · rw [decide_eq_true h]; exact iteF (h2 h)
  · rw [decide_eq_false h]; exact iteT (h1 h)
theorem iteB {x : Bool} {A B : Prop} (h1 : x = true → A) (h2 : x = false → B) : if x = true then A else B := by
  cases x
  · exact iteF (h2 rfl)
  · exact iteT (h1 rfl)
/-- xs.append(v) -/
theorem app {K : PySem.W.Frag} {to : TE} {t : TA} {Q : VK} (k : to σ H fun x H1 => tyV K "list" x H1 ∧ t σ H1 fun xs H2 => rAppend x xs H2 Q) : tBM K "list" rAppend to t σ H Q := k
theorem tyL {K : PySem.W.Frag} {p : Addr} {xs : List V} {P : Prop} (h : H p = some (.lst xs)) (k : P) : tyV K "list" (.ref p) H ∧ P := ⟨.inl ⟨rfl, _, SqL.of h⟩, k⟩
theorem appd {l : Addr} {xs : List V} {v : V} {Q : VK} (h : H l = some (.lst xs)) (hz : xs.length < 100000) (k : Q .non (upd H l (.lst (xs ++ [v])))) : rAppend (.ref l) [v] H Q := ⟨l, xs, v, rfl, rfl, h, smallT hz, k⟩
theorem setL {p : Addr} {xs : List V} {i : Int} {j : Nat} {v : V} {Q : Hp → Prop} (h : H p = some (.lst xs)) (e : ixN xs.length i = some j) (k : Q (upd H p (.lst (xs.set j v)))) : rSetL (.ref p) (.int i) v H Q := ⟨p, xs, i, j, rfl, rfl, h, e, k⟩
theorem ixN_nat {n j : Nat} (hj : j < n) : ixN n (j : Int) = some j := by
  unfold ixN
  rw [if_pos (by omega), if_pos (by omega)]
  simp
theorem ixN_lit {n : Nat} {i : Int} (h0 : 0 ≤ i) (h : i < n) : ixN n i = some i.toNat := by
  have := @ixN_nat n i.toNat (by omega)
  rwa [Int.toNat_of_nonneg h0] at this
theorem atI_of {α : Type} {xs : List α} {i : Int} {v : α} (h0 : 0 ≤ i) (h : xs[i.toNat]? = some v) : atI xs i = some v := by
  have e := atI_nat (xs := xs) (j := i.toNat) h
  rwa [Int.toNat_of_nonneg h0] at e

theorem atI_ints {ns : List Int} {i : Int} (h0 : 0 ≤ i) (h : i < (ns.length : Int)) : atI (ns.map V.int) i = some (.int (ns.getD i.toNat 0)) := atI_of h0 (by
  have h1 : i.toNat < ns.length := by omega
  rw [List.getElem?_map, List.getD_eq_getElem?_getD, List.getElem?_eq_getElem h1]
  rfl)
theorem getD_bd {ns : List Int} {i : Nat} {lo hi : Int} (hb : ∀ x ∈ ns, lo ≤ x ∧ x < hi) (h : i < ns.length) : lo ≤ ns.getD i 0 ∧ ns.getD i 0 < hi := by
  rw [List.getD_eq_getElem?_getD, List.getElem?_eq_getElem h]
  exact hb _ (List.getElem_mem h)
theorem bd_app {ns : List Int} {x lo hi : Int} (hb : ∀ x ∈ ns, lo ≤ x ∧ x < hi) (hx : lo ≤ x ∧ x < hi) : ∀ y ∈ ns ++ [x], lo ≤ y ∧ y < hi := fun y hy => by
  rcases List.mem_append.mp hy with h | h
  · exact hb y h
  · rw [List.mem_singleton.mp h]; exact hx
theorem cxK {CX : CXT} {P : Program} {w : World} {K : PySem.W.Frag} {mg : Str → Option Value} {base : Heap} {N : List Str} {q : Str} {sc : Scope} {f : Addr} {cdv : Value} {A : Around} {outer : List Env} {s : Shared} {H : Hp} {E : XK} : (cxOf CX P w K mg base N q sc f cdv A outer s H E).K = K := rfl

theorem finT {p : Prop} [Decidable p] {Q : VK} {H : Hp} (k : Q (.bl true) H) (hp : p) : Q (.bl (decide p)) H := by rw [decide_eq_true hp]; exact k
theorem pushInts {H' : Hp} {p : Addr} {nums : List Int} {x : Int} : upd H' p (.lst (nums.map V.int ++ [.int x])) p = some (.lst ((nums ++ [x]).map V.int)) := by rw [upd_same, List.map_append]; rfl

/-! ### loops -/
/-- what a for asks of what it walks -/
def ForJ (g : TG) (tb : TS) (D : Ends) (σ : L2.St) (J : It) (H1 : Hp) : Prop := ∃ W : Nat → Nat → L2.St → Hp → Prop, (∃ m, W 0 m σ H1) ∧ ∀ i m σ H, W i m σ H →
  (J.stop i H ∧ D.nx σ H) ∨ (J.go i H ∧ ∃ N : L2.St → Hp → Prop, (∀ σ' H', N σ' H' → ∃ m', m' < m ∧ W (i + 1) m' σ' H') ∧ ∀ x H', J.yld i H x H' → g x σ H' fun σ2 H2 => tb { D with nx := N, ct := N, bk := D.nx } σ2 H2)
theorem for_ {wi : TI} {g : TG} {tb : TS} (k : wi σ H fun J H1 => ForJ g tb D σ J H1) : tFor wi g tb D σ H := k
theorem iR1 {tl : TA} {R : It → Hp → Prop} (k : tl σ H fun vs H1 => ∃ j : Int, vs = [.int j] ∧ -(2 ^ 62) ≤ j ∧ j < 2 ^ 62 ∧ R (Itr 0 j.toNat) H1) : iRng1 tl σ H R := k
theorem iR2 {tl : TA} {R : It → Hp → Prop} (k : tl σ H fun vs H1 => ∃ i j : Int, vs = [.int i, .int j] ∧ (-(2 ^ 62) ≤ i ∧ i < 2 ^ 62 ∧ -(2 ^ 62) ≤ j ∧ j < 2 ^ 62) ∧ R (Itr i (j - i).toNat) H1) : iRng2 tl σ H R := k
theorem iL {K : PySem.W.Frag} {tl : TE} {R : It → Hp → Prop} (k : tl σ H fun x H1 => ∃ a, x = .ref a ∧ (∃ xs, SqL K H1 a xs) ∧ R (Itl K a) H1) : iList K tl σ H R := k
theorem iT {K : PySem.W.Frag} {tl : TE} {R : It → Hp → Prop} (k : tl σ H fun x H1 => ∃ a, x = .ref a ∧ (∃ xs, SqT K H1 a xs) ∧ R (Itt K a) H1) : iTup K tl σ H R := k
/-- for name in range(m), the argument known -/
theorem rng1 {m : Int} {tb : TS} {j : Nat} (Pv : Nat → L2.St → Hp → Prop) (hb : -1000000 ≤ m ∧ m ≤ 1000000) (h0 : Pv 0 σ H)
    (hs : ∀ (i : Nat) (σ' : L2.St) (H' : Hp), (i : Int) < m → Pv i σ' H' → tb ⟨Pv (i + 1), r, n, Pv (i + 1)⟩ (σ'.set j (some (.int (i : Int)))) H') (hd : ∀ σ' H', Pv m.toNat σ' H' → n σ' H') :
    ∃ q : Int, [V.int m] = [V.int q] ∧ -(2 ^ 62) ≤ q ∧ q < 2 ^ 62 ∧ ForJ (gName j) tb ⟨n, r, b, c⟩ σ (Itr 0 q.toNat) H := by
  obtain ⟨hb1, hb2⟩ := hb
  have p62 : (2 : Int) ^ 62 = 4611686018427387904 := by decide
  refine ⟨m, rfl, by omega, by omega, for_range (lo := 0) (n := m.toNat) Pv h0 (fun i σ' H' hi p => ?_) hd⟩
  have e0 : (0 : Int) + (i : Int) = (i : Int) := Int.zero_add _
  show tb _ (σ'.set j (some (.int ((0 : Int) + (i : Int))))) H'
  rw [e0]
  exact hs i σ' H' (by omega) p
theorem rng2 {lo m : Int} {tb : TS} {j : Nat} (Pv : Nat → L2.St → Hp → Prop) (hb : -1000000 ≤ lo ∧ lo ≤ 1000000 ∧ -1000000 ≤ m ∧ m ≤ 1000000) (h0 : Pv 0 σ H)
    (hs : ∀ (i : Nat) (σ' : L2.St) (H' : Hp), lo + (i : Int) < m → Pv i σ' H' → tb ⟨Pv (i + 1), r, n, Pv (i + 1)⟩ (σ'.set j (some (.int (lo + (i : Int))))) H') (hd : ∀ σ' H', Pv (m - lo).toNat σ' H' → n σ' H') :
    ∃ p q : Int, [V.int lo, V.int m] = [V.int p, V.int q] ∧ (-(2 ^ 62) ≤ p ∧ p < 2 ^ 62 ∧ -(2 ^ 62) ≤ q ∧ q < 2 ^ 62) ∧ ForJ (gName j) tb ⟨n, r, b, c⟩ σ (Itr p (q - p).toNat) H := by
  obtain ⟨hb1, hb2, hb3, hb4⟩ := hb
  have p62 : (2 : Int) ^ 62 = 4611686018427387904 := by decide
  refine ⟨lo, m, rfl, ⟨by omega, by omega, by omega, by omega⟩, for_range (lo := lo) (n := (m - lo).toNat) Pv h0 (fun i σ' H' hi p => ?_) hd⟩
  exact hs i σ' H' (by omega) p
/-- for .. in a list, a tuple -/
theorem forL {K : PySem.W.Frag} {a : Addr} {xs : List V} {g : TG} {tb : TS} (Pv : Nat → L2.St → Hp → Prop) (h : SqL K H a xs) (h0 : Pv 0 σ H) (hl : ∀ i σ H, i ≤ xs.length → Pv i σ H → SqL K H a xs)
    (hs : ∀ (i : Nat) (x : V) (σ' : L2.St) (H' : Hp), xs[i]? = some x → Pv i σ' H' → g x σ' H' fun σ2 H2 => tb ⟨Pv (i + 1), r, n, Pv (i + 1)⟩ σ2 H2) (hd : ∀ σ' H', Pv xs.length σ' H' → n σ' H') :
    ∃ p, V.ref a = V.ref p ∧ (∃ ys, SqL K H p ys) ∧ ForJ g tb ⟨n, r, b, c⟩ σ (Itl K p) H := ⟨a, rfl, ⟨_, h⟩, for_list Pv h0 hl hs hd⟩
theorem forT {K : PySem.W.Frag} {a : Addr} {xs : List V} {g : TG} {tb : TS} (Pv : Nat → L2.St → Hp → Prop) (h : SqT K H a xs) (h0 : Pv 0 σ H) (hl : ∀ i σ H, i ≤ xs.length → Pv i σ H → SqT K H a xs)
    (hs : ∀ (i : Nat) (x : V) (σ' : L2.St) (H' : Hp), xs[i]? = some x → Pv i σ' H' → g x σ' H' fun σ2 H2 => tb ⟨Pv (i + 1), r, n, Pv (i + 1)⟩ σ2 H2) (hd : ∀ σ' H', Pv xs.length σ' H' → n σ' H') :
    ∃ p, V.ref a = V.ref p ∧ (∃ ys, SqT K H p ys) ∧ ForJ g tb ⟨n, r, b, c⟩ σ (Itt K p) H := ⟨a, rfl, ⟨_, h⟩, for_tup Pv h0 hl hs hd⟩
/-- what a list comprehension asks of what it walks -/
def LcJ (g : TG) (tt : TT) (te : TE) (vs : List Nat) (σ : L2.St) (Q : VK) (J : It) (H1 : Hp) : Prop := ∀ D, H1 D = none → ∃ W : Nat → Nat → Hp → Prop, (∃ m, W 0 m (upd H1 D (.lst []))) ∧ ∀ i m H, W i m H →
  (J.stop i H ∧ Q (.ref D) H) ∨ (J.go i H ∧ ∃ Nx : Hp → Prop, (∀ H', Nx H' → ∃ m', m' < m ∧ W (i + 1) m' H') ∧ ∀ x H', J.yld i H x H' → g x (wipe σ vs) H' fun σ2 H2 => wipe σ2 vs = wipe σ vs ∧ tt σ2 H2 fun b H3 =>
    if b = true then te σ2 H3 fun y H4 => ∃ acc, H4 D = some (.lst acc) ∧ acc.length < sizeLine ∧ Nx (upd H4 D (.lst (acc ++ [y]))) else Nx H3)
theorem lc_ {wi : TI} {g : TG} {tt : TT} {te : TE} {vs : List Nat} {Q : VK} (k : wi σ H fun J H1 => LcJ g tt te vs σ Q J H1) : tLc wi g tt te vs σ H Q := k
theorem itrLc {lo : Int} {k : Nat} {g : TG} {tt : TT} {te : TE} {vs : List Nat} {Q : VK} {D : Addr} (Pv : Nat → Hp → Prop) (h0 : Pv 0 (upd H D (.lst [])))
    (hs : ∀ i H, i < k → Pv i H → g (.int (lo + i)) (wipe σ vs) H fun σ2 H2 => wipe σ2 vs = wipe σ vs ∧ tt σ2 H2 fun b H3 =>
      if b = true then te σ2 H3 fun y H4 => ∃ acc, H4 D = some (.lst acc) ∧ acc.length < sizeLine ∧ Pv (i + 1) (upd H4 D (.lst (acc ++ [y]))) else Pv (i + 1) H3) (hd : ∀ H, Pv k H → Q (.ref D) H) :
    ∃ W : Nat → Nat → Hp → Prop, (∃ m, W 0 m (upd H D (.lst []))) ∧ ∀ i m H, W i m H →
      ((Itr lo k).stop i H ∧ Q (.ref D) H) ∨ ((Itr lo k).go i H ∧ ∃ Nx : Hp → Prop, (∀ H', Nx H' → ∃ m', m' < m ∧ W (i + 1) m' H') ∧ ∀ x H', (Itr lo k).yld i H x H' → g x (wipe σ vs) H' fun σ2 H2 => wipe σ2 vs = wipe σ vs ∧ tt σ2 H2 fun b H3 =>
        if b = true then te σ2 H3 fun y H4 => ∃ acc, H4 D = some (.lst acc) ∧ acc.length < sizeLine ∧ Nx (upd H4 D (.lst (acc ++ [y]))) else Nx H3) := by
  refine ⟨fun i m H => m = k - i ∧ i ≤ k ∧ Pv i H, ⟨k, by simp, Nat.zero_le _, h0⟩, ?_⟩
  rintro i m H ⟨rfl, hi, p⟩
  by_cases hlt : i < k
  · refine .inr ⟨hlt, Pv (i + 1), fun H' p' => ⟨k - (i + 1), by omega, rfl, hlt, p'⟩, fun x H' y => ?_⟩
    obtain ⟨e, rfl⟩ := y
    subst e
    exact hs i _ hlt p
  · have e : i = k := by omega
    subst e
    exact .inl ⟨Nat.le_refl _, hd H p⟩
/-- the end of a comprehension's turn: what is made so far, and the invariant -/
def LcE (H : Hp) (D : Addr) (i : Nat) (Pv : Addr → Nat → List V → Hp → Prop) : VK := fun y H4 => ∃ acc, H4 D = some (.lst acc) ∧ acc.length < sizeLine ∧
  ∃ ac, Same H (upd H4 D (.lst (acc ++ [y]))) ∧ ac.length = i + 1 ∧ upd H4 D (.lst (acc ++ [y])) D = some (.lst ac) ∧ Pv D (i + 1) ac (upd H4 D (.lst (acc ++ [y])))
theorem lcE {H H4 : Hp} {D : Addr} {i : Nat} {Pv : Addr → Nat → List V → Hp → Prop} {acc : List V} {y : V} (hD : H D = none) (h : H4 D = some (.lst acc)) (s : Same H H4) (e : acc.length = i) (hi : i < 100000) (k : Pv D (i + 1) (acc ++ [y]) (upd H4 D (.lst (acc ++ [y])))) : LcE H D i Pv y H4 :=
  ⟨acc, h, smallT (by omega), acc ++ [y], same_mut s hD, by simp [e], upd_same, k⟩
/-- [.. for name in range(m)] without a test: Pv i acc H: acc what is made -/
theorem lcR1 {m : Int} {j : Nat} {te : TE} {Q : VK} (Pv : Addr → Nat → List V → Hp → Prop) (hb : -100000 ≤ m ∧ m ≤ 100000) (h0 : ∀ D H', H D = none → Same H H' → H' D = some (.lst []) → Pv D 0 [] H')
    (hs : ∀ (i : Nat) (acc : List V) (D : Addr) (H' : Hp), H D = none → Same H H' → (i : Int) < m → acc.length = i → H' D = some (.lst acc) → Pv D i acc H' → te (σ.set j (some (.int (i : Int)))) H' (LcE H D i Pv))
    (hd : ∀ D acc H', H D = none → Same H H' → H' D = some (.lst acc) → acc.length = m.toNat → Pv D m.toNat acc H' → Q (.ref D) H') :
    ∃ q : Int, [V.int m] = [V.int q] ∧ -(2 ^ 62) ≤ q ∧ q < 2 ^ 62 ∧ LcJ (gName j) tYes te [j] σ Q (Itr 0 q.toNat) H := by
  obtain ⟨hb1, hb2⟩ := hb
  have p62 : (2 : Int) ^ 62 = 4611686018427387904 := by decide
  refine ⟨m, rfl, by omega, by omega, fun D hD => ?_⟩
  refine itrLc (fun i H' => ∃ acc, Same H H' ∧ acc.length = i ∧ H' D = some (.lst acc) ∧ Pv D i acc H') ⟨[], same_new hD, rfl, upd_same, h0 D _ hD (same_new hD) upd_same⟩ ?_ ?_
  · rintro i H' hi ⟨acc, s, e, hD', p⟩
    have e0 : (0 : Int) + (i : Int) = (i : Int) := Int.zero_add _
    rw [e0]
    refine ⟨show wipe ((wipe σ [j]).set j (some (.int (i : Int)))) [j] = wipe σ [j] by simp [wipe], ?_⟩
    show te ((wipe σ [j]).set j (some (.int (i : Int)))) H' (LcE H D i Pv)
    have ew : (wipe σ [j]).set j (some (.int (i : Int))) = σ.set j (some (.int (i : Int))) := by simp [wipe]
    rw [ew]
    exact hs i acc D H' hD s (by omega) e hD' p
  · rintro H' ⟨acc, s, e, hD', p⟩
    exact hd D acc H' hD s hD' e p
/-- [.. for name in a list] without a test -/
theorem lcL {K : PySem.W.Frag} {a : Addr} {xs : List V} {j : Nat} {te : TE} {Q : VK} (Pv : Addr → Nat → List V → Hp → Prop) (h : SqL K H a xs) (hl : xs.length ≤ 100000) (h0 : ∀ D H', H D = none → Same H H' → H' D = some (.lst []) → Pv D 0 [] H')
    (hs : ∀ (i : Nat) (x : V) (acc : List V) (D : Addr) (H' : Hp), H D = none → Same H H' → xs[i]? = some x → acc.length = i → H' D = some (.lst acc) → Pv D i acc H' → te (σ.set j (some x)) H' (LcE H D i Pv))
    (hd : ∀ D acc H', H D = none → Same H H' → H' D = some (.lst acc) → acc.length = xs.length → Pv D xs.length acc H' → Q (.ref D) H') :
    ∃ p, V.ref a = V.ref p ∧ (∃ ys, SqL K H p ys) ∧ LcJ (gName j) tYes te [j] σ Q (Itl K p) H := by
  refine ⟨a, rfl, ⟨_, h⟩, fun D hD => ?_⟩
  refine lc_list (xs := xs) (fun i H' => ∃ acc, Same H H' ∧ acc.length = i ∧ H' D = some (.lst acc) ∧ Pv D i acc H') ⟨[], same_new hD, rfl, upd_same, h0 D _ hD (same_new hD) upd_same⟩ (fun i H' _ ⟨acc, s, _⟩ => s.seq h) ?_ ?_
  · rintro i x H' hi ⟨acc, s, e, hD', p⟩
    refine ⟨show wipe ((wipe σ [j]).set j (some x)) [j] = wipe σ [j] by simp [wipe], ?_⟩
    show te ((wipe σ [j]).set j (some x)) H' (LcE H D i Pv)
    have ew : (wipe σ [j]).set j (some x) = σ.set j (some x) := by simp [wipe]
    rw [ew]
    exact hs i x acc D H' hD s hi e hD' p
  · rintro H' ⟨acc, s, e, hD', p⟩
    exact hd D acc H' hD s hD' e p
end
section
variable {X : Cx}
/-- // by a divisor of either sign below 2 ^ 9000 -/
def CDivX (_ j : Int) : Prop := j ≠ 0 ∧ j.natAbs.log2 < 9000
theorem op_fdivX : OpR X (binaryOp .FloorDiv) (rI CDivX fun i j => .int (i.fdiv j)) := L2.opI fun i j _ _ _ _ _ hc q =>
  floordiv_int hc.1 q (.inl (PyProof.noPylong_of_log2 hc.2))
end
theorem cdivX' {i j : Int} (h : j ≠ 0) (hb : -(2 ^ 64) < j ∧ j < 2 ^ 64) : CDivX i j := ⟨h, Nat.lt_of_lt_of_le (PySem.Flt.log2_lt_of (k := 64) (by decide) (by omega)) (by decide)⟩
theorem kb_int_int : kitB "int" "int" = some true := by decide +kernel
theorem kb_int_bool : kitB "int" "bool" = some false := by decide +kernel
theorem kb_int_str : kitB "int" "str" = some false := by decide +kernel
theorem kb_int_tuple : kitB "int" "tuple" = some false := by decide +kernel
theorem kb_int_list : kitB "int" "list" = some false := by decide +kernel
theorem kb_int_dict : kitB "int" "dict" = some false := by decide +kernel
theorem kb_bool_int : kitB "bool" "int" = some true := by decide +kernel
theorem kb_bool_bool : kitB "bool" "bool" = some true := by decide +kernel
theorem kb_bool_str : kitB "bool" "str" = some false := by decide +kernel
theorem kb_bool_tuple : kitB "bool" "tuple" = some false := by decide +kernel
theorem kb_bool_list : kitB "bool" "list" = some false := by decide +kernel
theorem kb_bool_dict : kitB "bool" "dict" = some false := by decide +kernel
theorem kb_str_int : kitB "str" "int" = some false := by decide +kernel
theorem kb_str_bool : kitB "str" "bool" = some false := by decide +kernel
theorem kb_str_str : kitB "str" "str" = some true := by decide +kernel
theorem kb_str_tuple : kitB "str" "tuple" = some false := by decide +kernel
theorem kb_str_list : kitB "str" "list" = some false := by decide +kernel
theorem kb_str_dict : kitB "str" "dict" = some false := by decide +kernel
theorem kb_tuple_int : kitB "tuple" "int" = some false := by decide +kernel
theorem kb_tuple_bool : kitB "tuple" "bool" = some false := by decide +kernel
theorem kb_tuple_str : kitB "tuple" "str" = some false := by decide +kernel
theorem kb_tuple_tuple : kitB "tuple" "tuple" = some true := by decide +kernel
theorem kb_tuple_list : kitB "tuple" "list" = some false := by decide +kernel
theorem kb_tuple_dict : kitB "tuple" "dict" = some false := by decide +kernel
theorem kb_list_int : kitB "list" "int" = some false := by decide +kernel
theorem kb_list_bool : kitB "list" "bool" = some false := by decide +kernel
theorem kb_list_str : kitB "list" "str" = some false := by decide +kernel
theorem kb_list_tuple : kitB "list" "tuple" = some false := by decide +kernel
theorem kb_list_list : kitB "list" "list" = some true := by decide +kernel
theorem kb_list_dict : kitB "list" "dict" = some false := by decide +kernel
theorem kb_NoneType_int : kitB "NoneType" "int" = some false := by decide +kernel
theorem kb_NoneType_bool : kitB "NoneType" "bool" = some false := by decide +kernel
theorem kb_NoneType_str : kitB "NoneType" "str" = some false := by decide +kernel
theorem kb_NoneType_tuple : kitB "NoneType" "tuple" = some false := by decide +kernel
theorem kb_NoneType_list : kitB "NoneType" "list" = some false := by decide +kernel
theorem kb_NoneType_dict : kitB "NoneType" "dict" = some false := by decide +kernel
theorem kb_dict_int : kitB "dict" "int" = some false := by decide +kernel
theorem kb_dict_bool : kitB "dict" "bool" = some false := by decide +kernel
theorem kb_dict_str : kitB "dict" "str" = some false := by decide +kernel
theorem kb_dict_tuple : kitB "dict" "tuple" = some false := by decide +kernel
theorem kb_dict_list : kitB "dict" "list" = some false := by decide +kernel
theorem kb_dict_dict : kitB "dict" "dict" = some true := by decide +kernel
section
variable {K : PySem.W.Frag} {H : Hp} {Q : VK} {b : String} {r : Bool}
theorem isiI {i : Int} (e : kitB "int" b = some r) (k : Q (.bl r) H) : rIsi K [.int i, .ty b] H Q := ⟨_, _, _, _, r, rfl, .ty b, .base (.int i), kit_ty e, k⟩
theorem isiB {i : Bool} (e : kitB "bool" b = some r) (k : Q (.bl r) H) : rIsi K [.bl i, .ty b] H Q := ⟨_, _, _, _, r, rfl, .ty b, .base (.bl i), kit_ty e, k⟩
theorem isiS {i : Str} (e : kitB "str" b = some r) (k : Q (.bl r) H) : rIsi K [.str i, .ty b] H Q := ⟨_, _, _, _, r, rfl, .ty b, .base (.str i), kit_ty e, k⟩
theorem isiN (e : kitB "NoneType" b = some r) (k : Q (.bl r) H) : rIsi K [.non, .ty b] H Q := ⟨_, _, _, _, r, rfl, .ty b, .base .non, kit_ty e, k⟩
theorem isiT {p : Addr} {xs : List V} (h : H p = some (.tup xs)) (e : kitB "tuple" b = some r) (k : Q (.bl r) H) : rIsi K [.ref p, .ty b] H Q := ⟨_, _, _, _, r, rfl, .ty b, .base (.tup h), kit_ty e, k⟩
theorem isiL {p : Addr} {xs : List V} (h : H p = some (.lst xs)) (e : kitB "list" b = some r) (k : Q (.bl r) H) : rIsi K [.ref p, .ty b] H Q := ⟨_, _, _, _, r, rfl, .ty b, .base (.lst h), kit_ty e, k⟩
theorem iteNT {A B : Prop} (h : B) : if (!true) = true then A else B := iteF h
theorem iteNF {A B : Prop} (h : A) : if (!false) = true then A else B := iteT h
end
end Rd

set_option Elab.async false
set_option linter.all false
set_option maxRecDepth 100000
set_option maxHeartbeats 4000000
namespace NK21
open PySem PySem.Spec PyProof.Rows L2
def top (i : Nat) : Stmt := PySem.Challenge.pw_keptcoin_k21_operators.main.body.getD i (.Pass ⟨0, 0, 0, 0⟩)
abbrev FnP (K : PySem.W.Frag) (x : Str) (st : Stmt) (f : Addr) (fd : FuncData) : Prop := FunD K x x (defArgs st) (defBody st) (defScope st) [] [] f fd
/-- a def that keeps its promise, where the module finds it -/
structure Cal (P : Program) (w : World) (K : PySem.W.Frag) (mg : Str → Option Value) (base : Heap) (x : Str) (k : Nat) (ps : List Str) (sp : Sp) : Prop where
  ex : ∃ f fd, mg x = some (.ref f) ∧ PySem.W.keepIn K (.ref f) = true ∧ Binds K fd ps [] ∧ FnOk P w K mg base CX0 k f fd ps sp
abbrev s_compute : Stmt := top 2
abbrev N_compute : List Str := ["sign", "a", "b"]
theorem sc_compute : FnScope N_compute ["sign", "a", "b"] (defScope s_compute) := ⟨rfl, rfl, rfl, by decide +kernel, rfl, by decide +kernel, by decide +kernel⟩
abbrev s_number : Stmt := top 3
abbrev N_number : List Str := ["number"]
theorem sc_number : FnScope N_number ["number"] (defScope s_number) := ⟨rfl, rfl, rfl, by decide +kernel, rfl, by decide +kernel, by decide +kernel⟩
abbrev s_law_cell : Stmt := top 5
abbrev N_law_cell : List Str := ["script", "k"]
theorem sc_law_cell : FnScope N_law_cell ["script", "k"] (defScope s_law_cell) := ⟨rfl, rfl, rfl, by decide +kernel, rfl, by decide +kernel, by decide +kernel⟩
abbrev s_law_numbers : Stmt := top 6
abbrev N_law_numbers : List Str := ["cell", "many", "rest", "size", "numbers", "k", "mixed"]
theorem sc_law_numbers : FnScope N_law_numbers ["cell", "many"] (defScope s_law_numbers) := ⟨rfl, rfl, rfl, by decide +kernel, rfl, by decide +kernel, by decide +kernel⟩
abbrev s_law_state : Stmt := top 7
abbrev N_law_state : List Str := ["script", "left", "numbers", "parted", "k"]
theorem sc_law_state : FnScope N_law_state ["script", "left"] (defScope s_law_state) := ⟨rfl, rfl, rfl, by decide +kernel, rfl, by decide +kernel, by decide +kernel⟩
abbrev s_law_next : Stmt := top 8
abbrev N_law_next : List Str := ["state", "many", "at"]
theorem sc_law_next : FnScope N_law_next ["state", "many"] (defScope s_law_next) := ⟨rfl, rfl, rfl, by decide +kernel, rfl, by decide +kernel, by decide +kernel⟩
abbrev s_law_number : Stmt := top 10
abbrev N_law_number : List Str := ["state", "place", "pick", "cell"]
theorem sc_law_number : FnScope N_law_number ["state", "place"] (defScope s_law_number) := ⟨rfl, rfl, rfl, by decide +kernel, rfl, by decide +kernel, by decide +kernel⟩
abbrev s_law_inside : Stmt := top 11
abbrev N_law_inside : List Str := ["number"]
theorem sc_law_inside : FnScope N_law_inside ["number"] (defScope s_law_inside) := ⟨rfl, rfl, rfl, by decide +kernel, rfl, by decide +kernel, by decide +kernel⟩
abbrev s_law_near : Stmt := top 12
abbrev N_law_near : List Str := ["state", "a", "edge", "found", "near"]
theorem sc_law_near : FnScope N_law_near ["state", "a"] (defScope s_law_near) := ⟨rfl, rfl, rfl, by decide +kernel, rfl, by decide +kernel, by decide +kernel⟩
abbrev s_law_is_integer : Stmt := top 13
abbrev N_law_is_integer : List Str := ["value"]
theorem sc_law_is_integer : FnScope N_law_is_integer ["value"] (defScope s_law_is_integer) := ⟨rfl, rfl, rfl, by decide +kernel, rfl, by decide +kernel, by decide +kernel⟩
abbrev s_law_same : Stmt := top 14
abbrev N_law_same : List Str := ["actual", "ending", "value"]
theorem sc_law_same : FnScope N_law_same ["actual", "ending", "value"] (defScope s_law_same) := ⟨rfl, rfl, rfl, by decide +kernel, rfl, by decide +kernel, by decide +kernel⟩
abbrev s_law_counted : Stmt := top 15
abbrev N_law_counted : List Str := ["actual", "number"]
theorem sc_law_counted : FnScope N_law_counted ["actual", "number"] (defScope s_law_counted) := ⟨rfl, rfl, rfl, by decide +kernel, rfl, by decide +kernel, by decide +kernel⟩
abbrev s_law_divided : Stmt := top 16
abbrev N_law_divided : List Str := ["a", "b", "whole", "rest"]
theorem sc_law_divided : FnScope N_law_divided ["a", "b"] (defScope s_law_divided) := ⟨rfl, rfl, rfl, by decide +kernel, rfl, by decide +kernel, by decide +kernel⟩
abbrev s_law : Stmt := top 17
abbrev N_law : List Str := ["script", "state", "a", "b"]
theorem sc_law : FnScope N_law ["script"] (defScope s_law) := ⟨rfl, rfl, rfl, by decide +kernel, rfl, by decide +kernel, by decide +kernel⟩

def isI : V → Bool
  | .int _ => true
  | _ => false
def num (n : Int) : List V := if -1000000000000000 ≤ n ∧ n ≤ 1000000000000000 then [.str "value", .int n] else [.str "range", .non]
def res (s : Str) (a b : Int) : List V := if s = "==" then [.str "value", .bl (decide (a = b))] else if s = "<" then [.str "value", .bl (decide (a < b))] else if s = "<=" then [.str "value", .bl (decide (a ≤ b))]
  else if s = "+" then num (a + b) else if s = "-" then num (a - b) else if s = "*" then num (a * b) else if b = 0 then [.str "division", .non] else num (if s = "div" then a.fdiv b else a.fmod b)
/-- the law's state stands at st, over a heap H0 that knows nothing of it -/
structure StIn (K : PySem.W.Frag) (H0 H : Hp) (st : Addr) (ns : List Int) : Prop where
  same : Same H0 H
  new : H0 st = none
  ex : ∃ (na sa : Addr) (nums : List Int) (at_ left : Int), H st = some (.lst [.ref na, .int at_, .int left, .ref sa]) ∧ H na = some (.lst (nums.map V.int)) ∧ nums.length = 120 ∧ (∀ x ∈ nums, 0 ≤ x ∧ x < 1000) ∧ 0 ≤ at_ ∧ SqL K H0 sa (ns.map V.int) ∧ ns.length ≤ 63
theorem StIn.mono {K : PySem.W.Frag} {H0 H H' : Hp} {st : Addr} {ns : List Int} (s : StIn K H0 H st ns) (e : Same H H') : StIn K H0 H' st ns := by
  obtain ⟨a, b, na, sa, nums, at_, left, h1, h2, h3⟩ := s
  exact ⟨a.trans e, b, na, sa, nums, at_, left, e _ _ h1, e _ _ h2, h3⟩
theorem StIn.mut {K : PySem.W.Frag} {H0 H H' : Hp} {st q : Addr} {ns : List Int} (s : StIn K H0 H st ns) (hq : H q = none) (e : ∀ a, a ≠ q → H' a = H a) : StIn K H0 H' st ns := by
  obtain ⟨a, b, na, sa, nums, at_, left, h1, h2, h3⟩ := s
  exact ⟨fun x o hx => (e x (ne_of_none (a _ _ hx) hq)).trans (a _ _ hx), b, na, sa, nums, at_, left, (e _ (ne_of_none h1 hq)).trans h1, (e _ (ne_of_none h2 hq)).trans h2, h3⟩
theorem fdiv_bd {a b : Int} (ha : -1000000000000000 ≤ a ∧ a ≤ 1000000000000000) (hb : b ≠ 0) : -1000000000000000 ≤ a.fdiv b ∧ a.fdiv b ≤ 1000000000000000 := by
  have h1 := Int.mul_fdiv_add_fmod a b
  rcases Int.lt_or_gt_of_ne hb with hn | hp
  · have e : a.fdiv b = (-a) / (-b) := by
      rw [← Int.neg_fdiv_neg, Int.fdiv_eq_ediv_of_nonneg _ (by omega)]
    rw [e]
    have h2 := Int.ediv_mul_le (-a) (b := -b) (by omega)
    have h3 := Int.lt_ediv_add_one_mul_self (-a) (b := -b) (by omega)
    constructor
    · by_cases h : 0 ≤ (-a) / (-b)
      · omega
      · have : (-a) / (-b) + 1 ≤ 0 := by omega
        have h4 : ((-a) / (-b) + 1) * (-b) ≤ ((-a) / (-b) + 1) * 1 := Int.mul_le_mul_of_nonpos_left (by omega) (by omega)
        omega
    · by_cases h : (-a) / (-b) ≤ 0
      · omega
      · have h4 : ((-a) / (-b)) * 1 ≤ ((-a) / (-b)) * (-b) := Int.mul_le_mul_of_nonneg_left (by omega) (by omega)
        omega
  · have e : a.fdiv b = a / b := Int.fdiv_eq_ediv_of_nonneg _ (by omega)
    rw [e]
    have h2 := Int.ediv_mul_le a (b := b) (by omega)
    have h3 := Int.lt_ediv_add_one_mul_self a (b := b) (by omega)
    constructor
    · by_cases h : 0 ≤ a / b
      · omega
      · have : a / b + 1 ≤ 0 := by omega
        have h4 : (a / b + 1) * b ≤ (a / b + 1) * 1 := Int.mul_le_mul_of_nonpos_left (by omega) (by omega)
        omega
    · by_cases h : a / b ≤ 0
      · omega
      · have h4 : (a / b) * 1 ≤ (a / b) * b := Int.mul_le_mul_of_nonneg_left (by omega) (by omega)
        omega
theorem fmod_bd {a b : Int} (hb : b ≠ 0) : (0 < b → 0 ≤ a.fmod b ∧ a.fmod b < b) ∧ (b < 0 → b < a.fmod b ∧ a.fmod b ≤ 0) := by
  constructor
  · intro h
    rw [Int.fmod_eq_emod_of_nonneg _ (by omega)]
    exact ⟨Int.emod_nonneg _ hb, Int.emod_lt_of_pos _ h⟩
  · intro h
    have e : a.fmod b = -((-a) % (-b)) := by
      have h2 := Int.fmod_def a b
      have h3 := Int.emod_def (-a) (-b)
      have h4 : a.fdiv b = (-a) / (-b) := by rw [← Int.neg_fdiv_neg, Int.fdiv_eq_ediv_of_nonneg _ (by omega)]
      rw [h2, h3, h4, Int.neg_mul]; omega
    have h5 := Int.emod_nonneg (-a) (b := -b) (by omega)
    have h6 := Int.emod_lt_of_pos (-a) (b := -b) (by omega)
    omega
theorem num_in {n : Int} (h : -1000000000000000 ≤ n ∧ n ≤ 1000000000000000) : num n = [.str "value", .int n] := by rw [num, if_pos h]
theorem res_div {a b : Int} : res "div" a b = if b = 0 then [.str "division", .non] else num (a.fdiv b) := by
  unfold res
  rw [if_neg (by decide +kernel), if_neg (by decide +kernel), if_neg (by decide +kernel), if_neg (by decide +kernel), if_neg (by decide +kernel), if_neg (by decide +kernel)]
  rw [if_pos rfl]
theorem res_mod {a b : Int} : res "mod" a b = if b = 0 then [.str "division", .non] else num (a.fmod b) := by
  unfold res
  rw [if_neg (by decide +kernel), if_neg (by decide +kernel), if_neg (by decide +kernel), if_neg (by decide +kernel), if_neg (by decide +kernel), if_neg (by decide +kernel)]
  rw [if_neg (show ¬ ("mod" : Str) = "div" by decide +kernel)]
theorem res_add {a b : Int} : res "+" a b = num (a + b) := by
  unfold res
  rw [if_neg (by decide +kernel), if_neg (by decide +kernel), if_neg (by decide +kernel), if_pos rfl]
theorem res_sub {a b : Int} : res "-" a b = num (a - b) := by
  unfold res
  rw [if_neg (by decide +kernel), if_neg (by decide +kernel), if_neg (by decide +kernel), if_neg (by decide +kernel), if_pos rfl]
theorem res_mul {a b : Int} : res "*" a b = num (a * b) := by
  unfold res
  rw [if_neg (by decide +kernel), if_neg (by decide +kernel), if_neg (by decide +kernel), if_neg (by decide +kernel), if_neg (by decide +kernel), if_pos rfl]
theorem res_eq {a b : Int} : res "==" a b = [.str "value", .bl (decide (a = b))] := by
  unfold res
  rw [if_pos rfl]
theorem res_lt {a b : Int} : res "<" a b = [.str "value", .bl (decide (a < b))] := by
  unfold res
  rw [if_neg (by decide +kernel), if_pos rfl]
theorem res_le {a b : Int} : res "<=" a b = [.str "value", .bl (decide (a ≤ b))] := by
  unfold res
  rw [if_neg (by decide +kernel), if_neg (by decide +kernel), if_pos rfl]

def sp_compute (K : PySem.W.Frag) : Sp := fun vs H Q _ => ∃ (s : Str) (a b : Int), vs = [.str s, .int a, .int b] ∧ (-1000000000000000 ≤ a ∧ a ≤ 1000000000000000) ∧ (-1000000000000000 ≤ b ∧ b ≤ 1000000000000000) ∧ (∀ p H', Same H H' → H' p = some (.tup (res s a b)) → Q (.ref p) H')
def sp_number (K : PySem.W.Frag) : Sp := fun vs H Q _ => ∃ (n : Int), vs = [.int n] ∧ (∀ p H', Same H H' → H' p = some (.tup (num n)) → Q (.ref p) H')
def sp_law_cell (K : PySem.W.Frag) : Sp := fun vs H Q _ => ∃ (a : Addr) (ns : List Int) (i : Int), vs = [.ref a, .int i] ∧ (SqL K H a (ns.map V.int)) ∧ (0 ≤ i) ∧ (∀ z, Q (.int z) H)
def sp_law_numbers (K : PySem.W.Frag) : Sp := fun vs H Q _ => ∃ (c m : Int), vs = [.int c, .int m] ∧ (0 ≤ m ∧ m ≤ 1000) ∧ (∀ p (nums : List Int) H', Same H H' → H p = none → H' p = some (.lst (nums.map V.int)) → nums.length = m.toNat → (∀ x ∈ nums, 0 ≤ x ∧ x < 1000) → Q (.ref p) H')
def sp_law_state (K : PySem.W.Frag) : Sp := fun vs H Q _ => ∃ (a : Addr) (ns : List Int) (l : Int), vs = [.ref a, .int l] ∧ (SqL K H a (ns.map V.int)) ∧ (ns.length ≤ 63) ∧ (∀ st H', StIn K H H' st ns → Q (.ref st) H')
def sp_law_next (K : PySem.W.Frag) : Sp := fun vs H Q _ => ∃ (H0 : Hp) (st : Addr) (ns : List Int) (m : Int), vs = [.ref st, .int m] ∧ (StIn K H0 H st ns) ∧ (0 < m) ∧ (∀ (r : Int) (H' : Hp), 0 ≤ r → r < m → StIn K H0 H' st ns → (∀ a, a ≠ st → H' a = H a) → Q (.int r) H')
def sp_law_number (K : PySem.W.Frag) : Sp := fun vs H Q _ => ∃ (H0 : Hp) (st : Addr) (ns : List Int) (m : Int), vs = [.ref st, .int m] ∧ (StIn K H0 H st ns) ∧ (0 ≤ m) ∧ (∀ (r : Int) (H' : Hp), -1000000000000000 ≤ r → r ≤ 1000000000000000 → StIn K H0 H' st ns → Q (.int r) H')
def sp_law_inside (K : PySem.W.Frag) : Sp := fun vs H Q _ => ∃ (n : Int), vs = [.int n] ∧ (∀ b : Bool, (b = true ↔ -1000000000000000 ≤ n ∧ n ≤ 1000000000000000) → Q (.bl b) H)
def sp_law_near (K : PySem.W.Frag) : Sp := fun vs H Q _ => ∃ (H0 : Hp) (st : Addr) (ns : List Int) (a : Int), vs = [.ref st, .int a] ∧ (StIn K H0 H st ns) ∧ (-1000000000000000 ≤ a ∧ a ≤ 1000000000000000) ∧ (∀ (r : Int) (H' : Hp), -1000000000000000 ≤ r → r ≤ 1000000000000000 → StIn K H0 H' st ns → Q (.int r) H')
def sp_law_is_integer (K : PySem.W.Frag) : Sp := fun vs H Q _ => ∃ (x : V), vs = [x] ∧ ((∃ i, x = .int i) ∨ (∃ b, x = .bl b) ∨ x = .non) ∧ (∀ b : Bool, b = isI x → Q (.bl b) H)
def sp_law_same (K : PySem.W.Frag) : Sp := fun vs H Q _ => ∃ (p : Addr) (e : Str) (v : V), vs = [.ref p, .str e, v] ∧ (H p = some (.tup [.str e, v])) ∧ ((∃ i, v = .int i) ∨ (∃ b, v = .bl b) ∨ v = .non) ∧ (Q (.bl true) H)
def sp_law_counted (K : PySem.W.Frag) : Sp := fun vs H Q _ => ∃ (p : Addr) (n : Int), vs = [.ref p, .int n] ∧ (H p = some (.tup (num n))) ∧ (Q (.bl true) H)
def sp_law_divided (K : PySem.W.Frag) : Sp := fun vs H Q _ => ∃ (a b : Int), vs = [.int a, .int b] ∧ (-1000000000000000 ≤ a ∧ a ≤ 1000000000000000) ∧ (-1000000000000000 ≤ b ∧ b ≤ 1000000000000000) ∧ (∀ H', Same H H' → Q (.bl true) H')
def sp_law (K : PySem.W.Frag) : Sp := fun vs H Q _ => ∃ (a : Addr) (ns : List Int), vs = [.ref a] ∧ (SqL K H a (ns.map V.int)) ∧ (ns.length ≤ 63) ∧ (∀ H', Q (.bl true) H')
local macro_rules | `(tactic| walk_at "cnd") => `(tactic| first
  | ((with_reducible show CMul _ _); first | (exact Or.inl (And.intro (by omega) (by omega))) | (exact Or.inr (And.intro (by omega) (by omega))))
  | ((with_reducible show CDiv _ _); exact And.intro (by omega) (by omega))
  | ((with_reducible show CPow _ _); exact And.intro (by omega) (And.intro (by omega) (by omega)))
  | ((with_reducible show Rd.CDivX _ _); exact Rd.cdivX' (by omega) (by omega))
  | ((with_reducible show (_ : Int) < _); omega)
  | ((with_reducible show (_ : Int) ≠ _); omega))
local macro_rules | `(tactic| walk_at "hp") => `(tactic| first
  | assumption
  | (with_reducible exact Rd.slL)
  | (with_reducible exact Rd.slT)
  | (with_reducible exact upd_same)
  | ((with_reducible refine SqL.of ?_); walk_at "hq")
  | ((with_reducible refine SqT.of ?_); walk_at "hq")
  | ((with_reducible refine Rd.nl ‹_› ?_); walk_at "hp")
  | ((with_reducible refine Rd.nt ‹_› ?_); walk_at "hp")
  | ((with_reducible refine Rd.nh ‹_› ?_); walk_at "hp")
  | ((with_reducible refine Rd.ul (by assumption) ?_); walk_at "hp")
  | ((with_reducible refine Rd.ut (by assumption) ?_); walk_at "hp")
  | ((with_reducible refine Rd.uh (by assumption) ?_); walk_at "hp")
  | ((with_reducible refine Same.seq ‹Same _ _› ?_); walk_at "hp")
  | ((with_reducible refine Rd.same_tup ‹Same _ _› ?_); walk_at "hp")
  | ((with_reducible refine (‹Same _ _› : Same _ _) _ _ ?_); walk_at "hp"))
local macro_rules | `(tactic| walk_at "hq") => `(tactic| first
  | assumption
  | (with_reducible exact upd_same)
  | ((with_reducible refine Rd.nh ‹_› ?_); walk_at "hq")
  | ((with_reducible refine Rd.uh (by assumption) ?_); walk_at "hq")
  | ((with_reducible refine (‹Same _ _› : Same _ _) _ _ ?_); walk_at "hq"))
local macro_rules | `(tactic| walk_at "rd1") => `(tactic| first
  | (with_reducible refine Rd.seq ?_)
  | (with_reducible refine Rd.asg ?_)
  | (with_reducible refine Rd.opIsN ?_)
  | (with_reducible refine Rd.opNotN ?_)
  | (with_reducible refine Rd.opAddS ?_)
  | (with_reducible refine Rd.op ?_)
  | (with_reducible refine Rd.cst ?_)
  | ((with_reducible show tVar _ _ _ _); refine Rd.var rfl ?_)
  | (with_reducible refine Rd.cons ?_)
  | (with_reducible refine Rd.nil ?_)
  | (with_reducible refine Rd.opI0 ?_)
  | ((with_reducible show rI CPow _ (V.int 10) (V.int _) _ _); refine Rd.pw (z := 1000000000000000) ⟨by decide, by decide, by decide⟩ (by decide) ?_)
  | ((with_reducible show rI CPow _ (V.int 10) (V.int _) _ _); refine Rd.pw (z := 1000000000000000000) ⟨by decide, by decide, by decide⟩ (by decide) ?_)
  | ((with_reducible show rI CPow _ (V.int 10) (V.int _) _ _); refine Rd.pw (z := 1000000000) ⟨by decide, by decide, by decide⟩ (by decide) ?_)
  | ((with_reducible refine Rd.opI ?_ ?_); (first | walk_at "cnd" | skip))
  | (with_reducible refine Rd.ret ?_)
  | (with_reducible refine Rd.ifS ?_)
  | (with_reducible refine Rd.tst ?_)
  | (with_reducible refine Rd.tB_ ?_)
  | (with_reducible refine Rd.bl ?_)
  | (with_reducible refine Rd.eqI ?_)
  | (with_reducible refine Rd.eqS ?_)
  | (with_reducible refine Rd.eqB ?_)
  | (with_reducible refine Rd.neI ?_)
  | (with_reducible refine Rd.neS ?_)
  | (with_reducible refine Rd.neB ?_)
  | (with_reducible refine Rd.callN ?_)
  | (with_reducible refine Rd.cbLen ?_)
  | (with_reducible refine Rd.cbLenS ?_)
  | (with_reducible refine Rd.cbInt ?_)
  | (with_reducible refine Rd.cbAbs ?_)
  | (with_reducible refine Rd.cbStrI ?_)
  | (with_reducible refine Rd.cbLst ?_)
  | (with_reducible refine Rd.cbTup ?_)
  | (with_reducible refine Rd.cbMax2 ?_)
  | (with_reducible refine Rd.cbMin2 ?_)
  | (with_reducible refine Rd.cb ?_)
  | (with_reducible refine Rd.isN' ?_)
  | (with_reducible refine Rd.notN' ?_)
  | (with_reducible refine Rd.intB ?_)
  | (with_reducible refine Rd.max2 (fun _ _ _ _ => ?_))
  | (with_reducible refine Rd.min2 (fun _ _ _ _ => ?_))
  | (with_reducible refine Rd.int1 ?_)
  | (with_reducible refine Rd.abs1 (fun _ _ _ => ?_))
  | (with_reducible refine Rd.un ?_)
  | (with_reducible refine Rd.opU ?_)
  | (with_reducible refine Rd.tup ?_)
  | (with_reducible refine Rd.lst ?_)
  | (with_reducible refine Rd.len (Nat.le_of_ble_eq_true rfl) (fun _ _ => ?_))
  | (with_reducible refine Rd.next ?_)
  | (with_reducible refine Rd.chain ?_)
  | (with_reducible refine Rd.andV ?_)
  | (with_reducible refine Rd.orV ?_)
  | (with_reducible refine Rd.notV ?_)
  | (with_reducible refine Rd.and_ ?_)
  | (with_reducible refine Rd.or_ ?_)
  | (with_reducible refine Rd.not_ ?_)
  | (with_reducible refine Rd.ifE ?_)
  | (with_reducible refine Rd.iteT ?_)
  | (with_reducible refine Rd.iteF ?_)
  | (with_reducible refine Rd.iteD (fun _ => ?_) (fun _ => ?_))
  | (with_reducible refine Rd.iteN (fun _ => ?_) (fun _ => ?_))
  | (with_reducible refine Rd.drop ?_)
  | (with_reducible refine Rd.app ?_)
  | ((with_reducible refine Rd.tyL (xs := ?xs) ?h ?_); (case h => walk_at "hq"))
  | ((with_reducible refine Rd.appd (xs := ?xs) ?h ?z ?_); (case h => walk_at "hq"); (case z => walk_at "sz"))
  | ((with_reducible refine Rd.setL (xs := ?xs) (j := ?j) ?h ?e ?_); (case h => walk_at "hq"); (case e => rfl))
  | ((with_reducible refine Rd.lenL (ys := ?ys) ?h rfl ?_); (case h => walk_at "hp"))
  | ((with_reducible refine Rd.lenT (ys := ?ys) ?h rfl ?_); (case h => walk_at "hp"))
  | ((with_reducible refine Rd.ixL (xs := ?xs) (v := ?v) ?h ?a ?_); (case h => walk_at "hp"); (case a => walk_at "ix"))
  | ((with_reducible refine Rd.ixT (xs := ?xs) (v := ?v) ?h ?a ?_); (case h => walk_at "hp"); (case a => walk_at "ix"))
  | ((with_reducible refine Rd.isiI (r := ?r) ?e ?_); (case e => first | exact Rd.kb_int_int | exact Rd.kb_int_bool | exact Rd.kb_int_str | exact Rd.kb_int_tuple | exact Rd.kb_int_list | exact Rd.kb_int_dict))
  | ((with_reducible refine Rd.isiB (r := ?r) ?e ?_); (case e => first | exact Rd.kb_bool_int | exact Rd.kb_bool_bool | exact Rd.kb_bool_str | exact Rd.kb_bool_tuple | exact Rd.kb_bool_list | exact Rd.kb_bool_dict))
  | ((with_reducible refine Rd.isiS (r := ?r) ?e ?_); (case e => first | exact Rd.kb_str_int | exact Rd.kb_str_bool | exact Rd.kb_str_str | exact Rd.kb_str_tuple | exact Rd.kb_str_list | exact Rd.kb_str_dict))
  | ((with_reducible refine Rd.isiN (r := ?r) ?e ?_); (case e => first | exact Rd.kb_NoneType_int | exact Rd.kb_NoneType_bool | exact Rd.kb_NoneType_str | exact Rd.kb_NoneType_tuple | exact Rd.kb_NoneType_list | exact Rd.kb_NoneType_dict))
  | ((with_reducible refine Rd.isiT (xs := ?xs) (r := ?r) ?h ?e ?_); (case h => walk_at "hq"); (case e => first | exact Rd.kb_tuple_int | exact Rd.kb_tuple_bool | exact Rd.kb_tuple_str | exact Rd.kb_tuple_tuple | exact Rd.kb_tuple_list | exact Rd.kb_tuple_dict))
  | ((with_reducible refine Rd.isiL (xs := ?xs) (r := ?r) ?h ?e ?_); (case h => walk_at "hq"); (case e => first | exact Rd.kb_list_int | exact Rd.kb_list_bool | exact Rd.kb_list_str | exact Rd.kb_list_tuple | exact Rd.kb_list_list | exact Rd.kb_list_dict))
  | (with_reducible refine Rd.iteNT ?_)
  | (with_reducible refine Rd.iteNF ?_)
  | (with_reducible refine Rd.iteB (fun _ => ?_) (fun _ => ?_))
  | (with_reducible refine Rd.asgS ?_)
  | (with_reducible refine Rd.for_ ?_)
  | (with_reducible refine Rd.iR1 ?_)
  | (with_reducible refine Rd.iR2 ?_)
  | (with_reducible refine Rd.iL ?_)
  | (with_reducible refine Rd.iT ?_)
  | (with_reducible refine Rd.lc_ ?_)
  | (with_reducible refine Rd.brk ?_)
  | (with_reducible refine Rd.cont ?_)
  | (with_reducible refine Rd.retN ?_)
  | (with_reducible refine Rd.sl ?_)
  | ((with_reducible show tAug _ _ _ _ _ _); refine Rd.aug rfl ?_)
  | (with_reducible refine Rd.augI ?_)
  | walk_at "use")
local macro_rules | `(tactic| walk_at "sz") => `(tactic| first
  | (simp only [List.length_map, List.length_append, List.length_cons, List.length_nil]; omega)
  | omega | decide)
local macro_rules | `(tactic| walk_at "ix") => `(tactic| first
  | (with_reducible refine Rd.atI_ints ?_ ?_ <;> omega)
  | ((with_reducible show atI (_ :: _) _ = _); rfl)
  | ((with_reducible show atI (List.set (_ :: _) _ _) _ = _); rfl))
local macro_rules | `(tactic| walk_at "rd") => `(tactic| repeat' (walk_at "rd1"))
local macro_rules | `(tactic| walk_at "sm") => `(tactic| first
  | (with_reducible exact Same.refl _)
  | assumption
  | ((with_reducible refine Same.trans ?_ (Rd.same_new ‹_›)); walk_at "sm")
  | ((with_reducible refine Same.trans ?_ ‹Same _ _›); walk_at "sm"))


local macro_rules | `(tactic| walk_at "vv") => `(tactic| first | exact .inl ⟨_, rfl⟩ | exact .inr (.inl ⟨_, rfl⟩) | exact .inr (.inr rfl))
local macro_rules | `(tactic| walk_at "use") => `(tactic| first
  | ((with_reducible show sp_law_inside _ _ _ _ _); refine ⟨_, rfl, fun b hb => ?_⟩)
  | ((with_reducible show sp_law_is_integer _ _ _ _ _); refine ⟨_, rfl, ?v, fun b hb => ?_⟩; (case v => walk_at "vv"); (first | (have hb2 : b = true := hb; subst hb2) | (have hb2 : b = false := hb; subst hb2)))
  | ((with_reducible show sp_law_same _ _ _ _ _); refine ⟨_, _, _, rfl, ?h, ?v, ?_⟩; (case h => walk_at "hq"); (case v => walk_at "vv"))
  | ((with_reducible show sp_law_counted _ _ _ _ _); refine ⟨_, _, rfl, ?h, ?_⟩; (case h => walk_at "hq"))
  | ((with_reducible show sp_law_divided _ _ _ _ _); refine ⟨_, _, rfl, by omega, by omega, fun _ _ => ?_⟩))

local macro_rules | `(tactic| walk_at "use2") => `(tactic| ((with_reducible show sp_compute _ _ _ _ _); refine ⟨_, _, _, rfl, by omega, by omega, fun p H' s hp => ?_⟩; (first | rw [res_add] at hp | rw [res_sub] at hp | rw [res_mul] at hp | rw [res_eq] at hp | rw [res_lt] at hp | rw [res_le] at hp)))

section
variable {P : Program} {w : World} {K : PySem.W.Frag} {mg : Str → Option Value} {base : Heap}
theorem fn_number {f : Addr} {fd : FuncData} (F : FnP K "_number" s_number f fd)   (W_MOST : ∃ t, mg "MOST" = some (.int 1000000000000000 t)) : FnOk P w K mg base CX0 1 f fd ["number"] (sp_number K) := by
  obtain ⟨t_MOST, g_MOST⟩ := W_MOST; have g_MOST_r : RelV (.int 1000000000000000) (.int 1000000000000000 t_MOST) := ⟨_, rfl⟩
  refine F.ok sc_number (fun vs H Q E h => ?_) (fun cdv A outer s H vs Q E hr h => ?_)
  · obtain ⟨n, rfl, _⟩ := h; rfl
  · obtain ⟨n, rfl, k⟩ := h
    refine ⟨_, PSs.nox (pss_cons (ps_if (pt_chain op_le op_le (pe_un un_neg (pe_glob (by rfl) g_MOST g_MOST_r)) (pv 0) (pe_glob (by rfl) g_MOST g_MOST_r)) (pss_one (ps_ret (pe_tup (pa_cons pe_str (pa_cons (pv 0) pa_nil))))) pss_nil)
      (pss_one (ps_ret (pe_tup (pa_cons pe_str (pa_cons pe_non pa_nil)))))), ?_⟩
    try simp only [Rd.cxK]
    walk_at "rd"
    all_goals exact k _ _ (Rd.same_new ‹_›) (upd_same.trans (by unfold num; first | rw [if_pos (by omega)] | rw [if_neg (by omega)]))
theorem ok_number {f : Addr} {fd : FuncData} (mf : mg "_number" = some (.ref f)) (F : FnP K "_number" s_number f fd)   (W_MOST : ∃ t, mg "MOST" = some (.int 1000000000000000 t)) : Cal P w K mg base "_number" 1 ["number"] (sp_number K) :=
  ⟨f, fd, mf, F.kp, F.bindsN fun _ _ _ _ _ _ us hl => match us, hl with | [_], _ => rfl, fn_number F W_MOST⟩

theorem fn_law_cell {f : Addr} {fd : FuncData} (F : FnP K "_law_cell" s_law_cell f fd)  (z_len : mg "len" = none) : FnOk P w K mg base CX0 1 f fd ["script", "k"] (sp_law_cell K) := by
  refine F.ok sc_law_cell (fun vs H Q E h => ?_) (fun cdv A outer s H vs Q E hr h => ?_)
  · obtain ⟨a, ns, i, rfl, _⟩ := h; rfl
  · obtain ⟨a, ns, i, rfl, hS, h0, k⟩ := h
    refine ⟨_, PSs.nox (pss_cons (ps_if (pt_cmpR op_lt (pv 1) (pe_callB call_len_seq (by rfl) z_len boot_len (pa_cons (pv 0) pa_nil)) (nomark _)) (pss_one (ps_ret (pe_ix ix_list (pv 0) (pv 1) (fun _ _ => rfl)))) pss_nil)
      (pss_one (ps_ret pe_int))), ?_⟩
    try simp only [Rd.cxK]
    walk_at "rd"
    · refine Rd.ixL hS (Rd.atI_ints h0 ?_) (k _)
      rw [← List.length_map (f := V.int)]; assumption
    · exact k _
theorem ok_law_cell {f : Addr} {fd : FuncData} (mf : mg "_law_cell" = some (.ref f)) (F : FnP K "_law_cell" s_law_cell f fd)  (z_len : mg "len" = none) : Cal P w K mg base "_law_cell" 1 ["script", "k"] (sp_law_cell K) :=
  ⟨f, fd, mf, F.kp, F.bindsN fun _ _ _ _ _ _ us hl => match us, hl with | [_, _], _ => rfl, fn_law_cell F z_len⟩

theorem fn_law_numbers {f : Addr} {fd : FuncData} (F : FnP K "_law_numbers" s_law_numbers f fd)  (z_abs : mg "abs" = none) (z_range : mg "range" = none) (z_int : mg "int" = none) : FnOk P w K mg base CX0 1 f fd ["cell", "many"] (sp_law_numbers K) := by
  refine F.ok sc_law_numbers (fun vs H Q E h => ?_) (fun cdv A outer s H vs Q E hr h => ?_)
  · obtain ⟨c, m, rfl, _⟩ := h; rfl
  · obtain ⟨c, m, rfl, hm, k⟩ := h
    refine ⟨_, PSs.nox (pss_cons (ps_set (i := 2) sc_law_numbers.nd rfl (Or.inl rfl) (pe_callB call_abs (by rfl) z_abs boot_abs (pa_cons (pv 0) pa_nil)))
      (pss_cons (ps_set (i := 3) sc_law_numbers.nd rfl (Or.inl rfl) (pv 2))
      (pss_cons (ps_set (i := 4) sc_law_numbers.nd rfl (Or.inl rfl) (pe_lst pa_nil))
      (pss_cons (ps_for PassesOwn.never rfl (pi_range1 (by rfl) z_range (pa_cons (pv 1) pa_nil)) (pg_name (i := 5) sc_law_numbers.nd rfl (Or.inl rfl)) (pss_one (ps_if (PW.pt (pw_and (pt_cmpR op_ge (pv 3) (pe_op op_pow pe_int pe_int) (nomark _)) (pw_and1 (pt_cmpR op_gt (pv 2) pe_int (nomark _))))) (pss_cons (ps_expr (pe_bm PySem.F.plainAttrs_list PySem.F.slot_list_append PySem.F.type_list_append mt_append (pv 4) (pa_cons (pe_op op_mod (pe_callTy call_int1 (by rfl) z_int boot_int (pa_cons (pv 2) pa_nil)) pe_int) pa_nil)))
      (pss_one (ps_set (i := 2) sc_law_numbers.nd rfl (Or.inl rfl) (pe_op op_fdiv (pv 2) pe_int)))) (pss_cons (ps_set (i := 6) sc_law_numbers.nd rfl (Or.inl rfl) (pe_op op_mod (pe_callTy call_int1 (by rfl) z_int boot_int (pa_cons (pe_op op_add (pe_op op_add (pe_op op_mul (pv 3) pe_int) (pe_op op_mul (pv 5) pe_int)) pe_int) pa_nil)) pe_int))
      (pss_cons (ps_set (i := 6) sc_law_numbers.nd rfl (Or.inl rfl) (pe_op op_mod (pe_callTy call_int1 (by rfl) z_int boot_int (pa_cons (pe_op op_add (pe_op op_add (pe_op op_mul (pv 6) (pv 6)) (pe_op op_mul pe_int (pv 5))) pe_int) pa_nil)) pe_int))
      (pss_one (ps_expr (pe_bm PySem.F.plainAttrs_list PySem.F.slot_list_append PySem.F.type_list_append mt_append (pv 4) (pa_cons (pe_op op_mod (pe_callTy call_int1 (by rfl) z_int boot_int (pa_cons (pe_op op_fdiv (pv 6) pe_int) pa_nil)) pe_int) pa_nil)))))))))
      (pss_one (ps_ret (pv 4))))))), ?_⟩
    try simp only [Rd.cxK]
    walk_at "rd"
    rename_i z hz0 hz1 p hp
    refine Rd.rng1 (fun i σ' H' => ∃ (r : Int) (nums : List Int) (kv mv : Option V), σ' = [some (.int c), some (.int m), some (.int r), some (.int z), some (.ref p), kv, mv] ∧ 0 ≤ r ∧ nums.length = i ∧ (∀ x ∈ nums, 0 ≤ x ∧ x < 1000) ∧ Same H H' ∧ H' p = some (.lst (nums.map V.int))) ⟨by omega, by omega⟩ ?_ ?_ ?_
    · exact ⟨z, [], _, _, rfl, hz0, rfl, by simp, Rd.same_new hp, upd_same⟩
    · rintro i σ' H' hi ⟨r, nums, kv, mv, rfl, hr0, hl, hb, hs, hp'⟩
      walk_at "rd"
      all_goals (refine ⟨_, nums ++ [_], _, _, rfl, ?_, ?_, Rd.bd_app hb ?_, Rd.same_mut hs hp, Rd.pushInts⟩ <;> first | omega | simp [hl])
    · rintro σ' H' ⟨r, nums, kv, mv, rfl, hr0, hl, hb, hs, hp'⟩
      walk_at "rd"
      exact k p nums H' hs hp hp' hl hb
theorem ok_law_numbers {f : Addr} {fd : FuncData} (mf : mg "_law_numbers" = some (.ref f)) (F : FnP K "_law_numbers" s_law_numbers f fd)  (z_abs : mg "abs" = none) (z_range : mg "range" = none) (z_int : mg "int" = none) : Cal P w K mg base "_law_numbers" 1 ["cell", "many"] (sp_law_numbers K) :=
  ⟨f, fd, mf, F.kp, F.bindsN fun _ _ _ _ _ _ us hl => match us, hl with | [_, _], _ => rfl, fn_law_numbers F z_abs z_range z_int⟩

theorem fn_law_next {f : Addr} {fd : FuncData} (F : FnP K "_law_next" s_law_next f fd)  (z_int : mg "int" = none) : FnOk P w K mg base CX0 1 f fd ["state", "many"] (sp_law_next K) := by
  refine F.ok sc_law_next (fun vs H Q E h => ?_) (fun cdv A outer s H vs Q E hr h => ?_)
  · obtain ⟨H0, st, ns, m, rfl, _⟩ := h; rfl
  · obtain ⟨H0, st, ns, m, rfl, hI, hm, k⟩ := h
    refine ⟨_, PSs.nox (pss_cons (ps_set (i := 2) sc_law_next.nd rfl (Or.inl rfl) (pe_ix ix_list (pv 0) pe_int (fun _ _ => rfl)))
      (pss_cons (ps_asg (pe_op op_add (pv 2) pe_int) (pg_sub (pv 0) pe_int set_list))
      (pss_one (ps_ret (pe_op op_mod (pe_callTy call_int1 (by rfl) z_int boot_int (pa_cons (pe_op op_add (pe_ix ix_list (pe_ix ix_list (pv 0) pe_int (fun _ _ => rfl)) (pe_op op_mod (pv 2) pe_int) (fun _ _ => rfl)) (pe_op op_mul pe_int (pe_op op_fdiv (pv 2) pe_int))) pa_nil)) (pv 1)))))), ?_⟩
    try simp only [Rd.cxK]
    obtain ⟨sm, new, na, sa, nums, at_, left, h1, h2, hl, hb, h0, h3, h4⟩ := hI
    have nn : na ≠ st := ne_of h2 h1 (fun e => by have e' := congrArg (fun o => match o with | HO.lst xs => xs.length | _ => 0) e; simp [hl] at e')
    have hx : 0 ≤ at_ % 120 ∧ at_ % 120 < (nums.length : Int) := by omega
    have hy := Rd.getD_bd (i := (at_ % 120).toNat) hb (by omega)
    walk_at "rd"
    refine k _ _ (Int.emod_nonneg _ (by omega)) (Int.emod_lt_of_pos _ hm) ⟨Rd.same_mut sm new, new, na, sa, nums, at_ + 1, left, upd_same, ?_, hl, hb, by omega, h3, h4⟩ (fun a ha => upd_ne ha)
    rw [upd_ne nn]; exact h2
theorem ok_law_next {f : Addr} {fd : FuncData} (mf : mg "_law_next" = some (.ref f)) (F : FnP K "_law_next" s_law_next f fd)  (z_int : mg "int" = none) : Cal P w K mg base "_law_next" 1 ["state", "many"] (sp_law_next K) :=
  ⟨f, fd, mf, F.kp, F.bindsN fun _ _ _ _ _ _ us hl => match us, hl with | [_, _], _ => rfl, fn_law_next F z_int⟩

theorem fn_law_inside {f : Addr} {fd : FuncData} (F : FnP K "_law_inside" s_law_inside f fd)   : FnOk P w K mg base CX0 1 f fd ["number"] (sp_law_inside K) := by
  refine F.ok sc_law_inside (fun vs H Q E h => ?_) (fun cdv A outer s H vs Q E hr h => ?_)
  · obtain ⟨n, rfl, _⟩ := h; rfl
  · obtain ⟨n, rfl, k⟩ := h
    refine ⟨_, PSs.nox (pss_one (ps_ret (pe_and (pe_cmpR op_le (pe_un un_neg (pe_op op_pow pe_int pe_int)) (pv 0) (nomark _)) (pe_one (pe_cmpR op_le (pv 0) (pe_op op_pow pe_int pe_int) (nomark _)))))), ?_⟩
    try simp only [Rd.cxK]
    walk_at "rd"
    · exact k _ (by rw [decide_eq_true_iff]; constructor <;> intro <;> first | omega | (constructor <;> omega))
    · exact k _ ⟨fun h => (Bool.false_ne_true h).elim, fun h => by omega⟩
theorem ok_law_inside {f : Addr} {fd : FuncData} (mf : mg "_law_inside" = some (.ref f)) (F : FnP K "_law_inside" s_law_inside f fd)   : Cal P w K mg base "_law_inside" 1 ["number"] (sp_law_inside K) :=
  ⟨f, fd, mf, F.kp, F.bindsN fun _ _ _ _ _ _ us hl => match us, hl with | [_], _ => rfl, fn_law_inside F ⟩

theorem fn_law_is_integer {f : Addr} {fd : FuncData} (F : FnP K "_law_is_integer" s_law_is_integer f fd)  (z_isinstance : mg "isinstance" = none) (z_bool : mg "bool" = none) (z_int : mg "int" = none) : FnOk P w K mg base CX0 1 f fd ["value"] (sp_law_is_integer K) := by
  refine F.ok sc_law_is_integer (fun vs H Q E h => ?_) (fun cdv A outer s H vs Q E hr h => ?_)
  · obtain ⟨x, rfl, _⟩ := h; rfl
  · obtain ⟨x, rfl, hx, k⟩ := h
    refine ⟨_, PSs.nox (pss_one (ps_ret (pe_and (pe_callB call_isi (by rfl) z_isinstance boot_isinstance (pa_cons (pv 0) (pa_cons (pe_bltn (v := .ty "int") (by rfl) z_int boot_int rfl) pa_nil))) (pe_one (pe_not (pe_callB call_isi (by rfl) z_isinstance boot_isinstance (pa_cons (pv 0) (pa_cons (pe_bltn (v := .ty "bool") (by rfl) z_bool boot_bool rfl) pa_nil)))))))), ?_⟩
    try simp only [Rd.cxK]
    rcases hx with ⟨i, rfl⟩ | ⟨b, rfl⟩ | rfl <;> walk_at "rd" <;> exact k _ rfl
theorem ok_law_is_integer {f : Addr} {fd : FuncData} (mf : mg "_law_is_integer" = some (.ref f)) (F : FnP K "_law_is_integer" s_law_is_integer f fd)  (z_isinstance : mg "isinstance" = none) (z_bool : mg "bool" = none) (z_int : mg "int" = none) : Cal P w K mg base "_law_is_integer" 1 ["value"] (sp_law_is_integer K) :=
  ⟨f, fd, mf, F.kp, F.bindsN fun _ _ _ _ _ _ us hl => match us, hl with | [_], _ => rfl, fn_law_is_integer F z_isinstance z_bool z_int⟩

theorem fn_compute {f : Addr} {fd : FuncData} (F : FnP K "compute" s_compute f fd) (C_number : Cal P w K mg base "_number" 1 ["number"] (sp_number K))  : FnOk P w K mg base CX0 2 f fd ["sign", "a", "b"] (sp_compute K) := by
  obtain ⟨f_number, fd_number, m_number, k_number, b_number, G_number⟩ := C_number.ex
  refine F.ok sc_compute (fun vs H Q E h => ?_) (fun cdv A outer s H vs Q E hr h => ?_)
  · obtain ⟨s, a, b, rfl, _⟩ := h; rfl
  · obtain ⟨s, a, b, rfl, ha, hb, k⟩ := h
    refine ⟨_, PSs.nox (pss_cons (ps_if (pt_cmpR op_eq (pv 0) pe_str (nomark _)) (pss_one (ps_ret (pe_tup (pa_cons pe_str (pa_cons (pe_cmpR op_eq (pv 1) (pv 2) (nomark _)) pa_nil))))) pss_nil)
      (pss_cons (ps_if (pt_cmpR op_eq (pv 0) pe_str (nomark _)) (pss_one (ps_ret (pe_tup (pa_cons pe_str (pa_cons (pe_cmpR op_lt (pv 1) (pv 2) (nomark _)) pa_nil))))) pss_nil)
      (pss_cons (ps_if (pt_cmpR op_eq (pv 0) pe_str (nomark _)) (pss_one (ps_ret (pe_tup (pa_cons pe_str (pa_cons (pe_cmpR op_le (pv 1) (pv 2) (nomark _)) pa_nil))))) pss_nil)
      (pss_cons (ps_if (pt_cmpR op_eq (pv 0) pe_str (nomark _)) (pss_one (ps_ret (pe_call G_number (hr.mono (by decide)) (by rfl) m_number k_number b_number .nil pass0 (pa_cons (pe_op op_add (pv 1) (pv 2)) pa_nil)))) pss_nil)
      (pss_cons (ps_if (pt_cmpR op_eq (pv 0) pe_str (nomark _)) (pss_one (ps_ret (pe_call G_number (hr.mono (by decide)) (by rfl) m_number k_number b_number .nil pass0 (pa_cons (pe_op op_sub (pv 1) (pv 2)) pa_nil)))) pss_nil)
      (pss_cons (ps_if (pt_cmpR op_eq (pv 0) pe_str (nomark _)) (pss_one (ps_ret (pe_call G_number (hr.mono (by decide)) (by rfl) m_number k_number b_number .nil pass0 (pa_cons (pe_op op_mul (pv 1) (pv 2)) pa_nil)))) pss_nil)
      (pss_cons (ps_if (pt_cmpR op_eq (pv 2) pe_int (nomark _)) (pss_one (ps_ret (pe_tup (pa_cons pe_str (pa_cons pe_non pa_nil))))) pss_nil)
      (pss_one (ps_ret (pe_call G_number (hr.mono (by decide)) (by rfl) m_number k_number b_number .nil pass0 (pa_cons (pe_ifExp (pt_cmpR op_eq (pv 0) pe_str (nomark _)) (pe_op Rd.op_fdivX (pv 1) (pv 2)) (pe_op op_modN (pv 1) (pv 2))) pa_nil))))))))))), ?_⟩
    try simp only [Rd.cxK]
    walk_at "rd"
    all_goals first
      | exact k _ _ (Rd.same_new ‹_›) (upd_same.trans (by unfold res; repeat' (first | contradiction | rfl | split)))
      | (refine ⟨_, rfl, fun p H' hs hp => ?_⟩; exact k p H' hs (by rw [hp]; unfold res; repeat' (first | contradiction | rfl | split)))
      | skip
theorem ok_compute {f : Addr} {fd : FuncData} (mf : mg "compute" = some (.ref f)) (F : FnP K "compute" s_compute f fd) (C_number : Cal P w K mg base "_number" 1 ["number"] (sp_number K))  : Cal P w K mg base "compute" 2 ["sign", "a", "b"] (sp_compute K) :=
  ⟨f, fd, mf, F.kp, F.bindsN fun _ _ _ _ _ _ us hl => match us, hl with | [_, _, _], _ => rfl, fn_compute F C_number⟩

theorem fn_law_state {f : Addr} {fd : FuncData} (F : FnP K "_law_state" s_law_state f fd) (C_law_numbers : Cal P w K mg base "_law_numbers" 1 ["cell", "many"] (sp_law_numbers K)) (C_law_cell : Cal P w K mg base "_law_cell" 1 ["script", "k"] (sp_law_cell K)) (z_range : mg "range" = none) : FnOk P w K mg base CX0 2 f fd ["script", "left"] (sp_law_state K) := by
  obtain ⟨f_law_numbers, fd_law_numbers, m_law_numbers, k_law_numbers, b_law_numbers, G_law_numbers⟩ := C_law_numbers.ex
  obtain ⟨f_law_cell, fd_law_cell, m_law_cell, k_law_cell, b_law_cell, G_law_cell⟩ := C_law_cell.ex
  refine F.ok sc_law_state (fun vs H Q E h => ?_) (fun cdv A outer s H vs Q E hr h => ?_)
  · obtain ⟨a, ns, l, rfl, _⟩ := h; rfl
  · obtain ⟨a, ns, l, rfl, hS, h63, k⟩ := h
    refine ⟨_, PSs.nox (pss_cons (ps_set (i := 2) sc_law_state.nd rfl (Or.inl rfl) (pe_lst pa_nil))
      (pss_cons (ps_setLc (i := 3) (own := [("k", 4)]) (g := gName 4) (tt := tYes) rfl sc_law_state.nd rfl rfl (sw_true rfl rfl rfl (by decide +kernel)) (pi_range1 (by rfl) z_range (pa_cons pe_int pa_nil)) (blkOk_by (N := N_law_state) (sc := defScope s_law_state) (by decide +kernel)) (fun _ _ _ _ _ => pg_name (i := 4) sc_law_state.nd rfl (Or.inl rfl)) (fun _ _ _ _ _ => pts_nil) (fun _ _ _ _ _ => (pe_call G_law_numbers (hr.mono (by decide)) (by rfl) m_law_numbers k_law_numbers b_law_numbers .nil pass0 (pa_cons (pe_call G_law_cell (hr.mono (by decide)) (by rfl) m_law_cell k_law_cell b_law_cell .nil pass0 (pa_cons (pv 0) (pa_cons (pv 4) pa_nil))) (pa_cons pe_int pa_nil)))))
      (pss_cons (ps_for PassesOwn.never rfl (pi_range1 (by rfl) z_range (pa_cons pe_int pa_nil)) (pg_name (i := 4) sc_law_state.nd rfl (Or.inl rfl)) (pss_cons (ps_expr (pe_bm PySem.F.plainAttrs_list PySem.F.slot_list_append PySem.F.type_list_append mt_append (pv 2) (pa_cons (pe_ix ix_list (pe_ix ix_list (pv 3) pe_int (fun _ _ => rfl)) (pv 4) (fun _ _ => rfl)) pa_nil)))
      (pss_cons (ps_expr (pe_bm PySem.F.plainAttrs_list PySem.F.slot_list_append PySem.F.type_list_append mt_append (pv 2) (pa_cons (pe_ix ix_list (pe_ix ix_list (pv 3) pe_int (fun _ _ => rfl)) (pv 4) (fun _ _ => rfl)) pa_nil)))
      (pss_one (ps_expr (pe_bm PySem.F.plainAttrs_list PySem.F.slot_list_append PySem.F.type_list_append mt_append (pv 2) (pa_cons (pe_ix ix_list (pe_ix ix_list (pv 3) pe_int (fun _ _ => rfl)) (pv 4) (fun _ _ => rfl)) pa_nil)))))))
      (pss_one (ps_ret (pe_lst (pa_cons (pv 2) (pa_cons pe_int (pa_cons (pv 1) (pa_cons (pv 0) pa_nil)))))))))), ?_⟩
    try simp only [Rd.cxK]
    walk_at "rd"
    rename_i n hn
    refine Rd.lcR1 (fun D i acc H' => H' n = some (.lst []) ∧ ∀ x ∈ acc, ∃ (q : Addr) (nums : List Int), x = V.ref q ∧ q ≠ n ∧ q ≠ D ∧ H' q = some (.lst (nums.map V.int)) ∧ nums.length = 40 ∧ ∀ x ∈ nums, 0 ≤ x ∧ x < 1000) (by omega) ?_ ?_ ?_
    · exact fun D H' hD s _ => ⟨s _ _ upd_same, by simp⟩
    · rintro i acc D H' hD s hi hl hD' ⟨hn', ha⟩
      walk_at "rd"
      refine ⟨a, ns, _, rfl, s.seq (Rd.nl hn hS), by omega, fun z => ?_⟩
      walk_at "rd"
      refine ⟨_, _, rfl, by omega, fun q nums H2 s2 hq hq2 hlen hbd => ?_⟩
      have qD : q ≠ D := fun e => by rw [e, hD'] at hq; cases hq
      have qn : q ≠ n := fun e => by rw [e, hn'] at hq; cases hq
      have nD : n ≠ D := fun e => by rw [← e, upd_same] at hD; cases hD
      refine Rd.lcE hD (s2 _ _ hD') (s.trans s2) hl (by omega) ⟨Rd.uh nD (s2 _ _ hn'), fun x hx => ?_⟩
      rcases List.mem_append.mp hx with h | h
      · obtain ⟨q', nums', rfl, h1, h2, h3, h4⟩ := ha x h
        exact ⟨q', nums', rfl, h1, h2, Rd.uh h2 (s2 _ _ h3), h4⟩
      · rw [List.mem_singleton.mp h]
        exact ⟨q, nums, rfl, qn, qD, Rd.uh qD hq2, hlen, hbd⟩
    · rintro D acc H1 hD s hD' hl ⟨hn', ha⟩
      match acc, hl with
      | [x0, x1, x2], _ =>
        obtain ⟨q0, n0, rfl, a0, b0, c0, l0, d0⟩ := ha x0 (by simp)
        obtain ⟨q1, n1, rfl, a1, b1, c1, l1, d1⟩ := ha x1 (by simp)
        obtain ⟨q2, n2, rfl, a2, b2, c2, l2, d2⟩ := ha x2 (by simp)
        have nD : D ≠ n := fun e => by rw [e, upd_same] at hD; cases hD
        have Hn : H n = none := hn
        walk_at "rd"
        refine Rd.rng1 (fun i σ' H' => ∃ (nums : List Int) (kv : Option V), σ' = [some (.ref a), some (.int l), some (.ref n), some (.ref D), kv] ∧ nums.length = 3 * i ∧ (∀ x ∈ nums, 0 ≤ x ∧ x < 1000) ∧ Same H H' ∧ H' n = some (.lst (nums.map V.int)) ∧ H' D = some (.lst [.ref q0, .ref q1, .ref q2]) ∧ H' q0 = some (.lst (n0.map V.int)) ∧ H' q1 = some (.lst (n1.map V.int)) ∧ H' q2 = some (.lst (n2.map V.int))) ⟨by omega, by omega⟩ ?_ ?_ ?_
        · exact ⟨[], _, rfl, rfl, by simp, (Rd.same_new hn).trans s, hn', hD', c0, c1, c2⟩
        · rintro i σ' H' hi ⟨nums, kv, rfl, hl, hb, hs, hn2, hD2, e0, e1, e2⟩
          have g0 := Rd.getD_bd (i := i) d0 (by omega)
          have g1 := Rd.getD_bd (i := i) d1 (by omega)
          have g2 := Rd.getD_bd (i := i) d2 (by omega)
          have m0 : q0 ≠ n := a0
          have m1 : q1 ≠ n := a1
          have m2 : q2 ≠ n := a2
          walk_at "rd"
          refine ⟨nums ++ [n0.getD i 0] ++ [n1.getD i 0] ++ [n2.getD i 0], _, rfl, ?_, Rd.bd_app (Rd.bd_app (Rd.bd_app hb g0) g1) g2, Rd.same_mut (Rd.same_mut (Rd.same_mut hs Hn) Hn) Hn, ?_, ?_, ?_, ?_, ?_⟩
          · simp [hl]; omega
          · rw [upd_same]; simp
          · exact Rd.uh nD (Rd.uh nD (Rd.uh nD hD2))
          · exact Rd.uh a0 (Rd.uh a0 (Rd.uh a0 e0))
          · exact Rd.uh a1 (Rd.uh a1 (Rd.uh a1 e1))
          · exact Rd.uh a2 (Rd.uh a2 (Rd.uh a2 e2))
        · rintro σ' H' ⟨nums, kv, rfl, hl, hb, hs, hn2, hD2, e0, e1, e2⟩
          walk_at "rd"
          rename_i st hst
          refine k _ _ ⟨(hs.trans (Rd.same_new hst)), hs.free hst, n, a, nums, 0, l, upd_same, Rd.nh hst hn2, hl, hb, by omega, hS, h63⟩
theorem ok_law_state {f : Addr} {fd : FuncData} (mf : mg "_law_state" = some (.ref f)) (F : FnP K "_law_state" s_law_state f fd) (C_law_numbers : Cal P w K mg base "_law_numbers" 1 ["cell", "many"] (sp_law_numbers K)) (C_law_cell : Cal P w K mg base "_law_cell" 1 ["script", "k"] (sp_law_cell K)) (z_range : mg "range" = none) : Cal P w K mg base "_law_state" 2 ["script", "left"] (sp_law_state K) :=
  ⟨f, fd, mf, F.kp, F.bindsN fun _ _ _ _ _ _ us hl => match us, hl with | [_, _], _ => rfl, fn_law_state F C_law_numbers C_law_cell z_range⟩

theorem fn_law_number {f : Addr} {fd : FuncData} (F : FnP K "_law_number" s_law_number f fd) (C_law_next : Cal P w K mg base "_law_next" 1 ["state", "many"] (sp_law_next K)) (C_law_cell : Cal P w K mg base "_law_cell" 1 ["script", "k"] (sp_law_cell K)) (z_int : mg "int" = none) : FnOk P w K mg base CX0 2 f fd ["state", "place"] (sp_law_number K) := by
  obtain ⟨f_law_next, fd_law_next, m_law_next, k_law_next, b_law_next, G_law_next⟩ := C_law_next.ex
  obtain ⟨f_law_cell, fd_law_cell, m_law_cell, k_law_cell, b_law_cell, G_law_cell⟩ := C_law_cell.ex
  refine F.ok sc_law_number (fun vs H Q E h => ?_) (fun cdv A outer s H vs Q E hr h => ?_)
  · obtain ⟨H0, st, ns, m, rfl, _⟩ := h; rfl
  · obtain ⟨H0, st, ns, m, rfl, hI, hm, k⟩ := h
    refine ⟨_, PSs.nox (pss_cons (ps_set (i := 2) sc_law_number.nd rfl (Or.inl rfl) (pe_call G_law_next (hr.mono (by decide)) (by rfl) m_law_next k_law_next b_law_next .nil pass0 (pa_cons (pv 0) (pa_cons pe_int pa_nil))))
      (pss_cons (ps_set (i := 3) sc_law_number.nd rfl (Or.inl rfl) (pe_call G_law_cell (hr.mono (by decide)) (by rfl) m_law_cell k_law_cell b_law_cell .nil pass0 (pa_cons (pe_ix ix_list (pv 0) pe_int (fun _ _ => rfl)) (pa_cons (pv 1) pa_nil))))
      (pss_cons (ps_if (pt_cmpR op_lt (pv 2) pe_int (nomark _)) (pss_one (ps_ret (pe_op op_sub (pe_op op_mod (pe_callTy call_int1 (by rfl) z_int boot_int (pa_cons (pv 3) pa_nil)) pe_int) pe_int))) pss_nil)
      (pss_cons (ps_if (pt_cmpR op_eq (pv 2) pe_int (nomark _)) (pss_one (ps_ret (pe_ix ix_list (pe_lst (pa_cons (pe_op op_pow pe_int pe_int) (pa_cons (pe_un un_neg (pe_op op_pow pe_int pe_int)) (pa_cons (pe_op op_sub (pe_op op_pow pe_int pe_int) pe_int) (pa_cons pe_int (pa_cons pe_int (pa_cons (pe_un un_neg pe_int) pa_nil))))))) (pe_call G_law_next (hr.mono (by decide)) (by rfl) m_law_next k_law_next b_law_next .nil pass0 (pa_cons (pv 0) (pa_cons pe_int pa_nil))) (fun _ _ => rfl)))) pss_nil)
      (pss_cons (ps_if (pt_cmpR op_eq (pv 2) pe_int (nomark _)) (pss_one (ps_ret (pe_op op_sub (pe_op op_mod (pe_callTy call_int1 (by rfl) z_int boot_int (pa_cons (pv 3) pa_nil)) pe_int) pe_int))) pss_nil)
      (pss_one (ps_ret (pe_op op_sub (pe_op op_mod (pe_callTy call_int1 (by rfl) z_int boot_int (pa_cons (pv 3) pa_nil)) (pe_op op_add (pe_op op_mul pe_int (pe_op op_pow pe_int pe_int)) pe_int)) (pe_op op_pow pe_int pe_int))))))))), ?_⟩
    try simp only [Rd.cxK]
    walk_at "rd"
    refine ⟨H0, st, ns, _, rfl, hI, by omega, fun r H1 hr0 hr1 hI1 hE => ?_⟩
    obtain ⟨sm1, new1, na1, sa1, nums1, at1, left1, g1, g2, gl, gb, g0, g3, g4⟩ := id hI1
    walk_at "rd"
    refine ⟨sa1, ns, _, rfl, sm1.seq g3, by omega, fun z => ?_⟩
    walk_at "rd"
    · exact k _ _ (by omega) (by omega) hI1
    · rename_i p hp
      refine ⟨H0, st, ns, _, rfl, hI1.mono (Rd.same_new hp), by omega, fun r2 H2 hr2 hr3 hI2 hE2 => ?_⟩
      have e2 : H2 p = some (.lst _) := (hE2 p (fun e => by rw [e, g1] at hp; cases hp)).trans upd_same
      obtain rfl | rfl | rfl | rfl | rfl | rfl : r2 = 0 ∨ r2 = 1 ∨ r2 = 2 ∨ r2 = 3 ∨ r2 = 4 ∨ r2 = 5 := by omega
      all_goals (refine Rd.ixL (SqL.of e2) rfl ?_; exact k _ _ (by omega) (by omega) hI2)
    · exact k _ _ (by omega) (by omega) hI1
    · exact k _ _ (by omega) (by omega) hI1
theorem ok_law_number {f : Addr} {fd : FuncData} (mf : mg "_law_number" = some (.ref f)) (F : FnP K "_law_number" s_law_number f fd) (C_law_next : Cal P w K mg base "_law_next" 1 ["state", "many"] (sp_law_next K)) (C_law_cell : Cal P w K mg base "_law_cell" 1 ["script", "k"] (sp_law_cell K)) (z_int : mg "int" = none) : Cal P w K mg base "_law_number" 2 ["state", "place"] (sp_law_number K) :=
  ⟨f, fd, mf, F.kp, F.bindsN fun _ _ _ _ _ _ us hl => match us, hl with | [_, _], _ => rfl, fn_law_number F C_law_next C_law_cell z_int⟩

theorem fn_law_near {f : Addr} {fd : FuncData} (F : FnP K "_law_near" s_law_near f fd) (C_law_next : Cal P w K mg base "_law_next" 1 ["state", "many"] (sp_law_next K)) (C_law_inside : Cal P w K mg base "_law_inside" 1 ["number"] (sp_law_inside K)) (z_len : mg "len" = none) : FnOk P w K mg base CX0 2 f fd ["state", "a"] (sp_law_near K) := by
  obtain ⟨f_law_next, fd_law_next, m_law_next, k_law_next, b_law_next, G_law_next⟩ := C_law_next.ex
  obtain ⟨f_law_inside, fd_law_inside, m_law_inside, k_law_inside, b_law_inside, G_law_inside⟩ := C_law_inside.ex
  refine F.ok sc_law_near (fun vs H Q E h => ?_) (fun cdv A outer s H vs Q E hr h => ?_)
  · obtain ⟨H0, st, ns, a, rfl, _⟩ := h; rfl
  · obtain ⟨H0, st, ns, a, rfl, hI, ha, k⟩ := h
    refine ⟨_, PSs.nox (pss_cons (ps_set (i := 2) sc_law_near.nd rfl (Or.inl rfl) (pe_ix ix_list (pe_lst (pa_cons (pe_op op_pow pe_int pe_int) (pa_cons (pe_op op_add (pe_op op_pow pe_int pe_int) pe_int) (pa_cons (pe_un un_neg (pe_op op_pow pe_int pe_int)) (pa_cons (pe_op op_sub (pe_un un_neg (pe_op op_pow pe_int pe_int)) pe_int) pa_nil))))) (pe_call G_law_next (hr.mono (by decide)) (by rfl) m_law_next k_law_next b_law_next .nil pass0 (pa_cons (pv 0) (pa_cons pe_int pa_nil))) (fun _ _ => rfl)))
      (pss_cons (ps_set (i := 3) sc_law_near.nd rfl (Or.inl rfl) (pe_lst (pa_cons (pe_op op_sub (pv 2) (pv 1)) (pa_cons (pe_op op_sub (pv 1) (pv 2)) pa_nil))))
      (pss_cons (ps_if (pt_cmpR op_ne (pv 1) pe_int (nomark _)) (pss_cons (ps_expr (pe_bm PySem.F.plainAttrs_list PySem.F.slot_list_append PySem.F.type_list_append mt_append (pv 3) (pa_cons (pe_op Rd.op_fdivX (pv 2) (pv 1)) pa_nil)))
      (pss_one (ps_expr (pe_bm PySem.F.plainAttrs_list PySem.F.slot_list_append PySem.F.type_list_append mt_append (pv 3) (pa_cons (pe_op op_add (pe_op Rd.op_fdivX (pv 2) (pv 1)) pe_int) pa_nil))))) pss_nil)
      (pss_cons (ps_set (i := 4) sc_law_near.nd rfl (Or.inl rfl) (pe_ix ix_list (pv 3) (pe_call G_law_next (hr.mono (by decide)) (by rfl) m_law_next k_law_next b_law_next .nil pass0 (pa_cons (pv 0) (pa_cons (pe_callB call_len_seq (by rfl) z_len boot_len (pa_cons (pv 3) pa_nil)) pa_nil))) (fun _ _ => rfl)))
      (pss_cons (ps_if (pt_val (pe_call G_law_inside (hr.mono (by decide)) (by rfl) m_law_inside k_law_inside b_law_inside .nil pass0 (pa_cons (pv 4) pa_nil))) (pss_one (ps_ret (pv 4))) pss_nil)
      (pss_one (ps_ret (pv 1)))))))), ?_⟩
    try simp only [Rd.cxK]
    walk_at "rd"
    rename_i p hp
    refine ⟨H0, st, ns, _, rfl, hI.mono (Rd.same_new hp), by omega, fun r1 H1 hr0 hr1 hI1 hE1 => ?_⟩
    obtain ⟨sm1, new1, na1, sa1, nums1, at1, left1, g1, g2, gl, gb, g0, g3, g4⟩ := id hI1
    have e1 : H1 p = some (.lst _) := (hE1 p (fun e => by
      obtain ⟨_, _, _, _, _, _, _, q1, _⟩ := hI
      rw [e, q1] at hp; cases hp)).trans upd_same
    obtain ⟨edge, he, hb1, hb2⟩ : ∃ edge : Int, atI [V.int 1000000000000000, V.int (1000000000000000 + 1), V.int (-1000000000000000), V.int (-1000000000000000 - 1)] r1 = some (.int edge) ∧ -1000000000000001 ≤ edge ∧ edge ≤ 1000000000000001 := by
      obtain rfl | rfl | rfl | rfl : r1 = 0 ∨ r1 = 1 ∨ r1 = 2 ∨ r1 = 3 := by omega
      all_goals exact ⟨_, rfl, by omega, by omega⟩
    refine Rd.ixL (SqL.of e1) he ?_
    walk_at "rd"
    · rename_i q _ _
      refine ⟨H0, st, ns, _, rfl, hI1.mut (q := q) (by assumption) (fun _ hz => by simp only [upd_ne hz]), by simp, fun r2 H2 hr2 hr3 hI2 hE2 => ?_⟩
      have e2 : H2 q = some (.lst _) := (hE2 q (ne_of_none g1 (by assumption)).symm).trans upd_same
      obtain ⟨v, hv⟩ : ∃ v : Int, atI ([V.int (edge - a), V.int (a - edge)] ++ [V.int (edge.fdiv a)] ++ [V.int (edge.fdiv a + 1)]) r2 = some (.int v) := by
        have : r2 < 4 := hr3
        obtain rfl | rfl | rfl | rfl : r2 = 0 ∨ r2 = 1 ∨ r2 = 2 ∨ r2 = 3 := by omega
        all_goals exact ⟨_, rfl⟩
      refine Rd.ixL (SqL.of e2) hv ?_
      walk_at "rd"
      · rename_i b hb h
        have := hb.mp h
        exact k _ _ this.1 this.2 hI2
      · exact k _ _ ha.1 ha.2 hI2
    · rename_i q _ _
      refine ⟨H0, st, ns, _, rfl, hI1.mut (q := q) (by assumption) (fun _ hz => by simp only [upd_ne hz]), by simp, fun r2 H2 hr2 hr3 hI2 hE2 => ?_⟩
      have e2 : H2 q = some (.lst _) := (hE2 q (ne_of_none g1 (by assumption)).symm).trans upd_same
      obtain ⟨v, hv⟩ : ∃ v : Int, atI [V.int (edge - a), V.int (a - edge)] r2 = some (.int v) := by
        have : r2 < 2 := hr3
        obtain rfl | rfl : r2 = 0 ∨ r2 = 1 := by omega
        all_goals exact ⟨_, rfl⟩
      refine Rd.ixL (SqL.of e2) hv ?_
      walk_at "rd"
      · rename_i b hb h
        have := hb.mp h
        exact k _ _ this.1 this.2 hI2
      · exact k _ _ ha.1 ha.2 hI2
theorem ok_law_near {f : Addr} {fd : FuncData} (mf : mg "_law_near" = some (.ref f)) (F : FnP K "_law_near" s_law_near f fd) (C_law_next : Cal P w K mg base "_law_next" 1 ["state", "many"] (sp_law_next K)) (C_law_inside : Cal P w K mg base "_law_inside" 1 ["number"] (sp_law_inside K)) (z_len : mg "len" = none) : Cal P w K mg base "_law_near" 2 ["state", "a"] (sp_law_near K) :=
  ⟨f, fd, mf, F.kp, F.bindsN fun _ _ _ _ _ _ us hl => match us, hl with | [_, _], _ => rfl, fn_law_near F C_law_next C_law_inside z_len⟩

theorem fn_law_same {f : Addr} {fd : FuncData} (F : FnP K "_law_same" s_law_same f fd) (C_law_is_integer : Cal P w K mg base "_law_is_integer" 1 ["value"] (sp_law_is_integer K)) (z_isinstance : mg "isinstance" = none) (z_str : mg "str" = none) (z_len : mg "len" = none) (z_tuple : mg "tuple" = none) (z_bool : mg "bool" = none) : FnOk P w K mg base CX0 2 f fd ["actual", "ending", "value"] (sp_law_same K) := by
  obtain ⟨f_law_is_integer, fd_law_is_integer, m_law_is_integer, k_law_is_integer, b_law_is_integer, G_law_is_integer⟩ := C_law_is_integer.ex
  refine F.ok sc_law_same (fun vs H Q E h => ?_) (fun cdv A outer s H vs Q E hr h => ?_)
  · obtain ⟨p, e, v, rfl, _⟩ := h; rfl
  · obtain ⟨p, e, v, rfl, hp, hv, k⟩ := h
    refine ⟨_, PSs.nox (pss_cons (ps_if (PW.pt (pw_or (pt_not (pt_val (pe_callB call_isi (by rfl) z_isinstance boot_isinstance (pa_cons (pv 0) (pa_cons (pe_bltn (v := .ty "tuple") (by rfl) z_tuple boot_tuple rfl) pa_nil))))) (pw_or (pt_cmpR op_ne (pe_callB call_len_seq (by rfl) z_len boot_len (pa_cons (pv 0) pa_nil)) pe_int (nomark _)) (pw_or (pt_not (pt_val (pe_callB call_isi (by rfl) z_isinstance boot_isinstance (pa_cons (pe_ix ix_tup (pv 0) pe_int (fun _ _ => rfl)) (pa_cons (pe_bltn (v := .ty "str") (by rfl) z_str boot_str rfl) pa_nil))))) (pw_or1 (pt_cmpR op_ne (pe_ix ix_tup (pv 0) pe_int (fun _ _ => rfl)) (pv 1) (nomark _))))))) (pss_one (ps_ret pe_bl)) pss_nil)
      (pss_cons (ps_if (pt_cmpR op_isN (pv 2) pe_non (nomark _)) (pss_one (ps_ret (pe_cmpR op_isN (pe_ix ix_tup (pv 0) pe_int (fun _ _ => rfl)) pe_non (nomark _)))) pss_nil)
      (pss_cons (ps_if (pt_val (pe_callB call_isi (by rfl) z_isinstance boot_isinstance (pa_cons (pv 2) (pa_cons (pe_bltn (v := .ty "bool") (by rfl) z_bool boot_bool rfl) pa_nil)))) (pss_one (ps_ret (pe_and (pe_callB call_isi (by rfl) z_isinstance boot_isinstance (pa_cons (pe_ix ix_tup (pv 0) pe_int (fun _ _ => rfl)) (pa_cons (pe_bltn (v := .ty "bool") (by rfl) z_bool boot_bool rfl) pa_nil))) (pe_one (pe_cmpR op_eq (pe_ix ix_tup (pv 0) pe_int (fun _ _ => rfl)) (pv 2) (nomark _)))))) pss_nil)
      (pss_one (ps_ret (pe_and (pe_call G_law_is_integer (hr.mono (by decide)) (by rfl) m_law_is_integer k_law_is_integer b_law_is_integer .nil pass0 (pa_cons (pe_ix ix_tup (pv 0) pe_int (fun _ _ => rfl)) pa_nil)) (pe_one (pe_cmpR op_eq (pe_ix ix_tup (pv 0) pe_int (fun _ _ => rfl)) (pv 2) (nomark _))))))))), ?_⟩
    try simp only [Rd.cxK]
    rcases hv with ⟨i, rfl⟩ | ⟨b, rfl⟩ | rfl <;> walk_at "rd"
    all_goals first | contradiction | exact k | simpa using k
theorem ok_law_same {f : Addr} {fd : FuncData} (mf : mg "_law_same" = some (.ref f)) (F : FnP K "_law_same" s_law_same f fd) (C_law_is_integer : Cal P w K mg base "_law_is_integer" 1 ["value"] (sp_law_is_integer K)) (z_isinstance : mg "isinstance" = none) (z_str : mg "str" = none) (z_len : mg "len" = none) (z_tuple : mg "tuple" = none) (z_bool : mg "bool" = none) : Cal P w K mg base "_law_same" 2 ["actual", "ending", "value"] (sp_law_same K) :=
  ⟨f, fd, mf, F.kp, F.bindsN fun _ _ _ _ _ _ us hl => match us, hl with | [_, _, _], _ => rfl, fn_law_same F C_law_is_integer z_isinstance z_str z_len z_tuple z_bool⟩

theorem fn_law_counted {f : Addr} {fd : FuncData} (F : FnP K "_law_counted" s_law_counted f fd) (C_law_inside : Cal P w K mg base "_law_inside" 1 ["number"] (sp_law_inside K)) (C_law_same : Cal P w K mg base "_law_same" 2 ["actual", "ending", "value"] (sp_law_same K))  : FnOk P w K mg base CX0 3 f fd ["actual", "number"] (sp_law_counted K) := by
  obtain ⟨f_law_inside, fd_law_inside, m_law_inside, k_law_inside, b_law_inside, G_law_inside⟩ := C_law_inside.ex
  obtain ⟨f_law_same, fd_law_same, m_law_same, k_law_same, b_law_same, G_law_same⟩ := C_law_same.ex
  refine F.ok sc_law_counted (fun vs H Q E h => ?_) (fun cdv A outer s H vs Q E hr h => ?_)
  · obtain ⟨p, n, rfl, _⟩ := h; rfl
  · obtain ⟨p, n, rfl, hp, k⟩ := h
    refine ⟨_, PSs.nox (pss_cons (ps_if (pt_val (pe_call G_law_inside (hr.mono (by decide)) (by rfl) m_law_inside k_law_inside b_law_inside .nil pass0 (pa_cons (pv 1) pa_nil))) (pss_one (ps_ret (pe_call G_law_same (hr.mono (by decide)) (by rfl) m_law_same k_law_same b_law_same .nil pass0 (pa_cons (pv 0) (pa_cons pe_str (pa_cons (pv 1) pa_nil)))))) pss_nil)
      (pss_one (ps_ret (pe_call G_law_same (hr.mono (by decide)) (by rfl) m_law_same k_law_same b_law_same .nil pass0 (pa_cons (pv 0) (pa_cons pe_str (pa_cons pe_non pa_nil))))))), ?_⟩
    try simp only [Rd.cxK]
    by_cases hn : -1000000000000000 ≤ n ∧ n ≤ 1000000000000000
    · have hp' : H p = some (.tup [.str "value", .int n]) := by rw [hp, num, if_pos hn]
      walk_at "rd"
      · exact k
      · rename_i b hb h; exact (Bool.false_ne_true (h.symm.trans (hb.mpr hn))).elim
    · have hp' : H p = some (.tup [.str "range", .non]) := by rw [hp, num, if_neg hn]
      walk_at "rd"
      · rename_i b hb h; exact (hn (hb.mp h)).elim
      · exact k
theorem ok_law_counted {f : Addr} {fd : FuncData} (mf : mg "_law_counted" = some (.ref f)) (F : FnP K "_law_counted" s_law_counted f fd) (C_law_inside : Cal P w K mg base "_law_inside" 1 ["number"] (sp_law_inside K)) (C_law_same : Cal P w K mg base "_law_same" 2 ["actual", "ending", "value"] (sp_law_same K))  : Cal P w K mg base "_law_counted" 3 ["actual", "number"] (sp_law_counted K) :=
  ⟨f, fd, mf, F.kp, F.bindsN fun _ _ _ _ _ _ us hl => match us, hl with | [_, _], _ => rfl, fn_law_counted F C_law_inside C_law_same⟩

theorem fn_law_divided {f : Addr} {fd : FuncData} (F : FnP K "_law_divided" s_law_divided f fd) (C_compute : Cal P w K mg base "compute" 2 ["sign", "a", "b"] (sp_compute K)) (C_law_same : Cal P w K mg base "_law_same" 2 ["actual", "ending", "value"] (sp_law_same K)) (C_law_is_integer : Cal P w K mg base "_law_is_integer" 1 ["value"] (sp_law_is_integer K)) (z_len : mg "len" = none) (z_isinstance : mg "isinstance" = none) (z_tuple : mg "tuple" = none) : FnOk P w K mg base CX0 3 f fd ["a", "b"] (sp_law_divided K) := by
  obtain ⟨f_compute, fd_compute, m_compute, k_compute, b_compute, G_compute⟩ := C_compute.ex
  obtain ⟨f_law_same, fd_law_same, m_law_same, k_law_same, b_law_same, G_law_same⟩ := C_law_same.ex
  obtain ⟨f_law_is_integer, fd_law_is_integer, m_law_is_integer, k_law_is_integer, b_law_is_integer, G_law_is_integer⟩ := C_law_is_integer.ex
  refine F.ok sc_law_divided (fun vs H Q E h => ?_) (fun cdv A outer s H vs Q E hr h => ?_)
  · obtain ⟨a, b, rfl, _⟩ := h; rfl
  · obtain ⟨a, b, rfl, ha, hb, k⟩ := h
    refine ⟨_, PSs.nox (pss_cons (ps_set (i := 2) sc_law_divided.nd rfl (Or.inl rfl) (pe_call G_compute (hr.mono (by decide)) (by rfl) m_compute k_compute b_compute .nil pass0 (pa_cons pe_str (pa_cons (pv 0) (pa_cons (pv 1) pa_nil)))))
      (pss_cons (ps_set (i := 3) sc_law_divided.nd rfl (Or.inl rfl) (pe_call G_compute (hr.mono (by decide)) (by rfl) m_compute k_compute b_compute .nil pass0 (pa_cons pe_str (pa_cons (pv 0) (pa_cons (pv 1) pa_nil)))))
      (pss_cons (ps_if (pt_cmpR op_eq (pv 1) pe_int (nomark _)) (pss_one (ps_ret (pe_and (pe_call G_law_same (hr.mono (by decide)) (by rfl) m_law_same k_law_same b_law_same .nil pass0 (pa_cons (pv 2) (pa_cons pe_str (pa_cons pe_non pa_nil)))) (pe_one (pe_call G_law_same (hr.mono (by decide)) (by rfl) m_law_same k_law_same b_law_same .nil pass0 (pa_cons (pv 3) (pa_cons pe_str (pa_cons pe_non pa_nil)))))))) pss_nil)
      (pss_cons (ps_if (PW.pt (pw_or (pt_not (pt_val (pe_callB call_isi (by rfl) z_isinstance boot_isinstance (pa_cons (pv 2) (pa_cons (pe_bltn (v := .ty "tuple") (by rfl) z_tuple boot_tuple rfl) pa_nil))))) (pw_or (pt_not (pt_val (pe_callB call_isi (by rfl) z_isinstance boot_isinstance (pa_cons (pv 3) (pa_cons (pe_bltn (v := .ty "tuple") (by rfl) z_tuple boot_tuple rfl) pa_nil))))) (pw_or (pt_cmpR op_ne (pe_callB call_len_seq (by rfl) z_len boot_len (pa_cons (pv 2) pa_nil)) pe_int (nomark _)) (pw_or1 (pt_cmpR op_ne (pe_callB call_len_seq (by rfl) z_len boot_len (pa_cons (pv 3) pa_nil)) pe_int (nomark _))))))) (pss_one (ps_ret pe_bl)) pss_nil)
      (pss_cons (ps_if (PW.pt (pw_or (pt_cmpR op_ne (pe_ix ix_tup (pv 2) pe_int (fun _ _ => rfl)) pe_str (nomark _)) (pw_or (pt_cmpR op_ne (pe_ix ix_tup (pv 3) pe_int (fun _ _ => rfl)) pe_str (nomark _)) (pw_or (pt_not (pt_val (pe_call G_law_is_integer (hr.mono (by decide)) (by rfl) m_law_is_integer k_law_is_integer b_law_is_integer .nil pass0 (pa_cons (pe_ix ix_tup (pv 2) pe_int (fun _ _ => rfl)) pa_nil)))) (pw_or1 (pt_not (pt_val (pe_call G_law_is_integer (hr.mono (by decide)) (by rfl) m_law_is_integer k_law_is_integer b_law_is_integer .nil pass0 (pa_cons (pe_ix ix_tup (pv 3) pe_int (fun _ _ => rfl)) pa_nil))))))))) (pss_one (ps_ret pe_bl)) pss_nil)
      (pss_cons (ps_if (pt_cmpR op_ne (pe_op op_add (pe_op op_mul (pe_ix ix_tup (pv 2) pe_int (fun _ _ => rfl)) (pv 1)) (pe_ix ix_tup (pv 3) pe_int (fun _ _ => rfl))) (pv 0) (nomark _)) (pss_one (ps_ret pe_bl)) pss_nil)
      (pss_cons (ps_if (pt_cmpR op_gt (pv 1) pe_int (nomark _)) (pss_one (ps_ret (pe_and (pe_cmpR op_le pe_int (pe_ix ix_tup (pv 3) pe_int (fun _ _ => rfl)) (nomark _)) (pe_one (pe_cmpR op_lt (pe_ix ix_tup (pv 3) pe_int (fun _ _ => rfl)) (pv 1) (nomark _)))))) pss_nil)
      (pss_one (ps_ret (pe_and (pe_cmpR op_lt (pv 1) (pe_ix ix_tup (pv 3) pe_int (fun _ _ => rfl)) (nomark _)) (pe_one (pe_cmpR op_le (pe_ix ix_tup (pv 3) pe_int (fun _ _ => rfl)) pe_int (nomark _))))))))))))), ?_⟩
    try simp only [Rd.cxK]
    walk_at "rd"
    refine ⟨_, _, _, rfl, ha, hb, fun p1 H1 s1 hp1 => ?_⟩
    walk_at "rd"
    refine ⟨_, _, _, rfl, ha, hb, fun p2 H2 s2 hp2 => ?_⟩
    have hp1' := s2 _ _ hp1
    by_cases h0 : b = 0
    · rw [res_div, if_pos h0] at hp1'
      rw [res_mod, if_pos h0] at hp2
      walk_at "rd"
      all_goals first | exact k _ (s1.trans s2) | contradiction
    · have n1 := num_in (fdiv_bd ha h0)
      have hm := fmod_bd (a := a) h0
      have hq : a.fdiv b * b + a.fmod b = a := by rw [Int.mul_comm]; exact Int.mul_fdiv_add_fmod a b
      have n2 := num_in (n := a.fmod b) (by omega)
      rw [res_div, if_neg h0, n1] at hp1'
      rw [res_mod, if_neg h0, n2] at hp2
      walk_at "rd"
      all_goals first
        | contradiction
        | exact absurd hq (by assumption)
        | (exfalso; omega)
        | exact Rd.finT (k _ (s1.trans s2)) (by omega)
theorem ok_law_divided {f : Addr} {fd : FuncData} (mf : mg "_law_divided" = some (.ref f)) (F : FnP K "_law_divided" s_law_divided f fd) (C_compute : Cal P w K mg base "compute" 2 ["sign", "a", "b"] (sp_compute K)) (C_law_same : Cal P w K mg base "_law_same" 2 ["actual", "ending", "value"] (sp_law_same K)) (C_law_is_integer : Cal P w K mg base "_law_is_integer" 1 ["value"] (sp_law_is_integer K)) (z_len : mg "len" = none) (z_isinstance : mg "isinstance" = none) (z_tuple : mg "tuple" = none) : Cal P w K mg base "_law_divided" 3 ["a", "b"] (sp_law_divided K) :=
  ⟨f, fd, mf, F.kp, F.bindsN fun _ _ _ _ _ _ us hl => match us, hl with | [_, _], _ => rfl, fn_law_divided F C_compute C_law_same C_law_is_integer z_len z_isinstance z_tuple⟩

theorem fn_law {f : Addr} {fd : FuncData} (F : FnP K "law" s_law f fd) (C_law_state : Cal P w K mg base "_law_state" 2 ["script", "left"] (sp_law_state K)) (C_law_number : Cal P w K mg base "_law_number" 2 ["state", "place"] (sp_law_number K)) (C_law_next : Cal P w K mg base "_law_next" 1 ["state", "many"] (sp_law_next K)) (C_law_near : Cal P w K mg base "_law_near" 2 ["state", "a"] (sp_law_near K)) (C_law_counted : Cal P w K mg base "_law_counted" 3 ["actual", "number"] (sp_law_counted K)) (C_compute : Cal P w K mg base "compute" 2 ["sign", "a", "b"] (sp_compute K)) (C_law_divided : Cal P w K mg base "_law_divided" 3 ["a", "b"] (sp_law_divided K)) (C_law_same : Cal P w K mg base "_law_same" 2 ["actual", "ending", "value"] (sp_law_same K))  : FnOk P w K mg base CX0 4 f fd ["script"] (sp_law K) := by
  obtain ⟨f_law_state, fd_law_state, m_law_state, k_law_state, b_law_state, G_law_state⟩ := C_law_state.ex
  obtain ⟨f_law_number, fd_law_number, m_law_number, k_law_number, b_law_number, G_law_number⟩ := C_law_number.ex
  obtain ⟨f_law_next, fd_law_next, m_law_next, k_law_next, b_law_next, G_law_next⟩ := C_law_next.ex
  obtain ⟨f_law_near, fd_law_near, m_law_near, k_law_near, b_law_near, G_law_near⟩ := C_law_near.ex
  obtain ⟨f_law_counted, fd_law_counted, m_law_counted, k_law_counted, b_law_counted, G_law_counted⟩ := C_law_counted.ex
  obtain ⟨f_compute, fd_compute, m_compute, k_compute, b_compute, G_compute⟩ := C_compute.ex
  obtain ⟨f_law_divided, fd_law_divided, m_law_divided, k_law_divided, b_law_divided, G_law_divided⟩ := C_law_divided.ex
  obtain ⟨f_law_same, fd_law_same, m_law_same, k_law_same, b_law_same, G_law_same⟩ := C_law_same.ex
  refine F.ok sc_law (fun vs H Q E h => ?_) (fun cdv A outer s H vs Q E hr h => ?_)
  · obtain ⟨a, ns, rfl, _⟩ := h; rfl
  · obtain ⟨a, ns, rfl, hS, h63, k⟩ := h
    refine ⟨_, PSs.nox (pss_cons (ps_set (i := 1) sc_law.nd rfl (Or.inl rfl) (pe_call G_law_state (hr.mono (by decide)) (by rfl) m_law_state k_law_state b_law_state .nil pass0 (pa_cons (pv 0) (pa_cons pe_int pa_nil))))
      (pss_cons (ps_set (i := 2) sc_law.nd rfl (Or.inl rfl) (pe_call G_law_number (hr.mono (by decide)) (by rfl) m_law_number k_law_number b_law_number .nil pass0 (pa_cons (pv 1) (pa_cons pe_int pa_nil))))
      (pss_cons (ps_set (i := 3) sc_law.nd rfl (Or.inl rfl) (pe_call G_law_number (hr.mono (by decide)) (by rfl) m_law_number k_law_number b_law_number .nil pass0 (pa_cons (pv 1) (pa_cons pe_int pa_nil))))
      (pss_cons (ps_if (pt_cmpR op_eq (pe_call G_law_next (hr.mono (by decide)) (by rfl) m_law_next k_law_next b_law_next .nil pass0 (pa_cons (pv 1) (pa_cons pe_int pa_nil))) pe_int (nomark _)) (pss_one (ps_set (i := 3) sc_law.nd rfl (Or.inl rfl) (pe_call G_law_near (hr.mono (by decide)) (by rfl) m_law_near k_law_near b_law_near .nil pass0 (pa_cons (pv 1) (pa_cons (pv 2) pa_nil))))) pss_nil)
      (pss_cons (ps_if (pt_cmpR op_eq (pe_call G_law_next (hr.mono (by decide)) (by rfl) m_law_next k_law_next b_law_next .nil pass0 (pa_cons (pv 1) (pa_cons pe_int pa_nil))) pe_int (nomark _)) (pss_one (ps_set (i := 3) sc_law.nd rfl (Or.inl rfl) (pv 2))) pss_nil)
      (pss_cons (ps_if (PW.pt (pw_or (pt_not (pt_val (pe_call G_law_counted (hr.mono (by decide)) (by rfl) m_law_counted k_law_counted b_law_counted .nil pass0 (pa_cons (pe_call G_compute (hr.mono (by decide)) (by rfl) m_compute k_compute b_compute .nil pass0 (pa_cons pe_str (pa_cons (pv 2) (pa_cons (pv 3) pa_nil)))) (pa_cons (pe_op op_add (pv 2) (pv 3)) pa_nil))))) (pw_or1 (pt_not (pt_val (pe_call G_law_counted (hr.mono (by decide)) (by rfl) m_law_counted k_law_counted b_law_counted .nil pass0 (pa_cons (pe_call G_compute (hr.mono (by decide)) (by rfl) m_compute k_compute b_compute .nil pass0 (pa_cons pe_str (pa_cons (pv 2) (pa_cons (pv 3) pa_nil)))) (pa_cons (pe_op op_sub (pv 2) (pv 3)) pa_nil)))))))) (pss_one (ps_ret pe_bl)) pss_nil)
      (pss_cons (ps_if (PW.pt (pw_or (pt_not (pt_val (pe_call G_law_counted (hr.mono (by decide)) (by rfl) m_law_counted k_law_counted b_law_counted .nil pass0 (pa_cons (pe_call G_compute (hr.mono (by decide)) (by rfl) m_compute k_compute b_compute .nil pass0 (pa_cons pe_str (pa_cons (pv 2) (pa_cons (pv 3) pa_nil)))) (pa_cons (pe_op op_mul (pv 2) (pv 3)) pa_nil))))) (pw_or1 (pt_not (pt_val (pe_call G_law_divided (hr.mono (by decide)) (by rfl) m_law_divided k_law_divided b_law_divided .nil pass0 (pa_cons (pv 2) (pa_cons (pv 3) pa_nil)))))))) (pss_one (ps_ret pe_bl)) pss_nil)
      (pss_cons (ps_if (PW.pt (pw_or (pt_not (pt_val (pe_call G_law_same (hr.mono (by decide)) (by rfl) m_law_same k_law_same b_law_same .nil pass0 (pa_cons (pe_call G_compute (hr.mono (by decide)) (by rfl) m_compute k_compute b_compute .nil pass0 (pa_cons pe_str (pa_cons (pv 2) (pa_cons (pv 3) pa_nil)))) (pa_cons pe_str (pa_cons (pe_cmpR op_eq (pv 2) (pv 3) (nomark _)) pa_nil)))))) (pw_or1 (pt_not (pt_val (pe_call G_law_same (hr.mono (by decide)) (by rfl) m_law_same k_law_same b_law_same .nil pass0 (pa_cons (pe_call G_compute (hr.mono (by decide)) (by rfl) m_compute k_compute b_compute .nil pass0 (pa_cons pe_str (pa_cons (pv 2) (pa_cons (pv 3) pa_nil)))) (pa_cons pe_str (pa_cons (pe_cmpR op_lt (pv 2) (pv 3) (nomark _)) pa_nil))))))))) (pss_one (ps_ret pe_bl)) pss_nil)
      (pss_one (ps_ret (pe_call G_law_same (hr.mono (by decide)) (by rfl) m_law_same k_law_same b_law_same .nil pass0 (pa_cons (pe_call G_compute (hr.mono (by decide)) (by rfl) m_compute k_compute b_compute .nil pass0 (pa_cons pe_str (pa_cons (pv 2) (pa_cons (pv 3) pa_nil)))) (pa_cons pe_str (pa_cons (pe_cmpR op_le (pv 2) (pv 3) (nomark _)) pa_nil)))))))))))))), ?_⟩
    try simp only [Rd.cxK]
    walk_at "rd"
    refine ⟨a, ns, _, rfl, hS, h63, fun st H1 hI1 => ?_⟩
    walk_at "rd"
    refine ⟨H, st, ns, _, rfl, hI1, by omega, fun x H2 hx0 hx1 hI2 => ?_⟩
    walk_at "rd"
    refine ⟨H, st, ns, _, rfl, hI2, by omega, fun y H3 hy0 hy1 hI3 => ?_⟩
    walk_at "rd"
    refine ⟨H, st, ns, _, rfl, hI3, by omega, fun r1 H4 _ _ hI4 _ => ?_⟩
    walk_at "rd"
    · refine ⟨H, st, ns, _, rfl, hI4, ⟨by omega, by omega⟩, fun z H5 hz0 hz1 hI5 => ?_⟩
      walk_at "rd"
      refine ⟨H, st, ns, _, rfl, hI5, by omega, fun r2 H6 _ _ hI6 _ => ?_⟩
      repeat' (first | walk_at "rd1" | walk_at "use2")
      all_goals exact k _
    · refine ⟨H, st, ns, _, rfl, hI4, by omega, fun r2 H6 _ _ hI6 _ => ?_⟩
      repeat' (first | walk_at "rd1" | walk_at "use2")
      all_goals exact k _
theorem ok_law {f : Addr} {fd : FuncData} (mf : mg "law" = some (.ref f)) (F : FnP K "law" s_law f fd) (C_law_state : Cal P w K mg base "_law_state" 2 ["script", "left"] (sp_law_state K)) (C_law_number : Cal P w K mg base "_law_number" 2 ["state", "place"] (sp_law_number K)) (C_law_next : Cal P w K mg base "_law_next" 1 ["state", "many"] (sp_law_next K)) (C_law_near : Cal P w K mg base "_law_near" 2 ["state", "a"] (sp_law_near K)) (C_law_counted : Cal P w K mg base "_law_counted" 3 ["actual", "number"] (sp_law_counted K)) (C_compute : Cal P w K mg base "compute" 2 ["sign", "a", "b"] (sp_compute K)) (C_law_divided : Cal P w K mg base "_law_divided" 3 ["a", "b"] (sp_law_divided K)) (C_law_same : Cal P w K mg base "_law_same" 2 ["actual", "ending", "value"] (sp_law_same K))  : Cal P w K mg base "law" 4 ["script"] (sp_law K) :=
  ⟨f, fd, mf, F.kp, F.bindsN fun _ _ _ _ _ _ us hl => match us, hl with | [_], _ => rfl, fn_law F C_law_state C_law_number C_law_next C_law_near C_law_counted C_compute C_law_divided C_law_same⟩

end
def d_number : He.DefD := ⟨("_number", none), "_number", "_number", defArgs s_number, defBody s_number, defScope s_number, [], []⟩
def d_law_cell : He.DefD := ⟨("_law_cell", none), "_law_cell", "_law_cell", defArgs s_law_cell, defBody s_law_cell, defScope s_law_cell, [], []⟩
def d_law_numbers : He.DefD := ⟨("_law_numbers", none), "_law_numbers", "_law_numbers", defArgs s_law_numbers, defBody s_law_numbers, defScope s_law_numbers, [], []⟩
def d_law_next : He.DefD := ⟨("_law_next", none), "_law_next", "_law_next", defArgs s_law_next, defBody s_law_next, defScope s_law_next, [], []⟩
def d_law_inside : He.DefD := ⟨("_law_inside", none), "_law_inside", "_law_inside", defArgs s_law_inside, defBody s_law_inside, defScope s_law_inside, [], []⟩
def d_law_is_integer : He.DefD := ⟨("_law_is_integer", none), "_law_is_integer", "_law_is_integer", defArgs s_law_is_integer, defBody s_law_is_integer, defScope s_law_is_integer, [], []⟩
def d_compute : He.DefD := ⟨("compute", none), "compute", "compute", defArgs s_compute, defBody s_compute, defScope s_compute, [], []⟩
def d_law_state : He.DefD := ⟨("_law_state", none), "_law_state", "_law_state", defArgs s_law_state, defBody s_law_state, defScope s_law_state, [], []⟩
def d_law_number : He.DefD := ⟨("_law_number", none), "_law_number", "_law_number", defArgs s_law_number, defBody s_law_number, defScope s_law_number, [], []⟩
def d_law_near : He.DefD := ⟨("_law_near", none), "_law_near", "_law_near", defArgs s_law_near, defBody s_law_near, defScope s_law_near, [], []⟩
def d_law_same : He.DefD := ⟨("_law_same", none), "_law_same", "_law_same", defArgs s_law_same, defBody s_law_same, defScope s_law_same, [], []⟩
def d_law_counted : He.DefD := ⟨("_law_counted", none), "_law_counted", "_law_counted", defArgs s_law_counted, defBody s_law_counted, defScope s_law_counted, [], []⟩
def d_law_divided : He.DefD := ⟨("_law_divided", none), "_law_divided", "_law_divided", defArgs s_law_divided, defBody s_law_divided, defScope s_law_divided, [], []⟩
def d_law : He.DefD := ⟨("law", none), "law", "law", defArgs s_law, defBody s_law, defScope s_law, [], []⟩
def fn : List He.DefD := [d_number, d_law_cell, d_law_numbers, d_law_next, d_law_inside, d_law_is_integer, d_compute, d_law_state, d_law_number, d_law_near, d_law_same, d_law_counted, d_law_divided, d_law]
def fa : List He.Fa := [.glo "_number", .glo "_law_cell", .glo "_law_numbers", .glo "_law_next", .glo "_law_inside", .glo "_law_is_integer", .glo "compute", .glo "_law_state", .glo "_law_number", .glo "_law_near", .glo "_law_same", .glo "_law_counted", .glo "_law_divided", .glo "law", .free "abs", .free "bool", .free "int", .free "isinstance", .free "len", .free "range", .free "str", .free "tuple", .int "MOST" 1000000000000000]
abbrev R : PySem.W.OpenRow := PySem.W.OpenLaw.row PySem.Challenge.rw_keptcoin_k21_operators
abbrev hk : PySem.W.Hook := He.hookD 4 fa fn
def ob (s : PySem.W.SharedT) : He.AlD := He.obsDG 4 fa fn (HandSHeadRun.getT s)
theorem ob_eq (s : PySem.W.SharedT) : ob s = hk.obs s.abs := He.obsDG_eq (HandSHeadRun.getT_eq s)
theorem run (w : World) : HandSHeadRun.RunEq R (PySem.W.view R.prog [17]) hk ob 2000 ["MOST", "compute", "_number", "_law_cell", "_law_numbers", "_law_state", "_law_next", "_law_constant", "_law_number", "_law_inside", "_law_near", "_law_is_integer", "_law_same", "_law_counted", "_law_divided"] w := by
  intro os
  kernel_rfl
theorem facts {P : Program} {w : World} {K : PySem.W.Frag} {h : Heap} {mg : Str → Option Value} {f : Addr} (X : K.In h) (G : h.Ns mainGlobals mg) (hfa : mg ("law" : Str) = some (.ref f)) (c : He.SaysD fa fn K) :
    ∃ fd : FuncData, (∀ (s : Shared) (v : Value), BindsTo s fd ⟨[v], []⟩ [("script", v)]) ∧ ∀ base : Heap, K.In base → base.Ns mainGlobals mg → FnOk P w K mg base CX0 4 f fd ["script"] (sp_law K) := by
  obtain ⟨fd_number, F_number⟩ := c.def_ 0 (d := d_number) rfl
  have m_number := He.glo_ok X G (c.fact 0 (f := .glo "_number") rfl)
  obtain ⟨fd_law_cell, F_law_cell⟩ := c.def_ 1 (d := d_law_cell) rfl
  have m_law_cell := He.glo_ok X G (c.fact 1 (f := .glo "_law_cell") rfl)
  obtain ⟨fd_law_numbers, F_law_numbers⟩ := c.def_ 2 (d := d_law_numbers) rfl
  have m_law_numbers := He.glo_ok X G (c.fact 2 (f := .glo "_law_numbers") rfl)
  obtain ⟨fd_law_next, F_law_next⟩ := c.def_ 3 (d := d_law_next) rfl
  have m_law_next := He.glo_ok X G (c.fact 3 (f := .glo "_law_next") rfl)
  obtain ⟨fd_law_inside, F_law_inside⟩ := c.def_ 4 (d := d_law_inside) rfl
  have m_law_inside := He.glo_ok X G (c.fact 4 (f := .glo "_law_inside") rfl)
  obtain ⟨fd_law_is_integer, F_law_is_integer⟩ := c.def_ 5 (d := d_law_is_integer) rfl
  have m_law_is_integer := He.glo_ok X G (c.fact 5 (f := .glo "_law_is_integer") rfl)
  obtain ⟨fd_compute, F_compute⟩ := c.def_ 6 (d := d_compute) rfl
  have m_compute := He.glo_ok X G (c.fact 6 (f := .glo "compute") rfl)
  obtain ⟨fd_law_state, F_law_state⟩ := c.def_ 7 (d := d_law_state) rfl
  have m_law_state := He.glo_ok X G (c.fact 7 (f := .glo "_law_state") rfl)
  obtain ⟨fd_law_number, F_law_number⟩ := c.def_ 8 (d := d_law_number) rfl
  have m_law_number := He.glo_ok X G (c.fact 8 (f := .glo "_law_number") rfl)
  obtain ⟨fd_law_near, F_law_near⟩ := c.def_ 9 (d := d_law_near) rfl
  have m_law_near := He.glo_ok X G (c.fact 9 (f := .glo "_law_near") rfl)
  obtain ⟨fd_law_same, F_law_same⟩ := c.def_ 10 (d := d_law_same) rfl
  have m_law_same := He.glo_ok X G (c.fact 10 (f := .glo "_law_same") rfl)
  obtain ⟨fd_law_counted, F_law_counted⟩ := c.def_ 11 (d := d_law_counted) rfl
  have m_law_counted := He.glo_ok X G (c.fact 11 (f := .glo "_law_counted") rfl)
  obtain ⟨fd_law_divided, F_law_divided⟩ := c.def_ 12 (d := d_law_divided) rfl
  have m_law_divided := He.glo_ok X G (c.fact 12 (f := .glo "_law_divided") rfl)
  obtain ⟨fd_law, F_law⟩ := c.def_ 13 (d := d_law) rfl
  have m_law := He.glo_ok X G (c.fact 13 (f := .glo "law") rfl)
  have z_abs := He.free_ok X G (c.fact 14 (f := .free "abs") rfl)
  have z_bool := He.free_ok X G (c.fact 15 (f := .free "bool") rfl)
  have z_int := He.free_ok X G (c.fact 16 (f := .free "int") rfl)
  have z_isinstance := He.free_ok X G (c.fact 17 (f := .free "isinstance") rfl)
  have z_len := He.free_ok X G (c.fact 18 (f := .free "len") rfl)
  have z_range := He.free_ok X G (c.fact 19 (f := .free "range") rfl)
  have z_str := He.free_ok X G (c.fact 20 (f := .free "str") rfl)
  have z_tuple := He.free_ok X G (c.fact 21 (f := .free "tuple") rfl)
  have W_MOST := He.int_ok X G (c.fact 22 (f := .int "MOST" 1000000000000000) rfl)
  have e := hfa.symm.trans m_law
  cases e
  have b := FunD.bindsA (ps := ["script"]) F_law fun _ _ _ _ _ _ us hl => match us, hl with | [_], _ => rfl
  refine ⟨fd_law, fun s v => b s [v] rfl, fun base _ _ => ?_⟩
  have C_number := ok_number (P := P) (w := w) (base := base) m_number F_number W_MOST
  have C_law_cell := ok_law_cell (P := P) (w := w) (base := base) m_law_cell F_law_cell z_len
  have C_law_numbers := ok_law_numbers (P := P) (w := w) (base := base) m_law_numbers F_law_numbers z_abs z_range z_int
  have C_law_next := ok_law_next (P := P) (w := w) (base := base) m_law_next F_law_next z_int
  have C_law_inside := ok_law_inside (P := P) (w := w) (base := base) m_law_inside F_law_inside 
  have C_law_is_integer := ok_law_is_integer (P := P) (w := w) (base := base) m_law_is_integer F_law_is_integer z_isinstance z_bool z_int
  have C_compute := ok_compute (P := P) (w := w) (base := base) m_compute F_compute C_number
  have C_law_state := ok_law_state (P := P) (w := w) (base := base) m_law_state F_law_state C_law_numbers C_law_cell z_range
  have C_law_number := ok_law_number (P := P) (w := w) (base := base) m_law_number F_law_number C_law_next C_law_cell z_int
  have C_law_near := ok_law_near (P := P) (w := w) (base := base) m_law_near F_law_near C_law_next C_law_inside z_len
  have C_law_same := ok_law_same (P := P) (w := w) (base := base) m_law_same F_law_same C_law_is_integer z_isinstance z_str z_len z_tuple z_bool
  have C_law_counted := ok_law_counted (P := P) (w := w) (base := base) m_law_counted F_law_counted C_law_inside C_law_same
  have C_law_divided := ok_law_divided (P := P) (w := w) (base := base) m_law_divided F_law_divided C_compute C_law_same C_law_is_integer z_len z_isinstance z_tuple
  exact fn_law (P := P) (w := w) (base := base) F_law C_law_state C_law_number C_law_next C_law_near C_law_counted C_compute C_law_divided C_law_same
end NK21
open PySem PySem.W PySem.Calls PyProof.Rows
set_option maxRecDepth 100000 in
set_option maxHeartbeats 0 in
theorem PySem.Challenge.cw_keptcoin_k21_operators_holds : PySem.Challenge.rw_keptcoin_k21_operators.Holds := by
  w_on; o_law
  refine HandSHeadRun.head_any (r := OpenLaw.row PySem.Challenge.rw_keptcoin_k21_operators) (q := view (OpenLaw.row PySem.Challenge.rw_keptcoin_k21_operators).prog [17]) (H := NK21.hk) (ob := NK21.ob) (M := 2000) (loose := ["MOST", "compute", "_number", "_law_cell", "_law_numbers", "_law_state", "_law_next", "_law_constant", "_law_number", "_law_inside", "_law_near", "_law_is_integer", "_law_same", "_law_counted", "_law_divided"]) (d := HandSHeadRun.topDef (OpenLaw.row PySem.Challenge.rw_keptcoin_k21_operators).prog 17) (kwd := []) NK21.ob_eq
    (by kernel_rfl) (fun s => by kernel_rfl) NK21.run (by kernel_rfl) (by kernel_rfl) (by kernel_rfl) (by rfl) (by first | assumption | decide +kernel) (by decide +kernel) ⟨rfl, rfl, rfl, rfl, rfl, by decide +kernel⟩ ?hw ?hc
  case hw => w_witness2
  case hc =>
    refine L2.walk_ofE (l := PySem.Challenge.rw_keptcoin_k21_operators) (n := 63) (k := 4) (x := "script") (CX := L2.CX0) rfl (by decide) (by kernel_rfl) ⟨rfl, by decide, by decide⟩ ?F (fun _ _ _ _ z => z)
    intro w mg fa h Y G hmg0
    obtain ⟨K, KX, c⟩ := Y
    have hmg : mg ("law" : PySem.Str) = some (.ref fa) := by
      have e : (HandSHeadRun.topDef (OpenLaw.row PySem.Challenge.rw_keptcoin_k21_operators).prog 17).name = ("law" : PySem.Str) := by kernel_rfl
      rw [← e]
      exact hmg0
    obtain ⟨fd, hb, hF⟩ := NK21.facts (P := (PySem.Challenge.rw_keptcoin_k21_operators).prog) (w := w) KX G hmg c
    exact ⟨K, fd, NK21.sp_law K, KX, hb, fun H a ns hl _ hS => ⟨a, ns, rfl, hS, hl, fun _ => rfl⟩, hF⟩


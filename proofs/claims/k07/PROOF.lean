import PyProof.Rows.All
import Wide.All
import OpenK.AllK
import Wide.FinOn
import KE.KStateDown
import HandS.Base
import HandS.Call
import HandS.List
import HandS.Comp
import HandS.Ends
import HandS.Dict
import HandS.Iter
import HandS.Text
import HandS.More
import HandS.Words
import HandS.WordsList
import HandS.WordsExc
import HandS.Defaults
import HandS.Wide
import HandS.IsInst
import HandS.Flow
import HandS.TupAny
import HandS.Head0
import HandS.Head1
import HandS.Head2
import HandS.HeadEnd
import HandS.HeadHook1
import HandS.HeadHook2
import HandS.HeadHook3
import HandS.HeadHook4
import HandS.Style
import HandS.Steps
import PySem.Challenge.RW_keptcoin_k07_tokens
set_option Elab.async false
set_option linter.all false
set_option maxRecDepth 100000
/-! Reading rules: each reading of the hand layer as one step towards what follows. -/
namespace Rd
open PySem PySem.Spec PyProof.Rows L2

/-! ### heaps -/
theorem same_new {H : Hp} {p : Addr} {o : HO} (h : H p = none) : Same H (upd H p o) := fun b x e => by
  rw [upd_ne (ne_of_none e h)]
  exact e
/-- an object that H does not know may change -/
theorem same_mut {H H' : Hp} {p : Addr} {o : HO} (e : Same H H') (h : H p = none) : Same H (upd H' p o) := fun a u ha => by
  rw [upd_ne (ne_of_none ha h)]
  exact e a u ha
theorem same_tup {K : PySem.W.Frag} {H H' : Hp} {a : Addr} {xs : List V} (e : Same H H') (h : SqT K H a xs) : SqT K H' a xs := by
  rcases h with (h | ⟨o, h⟩) | h
  · exact .inl (.inl (e _ _ h))
  · exact .inl (.inr ⟨o, e _ _ h⟩)
  · exact .inr h
theorem nl {K : PySem.W.Frag} {H : Hp} {p a : Addr} {o : HO} {xs : List V} (hp : H p = none) (h : SqL K H a xs) : SqL K (upd H p o) a xs := (same_new hp).seq h
theorem nt {K : PySem.W.Frag} {H : Hp} {p a : Addr} {o : HO} {xs : List V} (hp : H p = none) (h : SqT K H a xs) : SqT K (upd H p o) a xs := same_tup (same_new hp) h
theorem nh {H : Hp} {p a : Addr} {o u : HO} (hp : H p = none) (h : H a = some u) : upd H p o a = some u := same_new hp _ _ h
theorem slT {K : PySem.W.Frag} {H : Hp} {p : Addr} {xs : List V} : SqT K (upd H p (.tup xs)) p xs := SqT.of upd_same
theorem slL {K : PySem.W.Frag} {H : Hp} {p : Addr} {xs : List V} : SqL K (upd H p (.lst xs)) p xs := SqL.of upd_same
theorem small {n : Nat} (h : n ≤ 100000) : n ≤ sizeLine := Nat.le_trans h (by decide)
theorem smallT {n : Nat} (h : n < 100000) : n < sizeLine := Nat.lt_of_lt_of_le h (by decide)

theorem ul {K : PySem.W.Frag} {H : Hp} {p a : Addr} {o : HO} {xs : List V} (hp : a ≠ p) (h : SqL K H a xs) : SqL K (upd H p o) a xs := by
  rcases h with (h | ⟨u, h⟩) | h
  · exact .inl (.inl ((upd_ne hp).trans h))
  · exact .inl (.inr ⟨u, (upd_ne hp).trans h⟩)
  · exact .inr h
theorem ut {K : PySem.W.Frag} {H : Hp} {p a : Addr} {o : HO} {xs : List V} (hp : a ≠ p) (h : SqT K H a xs) : SqT K (upd H p o) a xs := by
  rcases h with (h | ⟨u, h⟩) | h
  · exact .inl (.inl ((upd_ne hp).trans h))
  · exact .inl (.inr ⟨u, (upd_ne hp).trans h⟩)
  · exact .inr h
theorem uh {H : Hp} {p a : Addr} {o u : HO} (hp : a ≠ p) (h : H a = some u) : upd H p o a = some u := (upd_ne hp).trans h
/-! ### expressions -/
section
variable {σ : L2.St} {H : Hp} {Q : VK} {ta tb te tc : TE} {K : PySem.W.Frag}
theorem var {i : Nat} {v : V} (h : σ[i]? = some (some v)) (k : Q v H) : tVar i σ H Q := ⟨v, h, k⟩
theorem cst {v : V} (k : Q v H) : tC v σ H Q := k
theorem op {r : R2} (k : ta σ H fun x H1 => tb σ H1 fun y H2 => r x y H2 Q) : tOp r ta tb σ H Q := k
theorem un {r : V → Hp → VK → Prop} (k : ta σ H fun x H1 => r x H1 Q) : tUn r ta σ H Q := k
theorem opI0 {g : Int → Int → V} {i j : Int} (k : Q (g i j) H) : rI0 g (.int i) (.int j) H Q := ⟨i, j, rfl, rfl, k⟩
theorem opI {C : Int → Int → Prop} {g : Int → Int → V} {i j : Int} (c : C i j) (k : Q (g i j) H) : rI C g (.int i) (.int j) H Q := ⟨i, j, rfl, rfl, c, k⟩
theorem opU {g : Int → V} {i : Int} (k : Q (g i) H) : rU g (.int i) H Q := ⟨i, rfl, k⟩
theorem eqI {i j : Int} (k : Q (.bl (decide (i = j))) H) : rEq (.int i) (.int j) H Q := ⟨rfl, by
  have e : decide (V.int i = V.int j) = decide (i = j) := by simp
  rw [e]; exact k⟩
theorem neI {i j : Int} (k : Q (.bl (!decide (i = j))) H) : rNe (.int i) (.int j) H Q := ⟨rfl, by
  have e : decide (V.int i = V.int j) = decide (i = j) := by simp
  rw [e]; exact k⟩
theorem eqS {i j : Str} (k : Q (.bl (decide (i = j))) H) : rEq (.str i) (.str j) H Q := ⟨rfl, by
  have e : decide (V.str i = V.str j) = decide (i = j) := by simp
  rw [e]; exact k⟩
theorem neS {i j : Str} (k : Q (.bl (!decide (i = j))) H) : rNe (.str i) (.str j) H Q := ⟨rfl, by
  have e : decide (V.str i = V.str j) = decide (i = j) := by simp
  rw [e]; exact k⟩
theorem eqB {i j : Bool} (k : Q (.bl (decide (i = j))) H) : rEq (.bl i) (.bl j) H Q := ⟨rfl, by
  have e : decide (V.bl i = V.bl j) = decide (i = j) := by simp
  rw [e]; exact k⟩
theorem neB {i j : Bool} (k : Q (.bl (!decide (i = j))) H) : rNe (.bl i) (.bl j) H Q := ⟨rfl, by
  have e : decide (V.bl i = V.bl j) = decide (i = j) := by simp
  rw [e]; exact k⟩
theorem chain {r r' : R2} (k : ta σ H fun x H1 => tb σ H1 fun y H2 => r x y H2 fun z H3 => ∃ k, z = .bl k ∧ (if k = true then tc σ H3 fun w' H4 => r' y w' H4 Q else Q (.bl false) H3)) : tChain r r' ta tb tc σ H Q := k
theorem bl {b : Bool} {P : Bool → Prop} (k : P b) : ∃ c, V.bl b = V.bl c ∧ P c := ⟨b, rfl, k⟩
theorem andV (k : ta σ H fun x H1 => ∃ c, x = .bl c ∧ if c = true then tb σ H1 Q else Q (.bl false) H1) : tAndV ta tb σ H Q := k
theorem orV (k : ta σ H fun x H1 => ∃ c, x = .bl c ∧ if c = true then Q (.bl true) H1 else tb σ H1 Q) : tOrV ta tb σ H Q := k
theorem notV (k : ta σ H fun x H1 => ∃ c, x = .bl c ∧ Q (.bl (!c)) H1) : tNotV ta σ H Q := k
theorem ifE {t : TT} (k : t σ H fun c H1 => if c = true then ta σ H1 Q else tb σ H1 Q) : tIf t ta tb σ H Q := k
theorem nil {Q : List V → Hp → Prop} (k : Q [] H) : tNil σ H Q := k
theorem cons {tr : TA} {Q : List V → Hp → Prop} (k : ta σ H fun x H1 => tr σ H1 fun xs H2 => Q (x :: xs) H2) : tCons ta tr σ H Q := k
theorem callN {sp : Sp} {E : XK} {t : TA} (k : t σ H fun vs H1 => sp vs H1 Q E) : tCall sp [] E t σ H Q := by
  unfold tCall
  simp only [List.append_nil]
  exact k
theorem cb {r : List V → Hp → VK → Prop} {t : TA} (k : t σ H fun vs H1 => r vs H1 Q) : tCB r t σ H Q := k
theorem tup {t : TA} (k : t σ H fun xs H1 => xs.length ≤ sizeLine ∧ ∀ p, H1 p = none → Q (.ref p) (upd H1 p (.tup xs))) : tTup t σ H Q := k
theorem lst {t : TA} (k : t σ H fun xs H1 => xs.length ≤ sizeLine ∧ ∀ p, H1 p = none → Q (.ref p) (upd H1 p (.lst xs))) : tLst t σ H Q := k
theorem ixL {p : Addr} {xs : List V} {i : Int} {v : V} (h : SqL K H p xs) (a : atI xs i = some v) (k : Q v H) : rIxL K (.ref p) (.int i) H Q := ⟨p, xs, i, v, rfl, rfl, h, a, k⟩
theorem ixT {p : Addr} {xs : List V} {i : Int} {v : V} (h : SqT K H p xs) (a : atI xs i = some v) (k : Q v H) : rIxT K (.ref p) (.int i) H Q := ⟨p, xs, i, v, rfl, rfl, h, a, k⟩
theorem sl {r : V → Option Int → Option Int → Hp → VK → Prop} {tl th : TO} (k : te σ H fun x H1 => tl σ H1 fun lo H2 => th σ H2 fun hi H3 => r x lo hi H3 Q) : tSl r te tl th σ H Q := k
/-! built-ins whose readings are written out: each by a name -/
def LenK (K : PySem.W.Frag) (xs : List V) (H : Hp) (Q : VK) : Prop := ∃ p ys, xs = [.ref p] ∧ (SqL K H p ys ∨ SqT K H p ys) ∧ Q (.int ys.length) H
def LenSK (xs : List V) (H : Hp) (Q : VK) : Prop := ∃ z : Str, xs = [.str z] ∧ z.length ≤ sizeLine ∧ Q (.int z.length) H
def IntK (xs : List V) (H : Hp) (Q : VK) : Prop := (∃ i, xs = [.int i] ∧ Q (.int i) H) ∨ ∃ k, xs = [.bl k] ∧ Q (.int (if k then 1 else 0)) H
def AbsK (xs : List V) (H : Hp) (Q : VK) : Prop := ∃ i, xs = [.int i] ∧ Q (.int (if i < 0 then -i else i)) H
def StrIK (xs : List V) (H : Hp) (Q : VK) : Prop := ∃ i, xs = [.int i] ∧ i.natAbs.log2 < 1920 ∧ Q (.str (toString i)) H
def LstK (K : PySem.W.Frag) (xs : List V) (H : Hp) (Q : VK) : Prop := ∃ p ys, xs = [.ref p] ∧ (SqL K H p ys ∨ SqT K H p ys) ∧ ∀ l, H l = none → Q (.ref l) (upd H l (.lst ys))
def TupK (K : PySem.W.Frag) (xs : List V) (H : Hp) (Q : VK) : Prop := ∃ p ys, xs = [.ref p] ∧ ((SqL K H p ys ∧ ∀ l, H l = none → Q (.ref l) (upd H l (.tup ys))) ∨ (SqT K H p ys ∧ Q (.ref p) H))
def Max2K (xs : List V) (H : Hp) (Q : VK) : Prop := ∃ i j, xs = [.int i, .int j] ∧ Q (.int (if j > i then j else i)) H
def Min2K (xs : List V) (H : Hp) (Q : VK) : Prop := ∃ i j, xs = [.int i, .int j] ∧ Q (.int (if j < i then j else i)) H
theorem cbLen {t : TA} (k : t σ H fun vs H1 => LenK K vs H1 Q) : tCB (fun xs H Q => ∃ p ys, xs = [V.ref p] ∧ (SqL K H p ys ∨ SqT K H p ys) ∧ Q (.int ys.length) H) t σ H Q := k
theorem cbLenS {t : TA} (k : t σ H fun vs H1 => LenSK vs H1 Q) : tCB (fun xs H Q => ∃ z, xs = [V.str z] ∧ z.length ≤ sizeLine ∧ Q (.int z.length) H) t σ H Q := k
theorem cbInt {t : TA} (k : t σ H fun vs H1 => IntK vs H1 Q) : tCB (fun xs H Q => (∃ i, xs = [V.int i] ∧ Q (.int i) H) ∨ ∃ k, xs = [V.bl k] ∧ Q (.int (if k then 1 else 0)) H) t σ H Q := k
theorem cbAbs {t : TA} (k : t σ H fun vs H1 => AbsK vs H1 Q) : tCB (fun xs H Q => ∃ i, xs = [V.int i] ∧ Q (.int (if i < 0 then -i else i)) H) t σ H Q := k
theorem cbStrI {t : TA} (k : t σ H fun vs H1 => StrIK vs H1 Q) : tCB (fun xs H Q => ∃ i, xs = [V.int i] ∧ i.natAbs.log2 < 1920 ∧ Q (.str (toString i)) H) t σ H Q := k
theorem cbLst {t : TA} (k : t σ H fun vs H1 => LstK K vs H1 Q) : tCB (fun xs H Q => ∃ p ys, xs = [V.ref p] ∧ (SqL K H p ys ∨ SqT K H p ys) ∧ ∀ l, H l = none → Q (.ref l) (upd H l (.lst ys))) t σ H Q := k
theorem cbTup {t : TA} (k : t σ H fun vs H1 => TupK K vs H1 Q) : tCB (fun xs H Q => ∃ p ys, xs = [V.ref p] ∧ ((SqL K H p ys ∧ ∀ l, H l = none → Q (.ref l) (upd H l (.tup ys))) ∨ (SqT K H p ys ∧ Q (.ref p) H))) t σ H Q := k
theorem cbMax2 {t : TA} (k : t σ H fun vs H1 => Max2K vs H1 Q) : tCB (fun xs H Q => ∃ i j, xs = [V.int i, V.int j] ∧ Q (.int (if j > i then j else i)) H) t σ H Q := k
theorem cbMin2 {t : TA} (k : t σ H fun vs H1 => Min2K vs H1 Q) : tCB (fun xs H Q => ∃ i j, xs = [V.int i, V.int j] ∧ Q (.int (if j < i then j else i)) H) t σ H Q := k
def IsNK (x y : V) (H : Hp) (Q : VK) : Prop := y = .non ∧ Q (.bl (decide (x = .non))) H
def NotNK (x y : V) (H : Hp) (Q : VK) : Prop := y = .non ∧ Q (.bl (!decide (x = .non))) H
def AddSK (x y : V) (H : Hp) (Q : VK) : Prop := ∃ i j, x = .str i ∧ y = .str j ∧ i.length + j.length ≤ sizeLine ∧ Q (.str (i ++ j)) H
theorem opIsN (k : ta σ H fun x H1 => tb σ H1 fun y H2 => IsNK x y H2 Q) : tOp (fun x y H Q => y = V.non ∧ Q (.bl (decide (x = .non))) H) ta tb σ H Q := k
theorem opNotN (k : ta σ H fun x H1 => tb σ H1 fun y H2 => NotNK x y H2 Q) : tOp (fun x y H Q => y = V.non ∧ Q (.bl (!decide (x = .non))) H) ta tb σ H Q := k
theorem opAddS (k : ta σ H fun x H1 => tb σ H1 fun y H2 => AddSK x y H2 Q) : tOp (fun x y H Q => ∃ i j, x = V.str i ∧ y = V.str j ∧ i.length + j.length ≤ sizeLine ∧ Q (.str (i ++ j)) H) ta tb σ H Q := k
theorem addS {i j : Str} (h : i.length + j.length ≤ 100000) (k : Q (.str (i ++ j)) H) : AddSK (.str i) (.str j) H Q := ⟨i, j, rfl, rfl, small h, k⟩
theorem isN' {x : V} (k : Q (.bl (decide (x = .non))) H) : IsNK x .non H Q := ⟨rfl, k⟩
theorem notN' {x : V} (k : Q (.bl (!decide (x = .non))) H) : NotNK x .non H Q := ⟨rfl, k⟩
theorem lenS {z : Str} (h : z.length ≤ 100000) (k : Q (.int z.length) H) : LenSK [.str z] H Q := ⟨z, rfl, small h, k⟩
theorem intB {b : Bool} (k : Q (.int (if b then 1 else 0)) H) : IntK [.bl b] H Q := .inr ⟨b, rfl, k⟩
theorem lstL {p : Addr} {ys : List V} (h : SqL K H p ys) (k : ∀ l, H l = none → Q (.ref l) (upd H l (.lst ys))) : LstK K [.ref p] H Q := ⟨p, ys, rfl, .inl h, k⟩
theorem lstT {p : Addr} {ys : List V} (h : SqT K H p ys) (k : ∀ l, H l = none → Q (.ref l) (upd H l (.lst ys))) : LstK K [.ref p] H Q := ⟨p, ys, rfl, .inr h, k⟩
theorem tupL {p : Addr} {ys : List V} (h : SqL K H p ys) (k : ∀ l, H l = none → Q (.ref l) (upd H l (.tup ys))) : TupK K [.ref p] H Q := ⟨p, ys, rfl, .inl ⟨h, k⟩⟩
theorem tupT {p : Addr} {ys : List V} (h : SqT K H p ys) (k : Q (.ref p) H) : TupK K [.ref p] H Q := ⟨p, ys, rfl, .inr ⟨h, k⟩⟩
theorem max2 {i j : Int} (k : ∀ z : Int, i ≤ z → j ≤ z → (z = i ∨ z = j) → Q (.int z) H) : Max2K [.int i, .int j] H Q := ⟨i, j, rfl, k _ (by split <;> omega) (by split <;> omega) (by split <;> omega)⟩
theorem min2 {i j : Int} (k : ∀ z : Int, z ≤ i → z ≤ j → (z = i ∨ z = j) → Q (.int z) H) : Min2K [.int i, .int j] H Q := ⟨i, j, rfl, k _ (by split <;> omega) (by split <;> omega) (by split <;> omega)⟩
theorem lenL {p : Addr} {ys : List V} {n : Nat} (h : SqL K H p ys) (e : ys.length = n) (k : Q (.int n) H) : LenK K [.ref p] H Q := ⟨p, ys, rfl, .inl h, by rw [e]; exact k⟩
theorem lenT {p : Addr} {ys : List V} {n : Nat} (h : SqT K H p ys) (e : ys.length = n) (k : Q (.int n) H) : LenK K [.ref p] H Q := ⟨p, ys, rfl, .inr h, by rw [e]; exact k⟩
theorem int1 {i : Int} (k : Q (.int i) H) : IntK [.int i] H Q := .inl ⟨i, rfl, k⟩
theorem abs1 {i : Int} (k : ∀ z : Int, 0 ≤ z → (z = i ∨ z = -i) → Q (.int z) H) : AbsK [.int i] H Q := ⟨i, rfl, k _ (by split <;> omega) (by split <;> omega)⟩
theorem len {xs : List V} {P : Prop} (h : xs.length ≤ 100000) (k : P) : xs.length ≤ sizeLine ∧ P := ⟨small h, k⟩
theorem pw {a e z : Int} (c : CPow a e) (h : a ^ e.toNat = z) (k : Q (.int z) H) : rI CPow (fun i j => .int (i ^ j.toNat)) (.int a) (.int e) H Q := ⟨a, e, rfl, rfl, c, by subst h; exact k⟩
theorem isi {x c : V} {t u : Value} {b : Bool} (hc : ClsV c u) (ht : TyX K H x t) (e : PySem.W.kitOne K t u = some b) (k : Q (.bl b) H) : rIsi K [x, c] H Q := ⟨x, c, t, u, b, rfl, hc, ht, e, k⟩
/-- a new value of a kind at the end of a derivation -/
theorem fresh {P : Addr → Hp → Prop} {o : HO} (k : ∀ p H', H p = none → H' = upd H p o → P p H') : ∀ p, H p = none → P p (upd H p o) := fun p hp => k p _ hp rfl
end

/-! ### tests, statements -/
section
variable {σ : L2.St} {H : Hp} {n b c : L2.St → Hp → Prop} {r : VK} {ta te : TE} {t u : TS} {D : Ends} {tc td : TT}
theorem tst {Q : Bool → Hp → Prop} (k : te σ H fun x H' => ∃ c, x = .bl c ∧ Q c H') : tTest te σ H Q := k
theorem tB_ {Q : Bool → Hp → Prop} (k : te σ H fun x H' => ∃ c, x = .bl c ∧ Q c H') : tB te σ H Q := k
theorem and_ {Q : Bool → Hp → Prop} (k : tc σ H fun c H1 => if c = true then td σ H1 Q else Q false H1) : tAnd tc td σ H Q := k
theorem or_ {Q : Bool → Hp → Prop} (k : tc σ H fun c H1 => if c = true then Q true H1 else td σ H1 Q) : tOr tc td σ H Q := k
theorem not_ {Q : Bool → Hp → Prop} (k : tc σ H fun c H1 => Q (!c) H1) : tNot tc σ H Q := k
theorem seq (k : t ⟨u ⟨n, r, b, c⟩, r, b, c⟩ σ H) : tSeq t u ⟨n, r, b, c⟩ σ H := k
theorem asg {i : Nat} (k : te σ H fun x H1 => n (σ.set i (some x)) H1) : tAsg te (gName i) ⟨n, r, b, c⟩ σ H := k
theorem asgS {to ti : TE} {ts : TSet} (k : te σ H fun x H1 => to σ H1 fun o H2 => ti σ H2 fun i H3 => ts o i x H3 fun H4 => n σ H4) : tAsg te (gSub to ti ts) ⟨n, r, b, c⟩ σ H := k
theorem ret (k : te σ H r) : tRet te ⟨n, r, b, c⟩ σ H := k
theorem retN (k : r .non H) : tRetN ⟨n, r, b, c⟩ σ H := k
theorem drop (k : te σ H fun _ H1 => n σ H1) : tDrop te ⟨n, r, b, c⟩ σ H := k
theorem next (k : n σ H) : tNext ⟨n, r, b, c⟩ σ H := k
theorem brk (k : b σ H) : tBreak ⟨n, r, b, c⟩ σ H := k
theorem cont (k : c σ H) : tCont ⟨n, r, b, c⟩ σ H := k
theorem ifS (k : tc σ H fun x H1 => if x = true then t D σ H1 else u D σ H1) : tIfS tc t u D σ H := k
theorem aug {i : Nat} {ti : TIp} {x : V} (h : σ[i]? = some (some x)) (k : te σ H fun y H1 => ti x y H1 fun z H2 => n (σ.set i (some z)) H2) : tAug i te ti ⟨n, r, b, c⟩ σ H := ⟨x, h, k⟩
theorem augI {f : Int → Int → Int} {i j : Int} {Q : VK} (k : Q (.int (f i j)) H) : ipI f (.int i) (.int j) H Q := ⟨i, j, rfl, rfl, k⟩
theorem iteT {A B : Prop} (h : A) : if true = true then A else B := by rw [if_pos rfl]; exact h
theorem iteF {A B : Prop} (h : B) : if false = true then A else B := by rw [if_neg Bool.false_ne_true]; exact h
theorem iteD {p : Prop} [Decidable p] {A B : Prop} (h1 : p → A) (h2 : ¬ p → B) : if decide p = true then A else B := by
  by_cases h : p
  · rw [decide_eq_true h]; exact iteT (h1 h)
  · rw [decide_eq_false h]; exact iteF (h2 h)
theorem iteN {p : Prop} [Decidable p] {A B : Prop} (h1 : ¬ p → A) (h2 : p → B) : if (!decide p) = true then A else B := by
  by_cases h : p
  · rw [decide_eq_true h]; exact iteF (h2 h)
  · rw [decide_eq_false h]; exact iteT (h1 h)
theorem iteB {x : Bool} {A B : Prop} (h1 : x = true → A) (h2 : x = false → B) : if x = true then A else B := by
  cases x
  · exact iteF (h2 rfl)
  · exact iteT (h1 rfl)
/-- xs.append(v) -/
theorem app {K : PySem.W.Frag} {to : TE} {t : TA} {Q : VK} (k : to σ H fun x H1 => tyV K "list" x H1 ∧ t σ H1 fun xs H2 => rAppend x xs H2 Q) : tBM K "list" rAppend to t σ H Q := k
theorem tyL {K : PySem.W.Frag} {p : Addr} {xs : List V} {P : Prop} (h : H p = some (.lst xs)) (k : P) : tyV K "list" (.ref p) H ∧ P := ⟨.inl ⟨rfl, _, SqL.of h⟩, k⟩
theorem appd {l : Addr} {xs : List V} {v : V} {Q : VK} (h : H l = some (.lst xs)) (hz : xs.length < 100000) (k : Q .non (upd H l (.lst (xs ++ [v])))) : rAppend (.ref l) [v] H Q := ⟨l, xs, v, rfl, rfl, h, smallT hz, k⟩
theorem setL {p : Addr} {xs : List V} {i : Int} {j : Nat} {v : V} {Q : Hp → Prop} (h : H p = some (.lst xs)) (e : ixN xs.length i = some j) (k : Q (upd H p (.lst (xs.set j v)))) : rSetL (.ref p) (.int i) v H Q := ⟨p, xs, i, j, rfl, rfl, h, e, k⟩
theorem ixN_nat {n j : Nat} (hj : j < n) : ixN n (j : Int) = some j := by
  unfold ixN
  rw [if_pos (by omega), if_pos (by omega)]
  simp
theorem ixN_lit {n : Nat} {i : Int} (h0 : 0 ≤ i) (h : i < n) : ixN n i = some i.toNat := by
  have := @ixN_nat n i.toNat (by omega)
  rwa [Int.toNat_of_nonneg h0] at this
theorem atI_of {α : Type} {xs : List α} {i : Int} {v : α} (h0 : 0 ≤ i) (h : xs[i.toNat]? = some v) : atI xs i = some v := by
  have e := atI_nat (xs := xs) (j := i.toNat) h
  rwa [Int.toNat_of_nonneg h0] at e

theorem atI_ints {ns : List Int} {i : Int} (h0 : 0 ≤ i) (h : i < (ns.length : Int)) : atI (ns.map V.int) i = some (.int (ns.getD i.toNat 0)) := atI_of h0 (by
  have h1 : i.toNat < ns.length := by omega
  rw [List.getElem?_map, List.getD_eq_getElem?_getD, List.getElem?_eq_getElem h1]
  rfl)
theorem getD_bd {ns : List Int} {i : Nat} {lo hi : Int} (hb : ∀ x ∈ ns, lo ≤ x ∧ x < hi) (h : i < ns.length) : lo ≤ ns.getD i 0 ∧ ns.getD i 0 < hi := by
  rw [List.getD_eq_getElem?_getD, List.getElem?_eq_getElem h]
  exact hb _ (List.getElem_mem h)
theorem bd_app {ns : List Int} {x lo hi : Int} (hb : ∀ x ∈ ns, lo ≤ x ∧ x < hi) (hx : lo ≤ x ∧ x < hi) : ∀ y ∈ ns ++ [x], lo ≤ y ∧ y < hi := fun y hy => by
  rcases List.mem_append.mp hy with h | h
  · exact hb y h
  · rw [List.mem_singleton.mp h]; exact hx
theorem cxK {CX : CXT} {P : Program} {w : World} {K : PySem.W.Frag} {mg : Str → Option Value} {base : Heap} {N : List Str} {q : Str} {sc : Scope} {f : Addr} {cdv : Value} {A : Around} {outer : List Env} {s : Shared} {H : Hp} {E : XK} : (cxOf CX P w K mg base N q sc f cdv A outer s H E).K = K := rfl

theorem finT {p : Prop} [Decidable p] {Q : VK} {H : Hp} (k : Q (.bl true) H) (hp : p) : Q (.bl (decide p)) H := by rw [decide_eq_true hp]; exact k
theorem pushInts {H' : Hp} {p : Addr} {nums : List Int} {x : Int} : upd H' p (.lst (nums.map V.int ++ [.int x])) p = some (.lst ((nums ++ [x]).map V.int)) := by rw [upd_same, List.map_append]; rfl

/-! ### loops -/
/-- what a for asks of what it walks -/
def ForJ (g : TG) (tb : TS) (D : Ends) (σ : L2.St) (J : It) (H1 : Hp) : Prop := ∃ W : Nat → Nat → L2.St → Hp → Prop, (∃ m, W 0 m σ H1) ∧ ∀ i m σ H, W i m σ H →
  (J.stop i H ∧ D.nx σ H) ∨ (J.go i H ∧ ∃ N : L2.St → Hp → Prop, (∀ σ' H', N σ' H' → ∃ m', m' < m ∧ W (i + 1) m' σ' H') ∧ ∀ x H', J.yld i H x H' → g x σ H' fun σ2 H2 => tb { D with nx := N, ct := N, bk := D.nx } σ2 H2)
theorem for_ {wi : TI} {g : TG} {tb : TS} (k : wi σ H fun J H1 => ForJ g tb D σ J H1) : tFor wi g tb D σ H := k
theorem iR1 {tl : TA} {R : It → Hp → Prop} (k : tl σ H fun vs H1 => ∃ j : Int, vs = [.int j] ∧ -(2 ^ 62) ≤ j ∧ j < 2 ^ 62 ∧ R (Itr 0 j.toNat) H1) : iRng1 tl σ H R := k
theorem iR2 {tl : TA} {R : It → Hp → Prop} (k : tl σ H fun vs H1 => ∃ i j : Int, vs = [.int i, .int j] ∧ (-(2 ^ 62) ≤ i ∧ i < 2 ^ 62 ∧ -(2 ^ 62) ≤ j ∧ j < 2 ^ 62) ∧ R (Itr i (j - i).toNat) H1) : iRng2 tl σ H R := k
theorem iL {K : PySem.W.Frag} {tl : TE} {R : It → Hp → Prop} (k : tl σ H fun x H1 => ∃ a, x = .ref a ∧ (∃ xs, SqL K H1 a xs) ∧ R (Itl K a) H1) : iList K tl σ H R := k
theorem iT {K : PySem.W.Frag} {tl : TE} {R : It → Hp → Prop} (k : tl σ H fun x H1 => ∃ a, x = .ref a ∧ (∃ xs, SqT K H1 a xs) ∧ R (Itt K a) H1) : iTup K tl σ H R := k
/-- for name in range(m), the argument known -/
theorem rng1 {m : Int} {tb : TS} {j : Nat} (Pv : Nat → L2.St → Hp → Prop) (hb : -1000000 ≤ m ∧ m ≤ 1000000) (h0 : Pv 0 σ H)
    (hs : ∀ (i : Nat) (σ' : L2.St) (H' : Hp), (i : Int) < m → Pv i σ' H' → tb ⟨Pv (i + 1), r, n, Pv (i + 1)⟩ (σ'.set j (some (.int (i : Int)))) H') (hd : ∀ σ' H', Pv m.toNat σ' H' → n σ' H') :
    ∃ q : Int, [V.int m] = [V.int q] ∧ -(2 ^ 62) ≤ q ∧ q < 2 ^ 62 ∧ ForJ (gName j) tb ⟨n, r, b, c⟩ σ (Itr 0 q.toNat) H := by
  obtain ⟨hb1, hb2⟩ := hb
  have p62 : (2 : Int) ^ 62 = 4611686018427387904 := by decide
  refine ⟨m, rfl, by omega, by omega, for_range (lo := 0) (n := m.toNat) Pv h0 (fun i σ' H' hi p => ?_) hd⟩
  have e0 : (0 : Int) + (i : Int) = (i : Int) := Int.zero_add _
  show tb _ (σ'.set j (some (.int ((0 : Int) + (i : Int))))) H'
  rw [e0]
  exact hs i σ' H' (by omega) p
theorem rng2 {lo m : Int} {tb : TS} {j : Nat} (Pv : Nat → L2.St → Hp → Prop) (hb : -1000000 ≤ lo ∧ lo ≤ 1000000 ∧ -1000000 ≤ m ∧ m ≤ 1000000) (h0 : Pv 0 σ H)
    (hs : ∀ (i : Nat) (σ' : L2.St) (H' : Hp), lo + (i : Int) < m → Pv i σ' H' → tb ⟨Pv (i + 1), r, n, Pv (i + 1)⟩ (σ'.set j (some (.int (lo + (i : Int))))) H') (hd : ∀ σ' H', Pv (m - lo).toNat σ' H' → n σ' H') :
    ∃ p q : Int, [V.int lo, V.int m] = [V.int p, V.int q] ∧ (-(2 ^ 62) ≤ p ∧ p < 2 ^ 62 ∧ -(2 ^ 62) ≤ q ∧ q < 2 ^ 62) ∧ ForJ (gName j) tb ⟨n, r, b, c⟩ σ (Itr p (q - p).toNat) H := by
  obtain ⟨hb1, hb2, hb3, hb4⟩ := hb
  have p62 : (2 : Int) ^ 62 = 4611686018427387904 := by decide
  refine ⟨lo, m, rfl, ⟨by omega, by omega, by omega, by omega⟩, for_range (lo := lo) (n := (m - lo).toNat) Pv h0 (fun i σ' H' hi p => ?_) hd⟩
  exact hs i σ' H' (by omega) p
/-- for .. in a list, a tuple -/
theorem forL {K : PySem.W.Frag} {a : Addr} {xs : List V} {g : TG} {tb : TS} (Pv : Nat → L2.St → Hp → Prop) (h : SqL K H a xs) (h0 : Pv 0 σ H) (hl : ∀ i σ H, i ≤ xs.length → Pv i σ H → SqL K H a xs)
    (hs : ∀ (i : Nat) (x : V) (σ' : L2.St) (H' : Hp), xs[i]? = some x → Pv i σ' H' → g x σ' H' fun σ2 H2 => tb ⟨Pv (i + 1), r, n, Pv (i + 1)⟩ σ2 H2) (hd : ∀ σ' H', Pv xs.length σ' H' → n σ' H') :
    ∃ p, V.ref a = V.ref p ∧ (∃ ys, SqL K H p ys) ∧ ForJ g tb ⟨n, r, b, c⟩ σ (Itl K p) H := ⟨a, rfl, ⟨_, h⟩, for_list Pv h0 hl hs hd⟩
theorem forT {K : PySem.W.Frag} {a : Addr} {xs : List V} {g : TG} {tb : TS} (Pv : Nat → L2.St → Hp → Prop) (h : SqT K H a xs) (h0 : Pv 0 σ H) (hl : ∀ i σ H, i ≤ xs.length → Pv i σ H → SqT K H a xs)
    (hs : ∀ (i : Nat) (x : V) (σ' : L2.St) (H' : Hp), xs[i]? = some x → Pv i σ' H' → g x σ' H' fun σ2 H2 => tb ⟨Pv (i + 1), r, n, Pv (i + 1)⟩ σ2 H2) (hd : ∀ σ' H', Pv xs.length σ' H' → n σ' H') :
    ∃ p, V.ref a = V.ref p ∧ (∃ ys, SqT K H p ys) ∧ ForJ g tb ⟨n, r, b, c⟩ σ (Itt K p) H := ⟨a, rfl, ⟨_, h⟩, for_tup Pv h0 hl hs hd⟩
/-- what a list comprehension asks of what it walks -/
def LcJ (g : TG) (tt : TT) (te : TE) (vs : List Nat) (σ : L2.St) (Q : VK) (J : It) (H1 : Hp) : Prop := ∀ D, H1 D = none → ∃ W : Nat → Nat → Hp → Prop, (∃ m, W 0 m (upd H1 D (.lst []))) ∧ ∀ i m H, W i m H →
  (J.stop i H ∧ Q (.ref D) H) ∨ (J.go i H ∧ ∃ Nx : Hp → Prop, (∀ H', Nx H' → ∃ m', m' < m ∧ W (i + 1) m' H') ∧ ∀ x H', J.yld i H x H' → g x (wipe σ vs) H' fun σ2 H2 => wipe σ2 vs = wipe σ vs ∧ tt σ2 H2 fun b H3 =>
    if b = true then te σ2 H3 fun y H4 => ∃ acc, H4 D = some (.lst acc) ∧ acc.length < sizeLine ∧ Nx (upd H4 D (.lst (acc ++ [y]))) else Nx H3)
theorem lc_ {wi : TI} {g : TG} {tt : TT} {te : TE} {vs : List Nat} {Q : VK} (k : wi σ H fun J H1 => LcJ g tt te vs σ Q J H1) : tLc wi g tt te vs σ H Q := k
theorem itrLc {lo : Int} {k : Nat} {g : TG} {tt : TT} {te : TE} {vs : List Nat} {Q : VK} {D : Addr} (Pv : Nat → Hp → Prop) (h0 : Pv 0 (upd H D (.lst [])))
    (hs : ∀ i H, i < k → Pv i H → g (.int (lo + i)) (wipe σ vs) H fun σ2 H2 => wipe σ2 vs = wipe σ vs ∧ tt σ2 H2 fun b H3 =>
      if b = true then te σ2 H3 fun y H4 => ∃ acc, H4 D = some (.lst acc) ∧ acc.length < sizeLine ∧ Pv (i + 1) (upd H4 D (.lst (acc ++ [y]))) else Pv (i + 1) H3) (hd : ∀ H, Pv k H → Q (.ref D) H) :
    ∃ W : Nat → Nat → Hp → Prop, (∃ m, W 0 m (upd H D (.lst []))) ∧ ∀ i m H, W i m H →
      ((Itr lo k).stop i H ∧ Q (.ref D) H) ∨ ((Itr lo k).go i H ∧ ∃ Nx : Hp → Prop, (∀ H', Nx H' → ∃ m', m' < m ∧ W (i + 1) m' H') ∧ ∀ x H', (Itr lo k).yld i H x H' → g x (wipe σ vs) H' fun σ2 H2 => wipe σ2 vs = wipe σ vs ∧ tt σ2 H2 fun b H3 =>
        if b = true then te σ2 H3 fun y H4 => ∃ acc, H4 D = some (.lst acc) ∧ acc.length < sizeLine ∧ Nx (upd H4 D (.lst (acc ++ [y]))) else Nx H3) := by
  refine ⟨fun i m H => m = k - i ∧ i ≤ k ∧ Pv i H, ⟨k, by simp, Nat.zero_le _, h0⟩, ?_⟩
  rintro i m H ⟨rfl, hi, p⟩
  by_cases hlt : i < k
  · refine .inr ⟨hlt, Pv (i + 1), fun H' p' => ⟨k - (i + 1), by omega, rfl, hlt, p'⟩, fun x H' y => ?_⟩
    obtain ⟨e, rfl⟩ := y
    subst e
    exact hs i _ hlt p
  · have e : i = k := by omega
    subst e
    exact .inl ⟨Nat.le_refl _, hd H p⟩
/-- the end of a comprehension's turn: what is made so far, and the invariant -/
def LcE (H : Hp) (D : Addr) (i : Nat) (Pv : Addr → Nat → List V → Hp → Prop) : VK := fun y H4 => ∃ acc, H4 D = some (.lst acc) ∧ acc.length < sizeLine ∧
  ∃ ac, Same H (upd H4 D (.lst (acc ++ [y]))) ∧ ac.length = i + 1 ∧ upd H4 D (.lst (acc ++ [y])) D = some (.lst ac) ∧ Pv D (i + 1) ac (upd H4 D (.lst (acc ++ [y])))
theorem lcE {H H4 : Hp} {D : Addr} {i : Nat} {Pv : Addr → Nat → List V → Hp → Prop} {acc : List V} {y : V} (hD : H D = none) (h : H4 D = some (.lst acc)) (s : Same H H4) (e : acc.length = i) (hi : i < 100000) (k : Pv D (i + 1) (acc ++ [y]) (upd H4 D (.lst (acc ++ [y])))) : LcE H D i Pv y H4 :=
  ⟨acc, h, smallT (by omega), acc ++ [y], same_mut s hD, by simp [e], upd_same, k⟩
/-- [.. for name in range(m)] without a test: Pv i acc H: acc what is made -/
theorem lcR1 {m : Int} {j : Nat} {te : TE} {Q : VK} (Pv : Addr → Nat → List V → Hp → Prop) (hb : -100000 ≤ m ∧ m ≤ 100000) (h0 : ∀ D H', H D = none → Same H H' → H' D = some (.lst []) → Pv D 0 [] H')
    (hs : ∀ (i : Nat) (acc : List V) (D : Addr) (H' : Hp), H D = none → Same H H' → (i : Int) < m → acc.length = i → H' D = some (.lst acc) → Pv D i acc H' → te (σ.set j (some (.int (i : Int)))) H' (LcE H D i Pv))
    (hd : ∀ D acc H', H D = none → Same H H' → H' D = some (.lst acc) → acc.length = m.toNat → Pv D m.toNat acc H' → Q (.ref D) H') :
    ∃ q : Int, [V.int m] = [V.int q] ∧ -(2 ^ 62) ≤ q ∧ q < 2 ^ 62 ∧ LcJ (gName j) tYes te [j] σ Q (Itr 0 q.toNat) H := by
  obtain ⟨hb1, hb2⟩ := hb
  have p62 : (2 : Int) ^ 62 = 4611686018427387904 := by decide
  refine ⟨m, rfl, by omega, by omega, fun D hD => ?_⟩
  refine itrLc (fun i H' => ∃ acc, Same H H' ∧ acc.length = i ∧ H' D = some (.lst acc) ∧ Pv D i acc H') ⟨[], same_new hD, rfl, upd_same, h0 D _ hD (same_new hD) upd_same⟩ ?_ ?_
  · rintro i H' hi ⟨acc, s, e, hD', p⟩
    have e0 : (0 : Int) + (i : Int) = (i : Int) := Int.zero_add _
    rw [e0]
    refine ⟨show wipe ((wipe σ [j]).set j (some (.int (i : Int)))) [j] = wipe σ [j] by simp [wipe], ?_⟩
    show te ((wipe σ [j]).set j (some (.int (i : Int)))) H' (LcE H D i Pv)
    have ew : (wipe σ [j]).set j (some (.int (i : Int))) = σ.set j (some (.int (i : Int))) := by simp [wipe]
    rw [ew]
    exact hs i acc D H' hD s (by omega) e hD' p
  · rintro H' ⟨acc, s, e, hD', p⟩
    exact hd D acc H' hD s hD' e p
/-- [.. for name in a list] without a test -/
theorem lcL {K : PySem.W.Frag} {a : Addr} {xs : List V} {j : Nat} {te : TE} {Q : VK} (Pv : Addr → Nat → List V → Hp → Prop) (h : SqL K H a xs) (hl : xs.length ≤ 100000) (h0 : ∀ D H', H D = none → Same H H' → H' D = some (.lst []) → Pv D 0 [] H')
    (hs : ∀ (i : Nat) (x : V) (acc : List V) (D : Addr) (H' : Hp), H D = none → Same H H' → xs[i]? = some x → acc.length = i → H' D = some (.lst acc) → Pv D i acc H' → te (σ.set j (some x)) H' (LcE H D i Pv))
    (hd : ∀ D acc H', H D = none → Same H H' → H' D = some (.lst acc) → acc.length = xs.length → Pv D xs.length acc H' → Q (.ref D) H') :
    ∃ p, V.ref a = V.ref p ∧ (∃ ys, SqL K H p ys) ∧ LcJ (gName j) tYes te [j] σ Q (Itl K p) H := by
  refine ⟨a, rfl, ⟨_, h⟩, fun D hD => ?_⟩
  refine lc_list (xs := xs) (fun i H' => ∃ acc, Same H H' ∧ acc.length = i ∧ H' D = some (.lst acc) ∧ Pv D i acc H') ⟨[], same_new hD, rfl, upd_same, h0 D _ hD (same_new hD) upd_same⟩ (fun i H' _ ⟨acc, s, _⟩ => s.seq h) ?_ ?_
  · rintro i x H' hi ⟨acc, s, e, hD', p⟩
    refine ⟨show wipe ((wipe σ [j]).set j (some x)) [j] = wipe σ [j] by simp [wipe], ?_⟩
    show te ((wipe σ [j]).set j (some x)) H' (LcE H D i Pv)
    have ew : (wipe σ [j]).set j (some x) = σ.set j (some x) := by simp [wipe]
    rw [ew]
    exact hs i x acc D H' hD s hi e hD' p
  · rintro H' ⟨acc, s, e, hD', p⟩
    exact hd D acc H' hD s hD' e p
end
section
variable {X : Cx}
/-- // by a divisor of either sign below 2 ^ 9000 -/
def CDivX (_ j : Int) : Prop := j ≠ 0 ∧ j.natAbs.log2 < 9000
theorem op_fdivX : OpR X (binaryOp .FloorDiv) (rI CDivX fun i j => .int (i.fdiv j)) := L2.opI fun i j _ _ _ _ _ hc q =>
  floordiv_int hc.1 q (.inl (PyProof.noPylong_of_log2 hc.2))
end
theorem cdivX' {i j : Int} (h : j ≠ 0) (hb : -(2 ^ 64) < j ∧ j < 2 ^ 64) : CDivX i j := ⟨h, Nat.lt_of_lt_of_le (PySem.Flt.log2_lt_of (k := 64) (by decide) (by omega)) (by decide)⟩
theorem kb_int_int : kitB "int" "int" = some true := by decide +kernel
theorem kb_int_bool : kitB "int" "bool" = some false := by decide +kernel
theorem kb_int_str : kitB "int" "str" = some false := by decide +kernel
theorem kb_int_tuple : kitB "int" "tuple" = some false := by decide +kernel
theorem kb_int_list : kitB "int" "list" = some false := by decide +kernel
theorem kb_int_dict : kitB "int" "dict" = some false := by decide +kernel
theorem kb_bool_int : kitB "bool" "int" = some true := by decide +kernel
theorem kb_bool_bool : kitB "bool" "bool" = some true := by decide +kernel
theorem kb_bool_str : kitB "bool" "str" = some false := by decide +kernel
theorem kb_bool_tuple : kitB "bool" "tuple" = some false := by decide +kernel
theorem kb_bool_list : kitB "bool" "list" = some false := by decide +kernel
theorem kb_bool_dict : kitB "bool" "dict" = some false := by decide +kernel
theorem kb_str_int : kitB "str" "int" = some false := by decide +kernel
theorem kb_str_bool : kitB "str" "bool" = some false := by decide +kernel
theorem kb_str_str : kitB "str" "str" = some true := by decide +kernel
theorem kb_str_tuple : kitB "str" "tuple" = some false := by decide +kernel
theorem kb_str_list : kitB "str" "list" = some false := by decide +kernel
theorem kb_str_dict : kitB "str" "dict" = some false := by decide +kernel
theorem kb_tuple_int : kitB "tuple" "int" = some false := by decide +kernel
theorem kb_tuple_bool : kitB "tuple" "bool" = some false := by decide +kernel
theorem kb_tuple_str : kitB "tuple" "str" = some false := by decide +kernel
theorem kb_tuple_tuple : kitB "tuple" "tuple" = some true := by decide +kernel
theorem kb_tuple_list : kitB "tuple" "list" = some false := by decide +kernel
theorem kb_tuple_dict : kitB "tuple" "dict" = some false := by decide +kernel
theorem kb_list_int : kitB "list" "int" = some false := by decide +kernel
theorem kb_list_bool : kitB "list" "bool" = some false := by decide +kernel
theorem kb_list_str : kitB "list" "str" = some false := by decide +kernel
theorem kb_list_tuple : kitB "list" "tuple" = some false := by decide +kernel
theorem kb_list_list : kitB "list" "list" = some true := by decide +kernel
theorem kb_list_dict : kitB "list" "dict" = some false := by decide +kernel
theorem kb_NoneType_int : kitB "NoneType" "int" = some false := by decide +kernel
theorem kb_NoneType_bool : kitB "NoneType" "bool" = some false := by decide +kernel
theorem kb_NoneType_str : kitB "NoneType" "str" = some false := by decide +kernel
theorem kb_NoneType_tuple : kitB "NoneType" "tuple" = some false := by decide +kernel
theorem kb_NoneType_list : kitB "NoneType" "list" = some false := by decide +kernel
theorem kb_NoneType_dict : kitB "NoneType" "dict" = some false := by decide +kernel
theorem kb_dict_int : kitB "dict" "int" = some false := by decide +kernel
theorem kb_dict_bool : kitB "dict" "bool" = some false := by decide +kernel
theorem kb_dict_str : kitB "dict" "str" = some false := by decide +kernel
theorem kb_dict_tuple : kitB "dict" "tuple" = some false := by decide +kernel
theorem kb_dict_list : kitB "dict" "list" = some false := by decide +kernel
theorem kb_dict_dict : kitB "dict" "dict" = some true := by decide +kernel
section
variable {K : PySem.W.Frag} {H : Hp} {Q : VK} {b : String} {r : Bool}
theorem isiI {i : Int} (e : kitB "int" b = some r) (k : Q (.bl r) H) : rIsi K [.int i, .ty b] H Q := ⟨_, _, _, _, r, rfl, .ty b, .base (.int i), kit_ty e, k⟩
theorem isiB {i : Bool} (e : kitB "bool" b = some r) (k : Q (.bl r) H) : rIsi K [.bl i, .ty b] H Q := ⟨_, _, _, _, r, rfl, .ty b, .base (.bl i), kit_ty e, k⟩
theorem isiS {i : Str} (e : kitB "str" b = some r) (k : Q (.bl r) H) : rIsi K [.str i, .ty b] H Q := ⟨_, _, _, _, r, rfl, .ty b, .base (.str i), kit_ty e, k⟩
theorem isiN (e : kitB "NoneType" b = some r) (k : Q (.bl r) H) : rIsi K [.non, .ty b] H Q := ⟨_, _, _, _, r, rfl, .ty b, .base .non, kit_ty e, k⟩
theorem tyT {p : Addr} {xs : List V} (h : SqT K H p xs) : TyX K H (.ref p) (.type "tuple") := by
  rcases h with (h | ⟨o, h⟩) | h
  · exact .base (.tup h)
  · exact .fTuple h
  · obtain ⟨o, its, n, h1, h2, _⟩ := h
    exact .kTuple h1 h2
theorem tyL' {p : Addr} {xs : List V} (h : SqL K H p xs) : TyX K H (.ref p) (.type "list") := by
  rcases h with (h | ⟨o, h⟩) | h
  · exact .base (.lst h)
  · exact .base (.frz h)
  · obtain ⟨o, its, n, h1, h2, _⟩ := h
    exact .kList h1 h2
theorem isiT {p : Addr} {xs : List V} (h : SqT K H p xs) (e : kitB "tuple" b = some r) (k : Q (.bl r) H) : rIsi K [.ref p, .ty b] H Q := ⟨_, _, _, _, r, rfl, .ty b, tyT h, kit_ty e, k⟩
theorem isiL {p : Addr} {xs : List V} (h : SqL K H p xs) (e : kitB "list" b = some r) (k : Q (.bl r) H) : rIsi K [.ref p, .ty b] H Q := ⟨_, _, _, _, r, rfl, .ty b, tyL' h, kit_ty e, k⟩
theorem iteNT {A B : Prop} (h : B) : if (!true) = true then A else B := iteF h
theorem iteNF {A B : Prop} (h : A) : if (!false) = true then A else B := iteT h
end

/-! ### texts -/
/-- the text of these signs -/
def S (l : List Nat) : Str := ⟨l.toArray⟩
theorem S_len (l : List Nat) : (S l).length = l.length := by show l.toArray.size = l.length; simp
theorem S_tl (l : List Nat) : (S l).cps.toList = l := by show l.toArray.toList = l; simp
theorem S_inj {l m : List Nat} (h : S l = S m) : l = m := by have := congrArg (fun z : Str => z.cps.toList) h; simpa [S_tl] using this
theorem S_eq {l m : List Nat} : decide (S l = S m) = decide (l = m) := by
  by_cases h : l = m
  · rw [decide_eq_true h, decide_eq_true (by rw [h])]
  · rw [decide_eq_false h, decide_eq_false fun e => h (S_inj e)]
theorem S_app (l m : List Nat) : S l ++ S m = S (l ++ m) := by
  show (⟨l.toArray ++ m.toArray⟩ : Str) = ⟨(l ++ m).toArray⟩
  simp
theorem S_of (x : Str) : x = S x.cps.toList := by cases x; simp [S]
theorem S_one (c : Nat) : (⟨#[c]⟩ : Str) = S [c] := rfl
section
variable {σ : L2.St} {H : Hp} {Q : VK} {ta tb te : TE} {K : PySem.W.Frag}
theorem addS' {l m : List Nat} (h : l.length + m.length ≤ 100000) (k : Q (.str (S (l ++ m))) H) : AddSK (.str (S l)) (.str (S m)) H Q := ⟨_, _, rfl, rfl, small (by rw [S_len, S_len]; exact h), by rw [S_app]; exact k⟩
theorem lenS' {l : List Nat} (h : l.length ≤ 100000) (k : Q (.int l.length) H) : LenSK [.str (S l)] H Q := ⟨_, rfl, small (by rw [S_len]; exact h), by rw [S_len]; exact k⟩
theorem eqS' {l m : List Nat} (k : Q (.bl (decide (l = m))) H) : rEq (.str (S l)) (.str (S m)) H Q := eqS (by rw [S_eq]; exact k)
theorem neS' {l m : List Nat} (k : Q (.bl (!decide (l = m))) H) : rNe (.str (S l)) (.str (S m)) H Q := neS (by rw [S_eq]; exact k)
theorem ixS {l : List Nat} {i : Int} {c : Nat} (h : l.length ≤ 100000) (a : atI l i = some c) (k : Q (.str (S [c])) H) : rIxS (.str (S l)) (.int i) H Q := ⟨S l, i, c, rfl, rfl, small (by rw [S_len]; exact h), by rw [S_tl]; exact a, k⟩
def InSK (x y : V) (H : Hp) (Q : VK) : Prop := ∃ (c : Nat) (z : Str), x = .str ⟨#[c]⟩ ∧ y = .str z ∧ Q (.bl (decide (c ∈ z.cps.toList))) H
theorem opInS (k : ta σ H fun x H1 => tb σ H1 fun y H2 => InSK x y H2 Q) : tOp (fun x y H Q => ∃ (c : Nat) (z : Str), x = V.str ⟨#[c]⟩ ∧ y = V.str z ∧ Q (.bl (decide (c ∈ z.cps.toList))) H) ta tb σ H Q := k
theorem inS {c : Nat} {l : List Nat} (k : Q (.bl (decide (c ∈ l))) H) : InSK (.str (S [c])) (.str (S l)) H Q := ⟨c, S l, rfl, rfl, by rw [S_tl]; exact k⟩
theorem slS {l : List Nat} {a b : Nat} {i j : Int} (ha : i = a) (hb : j = b) (hl : l.length ≤ 100000) (hab : a ≤ l.length) (k : Q (.str (S ((l.drop a).take (b - a)))) H) : rSlS (.str (S l)) (some i) (some j) H Q := by
  subst ha hb
  refine ⟨S l, rfl, small (by rw [S_len]; exact hl), ?_⟩
  have e : cutS (S l) (some (a : Int)) (some (b : Int)) = S ((l.drop a).take (b - a)) := by
    unfold cutS
    rw [S_tl, S_len, HT.sIx_nat, HT.sIx_nat]
    show S _ = S _
    congr 1
    rw [Nat.min_eq_left hab]
    by_cases h : b ≤ l.length
    · rw [Nat.min_eq_left h]
    · rw [Nat.min_eq_right (by omega), List.take_of_length_le (by simp), List.take_of_length_le (by simp; omega)]
  rw [e]; exact k
def IntSK (xs : List V) (H : Hp) (Q : VK) : Prop := ∃ a n, xs = [.str a] ∧ PySem.intText? a = some n ∧ a.length ≤ 640 ∧ Q (.int n) H
theorem cbIntS {t : TA} (k : t σ H fun vs H1 => IntSK vs H1 Q) : tCB (fun xs H Q => ∃ a n, xs = [V.str a] ∧ PySem.intText? a = some n ∧ a.length ≤ 640 ∧ Q (.int n) H) t σ H Q := k
theorem intS {l : List Nat} {n : Int} (e : PySem.intText? (S l) = some n) (h : l.length ≤ 640) (k : Q (.int n) H) : IntSK [.str (S l)] H Q := ⟨_, n, rfl, e, by rw [S_len]; exact h, k⟩
theorem strI {i : Int} {l : List Nat} (h : i.natAbs.log2 < 1920) (e : (Str.ofString (toString i)) = S l) (k : Q (.str (S l)) H) : StrIK [.int i] H Q := ⟨i, rfl, h, by rw [e]; exact k⟩
/-- a text times a number -/
def MulSK (x y : V) (H : Hp) (Q : VK) : Prop := ∃ (z : Str) (n : Int), x = .str z ∧ y = .int n ∧ MulOk z n ∧ Q (.str (Txt.mul z n)) H
theorem op_mulS {X : Cx} : OpR X (binaryOp .Mult) MulSK := by
  intro pins s σ H x y v u Q I rx ry h
  obtain ⟨z, n, rfl, rfl, hc, q⟩ := h
  obtain ⟨t, rfl⟩ := rx
  obtain ⟨t', rfl⟩ := ry
  exact SB.mul hc fun t' k => ⟨.str (Txt.mul z n), H, I.tok _, ⟨_, rfl⟩, q⟩
theorem mulS1 {c : Nat} {n : Int} (h : 0 ≤ n ∧ n ≤ 100000) (k : Q (.str (S (List.replicate n.toNat c))) H) : MulSK (.str (S [c])) (.int n) H Q := by
  refine ⟨S [c], n, rfl, rfl, ⟨?_, ?_, ?_⟩, ?_⟩
  · have : ¬ n < -(2 ^ 63 : Int) := by omega
    have h2 : ¬ n ≥ 2 ^ 63 := by omega
    simp [this, h2]
    omega
  · intro h1 _
    show ¬ (((S [c]).length : Int) > (2 ^ 63 - 1) / n)
    have : ((S [c]).length : Int) = 1 := rfl
    rw [this]
    have h3 : (1 : Int) ≤ (2 ^ 63 - 1) / n := by
      rw [Int.le_ediv_iff_mul_le (by omega)]
      omega
    omega
  · intro h1 _
    have : (S [c]).length = 1 := rfl
    rw [this, Nat.one_mul]
    have : n.toNat ≤ sizeLine := small (by omega)
    exact decide_eq_false (by omega)
  · have e : Txt.mul (S [c]) n = S (List.replicate n.toNat c) := by
      unfold Txt.mul
      by_cases h1 : n < 1
      · rw [if_pos h1]
        have : n.toNat = 0 := by omega
        rw [this]; rfl
      · rw [if_neg h1]
        by_cases h2 : n = 1
        · subst h2; rfl
        · have : (n == 1 || (S [c]).length == 0) = false := by rw [beq_eq_false_iff_ne.mpr h2]; rfl
          rw [this]
          show (⟨(List.replicate n.toNat #[c]).foldl (· ++ ·) #[]⟩ : Str) = S (List.replicate n.toNat c)
          have e2 : ∀ (m : Nat) (acc : Array Nat), (List.replicate m #[c]).foldl (· ++ ·) acc = acc ++ (List.replicate m c).toArray := by
            intro m
            induction m with
            | zero => intro acc; simp
            | succ m ih =>
              intro acc
              rw [List.replicate_succ, List.foldl_cons, ih, List.replicate_succ]
              apply Array.toList_inj.mp
              simp
          rw [e2]
          simp [S]
    rw [e]; exact k
end
/-! ### more readings -/
section
variable {σ : L2.St} {H : Hp} {n b c : L2.St → Hp → Prop} {r : VK} {tc : TT} {tb : TS} {K : PySem.W.Frag}
/-- while: Pv m: m falls -/
theorem whl (Pv : Nat → L2.St → Hp → Prop) (h0 : ∃ m, Pv m σ H)
    (hs : ∀ m σ H, Pv m σ H → tc σ H fun x H1 => if x = true then ∃ N : L2.St → Hp → Prop, (∀ σ' H', N σ' H' → ∃ m', m' < m ∧ Pv m' σ' H') ∧ tb ⟨N, r, n, N⟩ σ H1 else n σ H1) : tWhile tc tb ⟨n, r, b, c⟩ σ H := ⟨Pv, h0, hs⟩
theorem whlN {Pv : Nat → L2.St → Hp → Prop} {m : Nat} (k : tb ⟨fun σ' H' => ∃ m', m' < m ∧ Pv m' σ' H', r, n, fun σ' H' => ∃ m', m' < m ∧ Pv m' σ' H'⟩ σ H) :
    ∃ N : L2.St → Hp → Prop, (∀ σ' H', N σ' H' → ∃ m', m' < m ∧ Pv m' σ' H') ∧ tb ⟨N, r, n, N⟩ σ H := ⟨_, fun _ _ h => h, k⟩
variable {Q : VK} {te : TE}
theorem revL (k : te σ H fun x H1 => ∃ a xs, x = .ref a ∧ SqL K H1 a xs ∧ ∀ p, H1 p = none → Q (.ref p) (upd H1 p (.lst xs.reverse))) : tRevL K te σ H Q := k
theorem revL' {a : Addr} {xs : List V} {P : List V → Prop} (h : SqL K H a xs) (k : P xs) : ∃ a' xs', V.ref a = V.ref a' ∧ SqL K H a' xs' ∧ P xs' := ⟨a, xs, rfl, h, k⟩
theorem slL' {a : Addr} {xs : List V} {lo hi : Option Int} (h : SqL K H a xs) (k : ∀ p, H p = none → Q (.ref p) (upd H p (.lst (cutV xs lo hi)))) : rSlL K (.ref a) lo hi H Q := ⟨a, xs, rfl, h, k⟩
theorem nopart {Q : Option Int → Hp → Prop} (k : Q none H) : tNoPart σ H Q := k
theorem part {te : TE} {Q : Option Int → Hp → Prop} (k : te σ H fun x H1 => ∃ i, x = .int i ∧ Q (some i) H1) : tPart te σ H Q := k
theorem part' {i : Int} {P : Int → Prop} (k : P i) : ∃ j, V.int i = V.int j ∧ P j := ⟨i, rfl, k⟩
theorem bm0 {T : String} {rr : V → List V → Hp → VK → Prop} {to : TE} (k : to σ H fun x H1 => tyV K T x H1 ∧ rr x [] H1 Q) : tBM0 K T rr to σ H Q := k
theorem pop {l : Addr} {xs : List V} {y : V} (h : H l = some (.lst xs)) (e : xs[xs.length - 1]? = some y) (k : Q y (upd H l (.lst xs.dropLast))) : rPop (.ref l) [] H Q := ⟨l, xs, y, rfl, rfl, h, e, k⟩
theorem catL {a b : Addr} {xs ys : List V} (ha : H a = some (.lst xs)) (hb : H b = some (.lst ys)) (hz : xs.length + ys.length ≤ 100000) (k : ∀ p, H p = none → Q (.ref p) (upd H p (.lst (xs ++ ys)))) : rCat (.ref a) (.ref b) H Q := ⟨a, b, xs, ys, rfl, rfl, ha, hb, small hz, k⟩
/-- a comprehension's turn whose heap changes -/
def LcF (D : Addr) (i : Nat) (Pv : Addr → Nat → List V → Hp → Prop) : VK := fun y H4 => ∃ acc, H4 D = some (.lst acc) ∧ acc.length < sizeLine ∧
  ∃ ac, ac.length = i + 1 ∧ upd H4 D (.lst (acc ++ [y])) D = some (.lst ac) ∧ Pv D (i + 1) ac (upd H4 D (.lst (acc ++ [y])))
theorem lcF {H4 : Hp} {D : Addr} {i : Nat} {Pv : Addr → Nat → List V → Hp → Prop} {acc : List V} {y : V} (h : H4 D = some (.lst acc)) (e : acc.length = i) (hi : i < 100000) (k : Pv D (i + 1) (acc ++ [y]) (upd H4 D (.lst (acc ++ [y])))) : LcF D i Pv y H4 :=
  ⟨acc, h, smallT (by omega), acc ++ [y], by simp [e], upd_same, k⟩
theorem lcR1F {m : Int} {j : Nat} (Pv : Addr → Nat → List V → Hp → Prop) (hb : -100000 ≤ m ∧ m ≤ 100000) (h0 : ∀ D, H D = none → Pv D 0 [] (upd H D (.lst [])))
    (hs : ∀ (i : Nat) (acc : List V) (D : Addr) (H' : Hp), H D = none → (i : Int) < m → acc.length = i → H' D = some (.lst acc) → Pv D i acc H' → te (σ.set j (some (.int (i : Int)))) H' (LcF D i Pv))
    (hd : ∀ D acc H', H D = none → H' D = some (.lst acc) → acc.length = m.toNat → Pv D m.toNat acc H' → Q (.ref D) H') :
    ∃ q : Int, [V.int m] = [V.int q] ∧ -(2 ^ 62) ≤ q ∧ q < 2 ^ 62 ∧ LcJ (gName j) tYes te [j] σ Q (Itr 0 q.toNat) H := by
  obtain ⟨hb1, hb2⟩ := hb
  have p62 : (2 : Int) ^ 62 = 4611686018427387904 := by decide
  refine ⟨m, rfl, by omega, by omega, fun D hD => ?_⟩
  refine itrLc (fun i H' => ∃ acc, acc.length = i ∧ H' D = some (.lst acc) ∧ Pv D i acc H') ⟨[], rfl, upd_same, h0 D hD⟩ ?_ ?_
  · rintro i H' hi ⟨acc, e, hD', p⟩
    have e0 : (0 : Int) + (i : Int) = (i : Int) := Int.zero_add _
    rw [e0]
    refine ⟨show wipe ((wipe σ [j]).set j (some (.int (i : Int)))) [j] = wipe σ [j] by simp [wipe], ?_⟩
    show te ((wipe σ [j]).set j (some (.int (i : Int)))) H' (LcF D i Pv)
    have ew : (wipe σ [j]).set j (some (.int (i : Int))) = σ.set j (some (.int (i : Int))) := by simp [wipe]
    rw [ew]
    exact hs i acc D H' hD (by omega) e hD' p
  · rintro H' ⟨acc, e, hD', p⟩
    exact hd D acc H' hD hD' e p
end
theorem cut_take {xs : List V} {m : Int} (h : 0 ≤ m) : cutV xs none (some m) = xs.take m.toNat := by
  unfold cutV
  obtain ⟨k, rfl⟩ : ∃ k : Nat, m = k := ⟨m.toNat, by omega⟩
  rw [HT.sIx_none, HT.sIx_nat, List.drop_zero, Nat.sub_zero, Int.toNat_natCast]
  by_cases h1 : k ≤ xs.length
  · rw [Nat.min_eq_left h1]
  · rw [Nat.min_eq_right (by omega), List.take_of_length_le (Nat.le_refl _), List.take_of_length_le (by omega)]
theorem atI_all {xs : List V} {p : V → Bool} {i : Int} (h : xs.all p = true) (h0 : 0 ≤ i) (h1 : i < (xs.length : Int)) : ∃ v, atI xs i = some v ∧ p v = true := by
  have h2 : i.toNat < xs.length := by omega
  exact ⟨xs[i.toNat], atI_of h0 (List.getElem?_eq_getElem h2), List.all_eq_true.mp h _ (List.getElem_mem h2)⟩
theorem ixLall {K : PySem.W.Frag} {H : Hp} {Q : VK} {l : Addr} {xs : List V} {i : Int} (p : V → Bool) (h : SqL K H l xs) (a : xs.all p = true) (h0 : 0 ≤ i) (h1 : i < (xs.length : Int)) (k : ∀ v, p v = true → Q v H) : rIxL K (.ref l) (.int i) H Q := by
  obtain ⟨v, e, q⟩ := atI_all a h0 h1
  exact ixL h e (k v q)
theorem ixSall {H : Hp} {Q : VK} {l : List Nat} {i : Int} (hl : l.length ≤ 100000) (h0 : 0 ≤ i) (h1 : i < (l.length : Int)) (k : ∀ c, c ∈ l → Q (.str (S [c])) H) : rIxS (.str (S l)) (.int i) H Q := by
  have h2 : i.toNat < l.length := by omega
  exact ixS hl (atI_of h0 (List.getElem?_eq_getElem h2)) (k _ (List.getElem_mem h2))
theorem dp_same {K : PySem.W.Frag} {H H' : Hp} (e : Same H H') : ∀ {x : V} {d : PyData}, Dp K H x d → Dp K H' x d
  | _, _, .non => .non
  | _, _, .bl b => .bl b
  | _, _, .int i => .int i
  | _, _, .str x => .str x
  | _, _, .lst h a => .lst (e.seq h) (go e a)
  | _, _, .tup h a => .tup (same_tup e h) (go e a)
where go {K : PySem.W.Frag} {H H' : Hp} (e : Same H H') : ∀ {xs : List V} {ds : List PyData}, DpAll K H xs ds → DpAll K H' xs ds
  | _, _, .nil => .nil
  | _, _, .cons h t => .cons (dp_same e h) (go e t)
theorem dpAll_len {K : PySem.W.Frag} {H : Hp} : ∀ {xs : List V} {ds : List PyData}, DpAll K H xs ds → xs.length = ds.length
  | _, _, .nil => rfl
  | _, _, .cons _ t => congrArg Nat.succ (dpAll_len t)
theorem dpAll_get {K : PySem.W.Frag} {H : Hp} : ∀ {xs : List V} {ds : List PyData}, DpAll K H xs ds → ∀ i, i < ds.length → ∃ x, xs[i]? = some x ∧ Dp K H x (ds.getD i .none)
  | _, _, .nil, i, h => absurd h (Nat.not_lt_zero i)
  | _, _, .cons h _, 0, _ => ⟨_, rfl, h⟩
  | _, _, .cons _ t, i + 1, hi => by
    obtain ⟨x, e, d⟩ := dpAll_get t i (Nat.lt_of_succ_lt_succ hi)
    exact ⟨x, e, d⟩
theorem depth_get : ∀ {ds : List PyData} {i : Nat}, i < ds.length → (ds.getD i .none).depth ≤ PyData.depthAll ds
  | [], i, h => absurd h (Nat.not_lt_zero i)
  | d :: ds, 0, _ => by simp only [PyData.depthAll]; exact Nat.le_max_left _ _
  | d :: ds, i + 1, h => by
    have := depth_get (ds := ds) (i := i) (Nat.lt_of_succ_lt_succ h)
    simp only [PyData.depthAll]
    exact Nat.le_trans this (Nat.le_max_right _ _)
theorem ixQL {K : PySem.W.Frag} {H : Hp} {Q : VK} {p : Addr} {xs : List V} {i : Int} {v : V} (h : SqL K H p xs) (a : atI xs i = some v) (k : Q v H) : rIx K (.ref p) (.int i) H Q := .inl (ixL h a k)
theorem ixQT {K : PySem.W.Frag} {H : Hp} {Q : VK} {p : Addr} {xs : List V} {i : Int} {v : V} (h : SqT K H p xs) (a : atI xs i = some v) (k : Q v H) : rIx K (.ref p) (.int i) H Q := .inr (.inl (ixT h a k))
theorem weight_get {ds : List PyData} {i : Nat} (h : i < ds.length) : (ds.getD i .none).weight ≤ PyData.weightAll ds := by
  refine PyData.weight_le_weightAll _ _ ?_
  rw [List.getD_eq_getElem?_getD, List.getElem?_eq_getElem h]
  exact List.getElem_mem h
theorem atI_last {α : Type} {xs : List α} {v : α} : atI (xs ++ [v]) (-1) = some v := by
  unfold atI ixN
  rw [if_neg (by decide), if_pos (by simp; omega)]
  show (xs ++ [v])[(-1 + ((xs ++ [v]).length : Int)).toNat]? = some v
  have : (-1 + ((xs ++ [v]).length : Int)).toNat = xs.length := by simp; omega
  rw [this]; simp
/-- two ways that come together: what holds where they meet -/
theorem join {σ : L2.St} {H : Hp} {t u : TS} {D : Ends} (J : L2.St → Hp → Prop) (h1 : ∀ N : L2.St → Hp → Prop, (∀ σ' H', J σ' H' → N σ' H') → t ⟨N, D.rt, D.bk, D.ct⟩ σ H) (h2 : ∀ σ' H', J σ' H' → u D σ' H') : tSeq t u D σ H := h1 _ h2
theorem ixLmem {K : PySem.W.Frag} {H : Hp} {Q : VK} {l : Addr} {xs : List V} {i : Int} (h : SqL K H l xs) (h0 : 0 ≤ i) (h1 : i < (xs.length : Int)) (k : ∀ v, v ∈ xs → Q v H) : rIxL K (.ref l) (.int i) H Q := by
  have h2 : i.toNat < xs.length := by omega
  exact ixL h (atI_of h0 (List.getElem?_eq_getElem h2)) (k _ (List.getElem_mem h2))
/-! ### a def that calls itself: nothing is asked with no call left -/
theorem none_left {P : Program} {w : World} {K : PySem.W.Frag} {mg : Str → Option Value} {base : Heap} {k : Nat} {f : Addr} {fd : FuncData} {ps : List Str} {sp : Sp} (no : ∀ vs H Q E, ¬ sp vs H Q E) : FnOk P w K mg base CX0 k f fd ps sp :=
  ⟨fun vs H Q E h => absurd h (no vs H Q E), fun A outer s H args us vs Q E _ _ _ _ h => absurd h (no vs H Q E)⟩
end Rd

set_option Elab.async false
set_option linter.all false
set_option maxRecDepth 100000
/-! Tokens of a text: what a row of tokens is, and how it is read from the left. -/
namespace Tk
open PySem PySem.Spec PyProof.Rows L2 TL
def digs : List Nat := [48, 49, 50, 51, 52, 53, 54, 55, 56, 57]
def lets : List Nat := [97, 98, 99, 100, 101, 102, 103, 104, 105, 106, 107, 108, 109, 110, 111, 112, 113, 114, 115, 116, 117, 118, 119, 120, 121, 122]
def sgns : List (List Nat) := [[61, 61], [60, 61], [60], [61], [43], [45], [42], [40], [41], [91], [93], [44], [59]]
/-- a word of letters -/
def Wd (t : List Nat) : Prop := t ≠ [] ∧ (∀ c ∈ t, c ∈ lets) ∧ t.length ≤ 12
def Nm (t : List Nat) : Prop := ∃ n : Nat, n ≤ 1000000000000000 ∧ t = numL n
def Tok (t : List Nat) : Prop := Nm t ∨ Wd t ∨ t ∈ sgns
/-- would the token and a sign behind it read as another token -/
def Gl (t : List Nat) (c : Nat) : Prop := ∃ h r, t = h :: r ∧ if h ∈ digs then c ∈ digs else if h ∈ lets then c ∈ lets else (t = [60] ∨ t = [61]) ∧ c = 61
def Sep (t r : List Nat) : Prop := ∀ c s, r = c :: s → ¬ Gl t c
theorem mem_digs (c : Nat) : c ∈ digs ↔ 48 ≤ c ∧ c ≤ 57 := by
  simp only [digs, List.mem_cons, List.not_mem_nil, or_false]; omega
theorem mem_lets (c : Nat) : c ∈ lets ↔ 97 ≤ c ∧ c ≤ 122 := by
  simp only [lets, List.mem_cons, List.not_mem_nil, or_false]; omega
theorem Nm.digs {t : List Nat} (h : Nm t) : t ≠ [] ∧ ∀ c ∈ t, c ∈ digs := by
  obtain ⟨n, _, rfl⟩ := h
  exact ⟨numL_ne n, fun c hc => (mem_digs c).mpr (numL_digits n c hc)⟩
theorem Nm.len {t : List Nat} (h : Nm t) : t.length ≤ 16 := by
  obtain ⟨n, hn, rfl⟩ := h
  exact numL_len (by decide) (by omega)
theorem signs_ne : ∀ t ∈ sgns, t ≠ [] ∧ t.length ≤ 2 ∧ (∀ h r, t = h :: r → h ∉ digs ∧ h ∉ lets ∧ h ≠ 32) := by
  intro t h
  simp only [sgns, List.mem_cons, List.not_mem_nil, or_false] at h
  rcases h with rfl | rfl | rfl | rfl | rfl | rfl | rfl | rfl | rfl | rfl | rfl | rfl | rfl
  all_goals exact ⟨by simp, by simp, fun h r e => by cases e; decide⟩
theorem Tok.ne {t : List Nat} (h : Tok t) : t ≠ [] := by
  rcases h with h | h | h
  · exact h.digs.1
  · exact h.1
  · exact (signs_ne t h).1
theorem Tok.len {t : List Nat} (h : Tok t) : t.length ≤ 16 := by
  rcases h with h | h | h
  · exact h.len
  · exact Nat.le_trans h.2.2 (by decide)
  · exact Nat.le_trans (signs_ne t h).2.1 (by decide)
theorem Tok.head {h : Nat} {r : List Nat} (k : Tok (h :: r)) : h ≠ 32 := by
  rcases k with k | k | k
  · have := (mem_digs h).mp (k.digs.2 h (by simp)); omega
  · have := (mem_lets h).mp (k.2.1 h (by simp)); omega
  · exact ((signs_ne _ k).2.2 h r rfl).2.2
/-- r, from the place a on, is this row of tokens -/
inductive Rem : List Nat → Nat → List (List Nat × Nat) → Prop
  | nil (n a : Nat) : Rem (List.replicate n 32) a []
  | tok {n a : Nat} {t r : List Nat} {es : List (List Nat × Nat)} (ht : Tok t) (hs : Sep t r) (hr : Rem r (a + n + t.length) es) : Rem (List.replicate n 32 ++ t ++ r) a ((t, a + n) :: es)
theorem Rem.of_nil {a : Nat} {es : List (List Nat × Nat)} (h : Rem [] a es) : es = [] := by
  generalize e : ([] : List Nat) = l at h
  cases h with
  | nil => rfl
  | @tok n _ t r es ht hs hr =>
    have h1 := congrArg List.length e
    simp only [List.length_append, List.length_nil] at h1
    have h2 : t.length ≠ 0 := fun z => ht.ne (List.eq_nil_of_length_eq_zero z)
    omega
theorem Rem.space {r : List Nat} {a : Nat} {es : List (List Nat × Nat)} (h : Rem (32 :: r) a es) : Rem r (a + 1) es := by
  generalize e : (32 :: r : List Nat) = l at h
  cases h with
  | nil n =>
    cases n with
    | zero => cases e
    | succ n =>
      rw [List.replicate_succ] at e
      rw [(List.cons.inj e).2]
      exact .nil n _
  | @tok n _ t r' es ht hs hr =>
    cases n with
    | zero =>
      cases t with
      | nil => exact absurd rfl ht.ne
      | cons c t =>
        have e1 := (List.cons.inj (show 32 :: r = c :: (t ++ r') by simpa using e)).1
        exact absurd e1.symm ht.head
    | succ n =>
      rw [List.replicate_succ] at e
      have e1 := (List.cons.inj (show 32 :: r = 32 :: (List.replicate n 32 ++ t ++ r') by simpa using e)).2
      rw [e1, show a + (n + 1) = a + 1 + n by omega]
      rw [show a + (n + 1) + t.length = a + 1 + n + t.length by omega] at hr
      exact .tok ht hs hr
theorem Rem.token {c : Nat} {r : List Nat} {a : Nat} {es : List (List Nat × Nat)} (h : Rem (c :: r) a es) (hc : c ≠ 32) : ∃ t r' es', c :: r = t ++ r' ∧ Tok t ∧ Sep t r' ∧ es = (t, a) :: es' ∧ Rem r' (a + t.length) es' := by
  generalize e : (c :: r : List Nat) = l at h
  cases h with
  | nil n =>
    cases n with
    | zero => cases e
    | succ n => exact absurd (List.cons.inj e).1 hc
  | @tok n _ t r' es ht hs hr =>
    cases n with
    | zero => exact ⟨t, r', es, by simp, ht, hs, by simp, by simpa using hr⟩
    | succ n => exact absurd (List.cons.inj (show c :: r = 32 :: (List.replicate n 32 ++ t ++ r') by simpa [List.replicate_succ] using e)).1 hc
/-- how long the last token is remembered: the sign that may follow -/
def Last (es : List (List Nat × Nat)) (c : Nat) : Prop := ∀ es' t p, es = es' ++ [(t, p)] → ¬ Gl t c
theorem rep_add (n m : Nat) : List.replicate n (32 : Nat) ++ List.replicate m 32 = List.replicate (n + m) 32 := by simp
theorem Rem.spaces {r : List Nat} {a : Nat} {es : List (List Nat × Nat)} (h : Rem r a es) (m : Nat) : Rem (r ++ List.replicate m 32) a es := by
  induction h with
  | nil n a => rw [rep_add]; exact .nil _ _
  | @tok n a t r es ht hs hr ih =>
    rw [List.append_assoc]
    refine .tok ht (fun c s e => ?_) ih
    cases r with
    | nil =>
      cases m with
      | zero => cases e
      | succ m =>
        have : c = 32 := (List.cons.inj e).1.symm
        subst this
        rintro ⟨h, q, _, g⟩
        split at g
        · revert g; decide
        · split at g
          · revert g; decide
          · exact absurd g.2 (by decide)
    | cons d r => exact hs c r (by rw [List.cons_append] at e; rw [(List.cons.inj e).1])
theorem no_gl32 (t : List Nat) : ¬ Gl t 32 := by
  rintro ⟨h, q, _, g⟩
  split at g
  · revert g; decide
  · split at g
    · revert g; decide
    · exact absurd g.2 (by decide)
/-- one more token behind -/
theorem Rem.more {r : List Nat} {a : Nat} {es : List (List Nat × Nat)} (h : Rem r a es) (m : Nat) {c : Nat} {u : List Nat} (hu : Tok (c :: u)) (hl : m ≠ 0 ∨ Last es c) :
    Rem (r ++ List.replicate m 32 ++ (c :: u)) a (es ++ [(c :: u, a + r.length + m)]) := by
  induction h with
  | nil n a =>
    have := Rem.tok (n := n + m) (a := a) (r := []) hu (fun _ _ e => by cases e) (.nil 0 _)
    simp only [List.append_nil] at this
    rw [rep_add, List.length_replicate, List.nil_append, Nat.add_assoc]
    exact this
  | @tok n a t r es ht hs hr ih =>
    have hl' : m ≠ 0 ∨ Last es c := by
      rcases hl with h | h
      · exact .inl h
      · exact .inr fun es' t' p e => h ((t, a + n) :: es') t' p (by rw [e, List.cons_append])
    have k := ih hl'
    have e1 : a + (List.replicate n (32 : Nat) ++ t ++ r).length + m = a + n + t.length + r.length + m := by simp; omega
    have e2 : List.replicate n 32 ++ t ++ r ++ List.replicate m 32 ++ (c :: u) = List.replicate n 32 ++ t ++ (r ++ List.replicate m 32 ++ (c :: u)) := by simp [List.append_assoc]
    rw [List.cons_append, e1, e2]
    refine .tok ht (fun d s e => ?_) k
    cases r with
    | cons x r => exact hs d r (by simp only [List.cons_append] at e; rw [(List.cons.inj e).1])
    | nil =>
      have e0 := hr.of_nil
      subst e0
      cases m with
      | succ m =>
        have : d = 32 := (List.cons.inj (show 32 :: (List.replicate m 32 ++ (c :: u)) = d :: s by simpa [List.replicate_succ] using e)).1.symm
        subst this
        exact no_gl32 t
      | zero =>
        have : d = c := (List.cons.inj (show c :: u = d :: s by simpa using e)).1.symm
        subst this
        rcases hl with h | h
        · exact absurd rfl h
        · exact h [] t (a + n) rfl
theorem Rem.len {r : List Nat} {a : Nat} {es : List (List Nat × Nat)} (h : Rem r a es) : es.length ≤ r.length := by
  induction h with
  | nil => simp
  | @tok n a t r es ht hs hr ih =>
    have h2 : t.length ≠ 0 := fun z => ht.ne (List.eq_nil_of_length_eq_zero z)
    simp only [List.length_cons, List.length_append]; omega
/-- the longest row of such sgns -/
theorem take_run {p : Nat → Bool} : ∀ {t r : List Nat}, (∀ c ∈ t, p c = true) → (∀ c s, r = c :: s → p c = false) → (t ++ r).takeWhile p = t
  | [], [], _, _ => rfl
  | [], c :: s, _, h => by rw [List.nil_append, List.takeWhile_cons, h c s rfl]; rfl
  | c :: t, r, h1, h2 => by
    rw [List.cons_append, List.takeWhile_cons, h1 c (by simp)]
    show c :: _ = _
    rw [take_run (fun d hd => h1 d (by simp [hd])) h2]
theorem run_at {p : Nat → Bool} {l : List Nat} {a e : Nat} (h1 : a ≤ e) (h2 : e ≤ l.length) (h3 : ∀ i, a ≤ i → i < e → p (l.getD i 0) = true) (h4 : e < l.length → p (l.getD e 0) = false) : (l.drop a).take (e - a) = (l.drop a).takeWhile p := by
  have e1 : l.drop a = (l.drop a).take (e - a) ++ l.drop e := by
    rw [show l.drop e = (l.drop a).drop (e - a) by rw [List.drop_drop]; congr 1; omega, List.take_append_drop]
  conv => rhs; rw [e1]
  rw [take_run]
  · intro c hc
    obtain ⟨i, hi, rfl⟩ := List.mem_iff_getElem.mp hc
    simp only [List.length_take, List.length_drop] at hi
    rw [List.getElem_take, List.getElem_drop]
    have := h3 (a + i) (by omega) (by omega)
    rwa [List.getD_eq_getElem?_getD, List.getElem?_eq_getElem (by omega)] at this
  · intro c s hs
    have h5 : e < l.length := by
      rcases Nat.lt_or_ge e l.length with h | h
      · exact h
      · rw [List.drop_eq_nil_of_le h] at hs; cases hs
    have := h4 h5
    rw [List.drop_eq_getElem_cons h5] at hs
    rw [List.getD_eq_getElem?_getD, List.getElem?_eq_getElem h5] at this
    rw [← (List.cons.inj hs).1]; exact this
/-- the sign that stands here is the only one, the two-sign ones asked first -/
theorem sign_one {t r s : List Nat} (ht : t ∈ sgns) (hs : s ∈ sgns) (sep : Sep t r) (e : (t ++ r).take s.length = s) : s = t ∨ (s.length < t.length) := by
  simp only [sgns, List.mem_cons, List.not_mem_nil, or_false] at ht hs
  cases r with
  | nil =>
    rcases ht with rfl | rfl | rfl | rfl | rfl | rfl | rfl | rfl | rfl | rfl | rfl | rfl | rfl <;> rcases hs with rfl | rfl | rfl | rfl | rfl | rfl | rfl | rfl | rfl | rfl | rfl | rfl | rfl <;> first | exact .inl rfl | exact .inr (by decide) | (exact absurd e (by decide))
  | cons d r =>
    have h61 : (t = [60] ∨ t = [61]) → d ≠ 61 := fun h hd => sep d r rfl (by
      rcases h with rfl | rfl
      · exact ⟨60, [], rfl, by rw [if_neg (by decide), if_neg (by decide)]; exact ⟨.inl rfl, hd⟩⟩
      · exact ⟨61, [], rfl, by rw [if_neg (by decide), if_neg (by decide)]; exact ⟨.inr rfl, hd⟩⟩)
    rcases ht with rfl | rfl | rfl | rfl | rfl | rfl | rfl | rfl | rfl | rfl | rfl | rfl | rfl <;> rcases hs with rfl | rfl | rfl | rfl | rfl | rfl | rfl | rfl | rfl | rfl | rfl | rfl | rfl <;> first | exact .inl rfl | exact .inr (by decide) | (simp at e; done) | (simp at e; first | exact absurd e (h61 (.inl rfl)) | exact absurd e (h61 (.inr rfl)))
theorem numL_lead (n : Nat) : ∀ r, numL n = 48 :: r → n = 0 := by
  induction n using Nat.strongRecOn with
  | _ n ih =>
    intro r h
    by_cases h10 : n < 10
    · rw [numL_lt h10] at h
      have := (List.cons.inj h).1
      omega
    · rw [numL_step (by omega)] at h
      cases e : numL (n / 10) with
      | nil => exact absurd e (numL_ne _)
      | cons c s =>
        rw [e] at h
        have h1 : c = 48 := (List.cons.inj h).1
        rw [h1] at e
        have := ih (n / 10) (by omega) s e
        omega
theorem sign_two {t r u : List Nat} {i : Nat} (ht : t ∈ sgns) (hu : sgns[i]? = some u) (e : (t ++ r).take u.length = u) (hl : u.length < t.length) : t ∈ sgns.take i := by
  have h13 : i < 13 := by
    have := (List.getElem?_eq_some_iff.mp hu).1
    exact this
  simp only [sgns, List.mem_cons, List.not_mem_nil, or_false] at ht
  obtain rfl | rfl | rfl | rfl | rfl | rfl | rfl | rfl | rfl | rfl | rfl | rfl | rfl : i = 0 ∨ i = 1 ∨ i = 2 ∨ i = 3 ∨ i = 4 ∨ i = 5 ∨ i = 6 ∨ i = 7 ∨ i = 8 ∨ i = 9 ∨ i = 10 ∨ i = 11 ∨ i = 12 := by omega
  all_goals (have hu' := Option.some.inj hu; subst hu'; rcases ht with rfl | rfl | rfl | rfl | rfl | rfl | rfl | rfl | rfl | rfl | rfl | rfl | rfl <;> first | exact absurd hl (by decide) | decide | (exact absurd e (by simp)))
theorem run_num {c : Nat} {t r : List Nat} (h : Tok (c :: t)) (hs : Sep (c :: t) r) (hc : c ∈ digs) : Nm (c :: t) ∧ (c :: t ++ r).takeWhile (fun c => decide (c ∈ digs)) = c :: t := by
  have hn : Nm (c :: t) := by
    rcases h with h | h | h
    · exact h
    · have h1 := (mem_lets c).mp (h.2.1 c (by simp))
      have h2 := (mem_digs c).mp hc
      omega
    · exact absurd hc ((signs_ne _ h).2.2 c t rfl).1
  refine ⟨hn, take_run (fun d hd => decide_eq_true (hn.digs.2 d hd)) fun d s e => decide_eq_false fun hd => ?_⟩
  exact hs d s e ⟨c, t, rfl, by rw [if_pos hc]; exact hd⟩
theorem run_word {c : Nat} {t r : List Nat} (h : Tok (c :: t)) (hs : Sep (c :: t) r) (hd : c ∉ digs) (hc : c ∈ lets) : (c :: t).length ≤ 12 ∧ (c :: t ++ r).takeWhile (fun c => decide (c ∈ lets)) = c :: t := by
  have hn : Wd (c :: t) := by
    rcases h with h | h | h
    · exact absurd (h.digs.2 c (by simp)) hd
    · exact h
    · exact absurd hc ((signs_ne _ h).2.2 c t rfl).2.1
  refine ⟨hn.2.2, take_run (fun d hd => decide_eq_true (hn.2.1 d hd)) fun d s e => decide_eq_false fun he => ?_⟩
  exact hs d s e ⟨c, t, rfl, by rw [if_neg hd, if_pos hc]; exact he⟩
theorem run_sign {c : Nat} {t : List Nat} (h : Tok (c :: t)) (hd : c ∉ digs) (hc : c ∉ lets) : (c :: t) ∈ sgns := by
  rcases h with h | h | h
  · exact absurd (h.digs.2 c (by simp)) hd
  · exact absurd (h.2.1 c (by simp)) hc
  · exact h
theorem gl_iff {h c : Nat} {r : List Nat} : Gl (h :: r) c ↔ if h ∈ digs then c ∈ digs else if h ∈ lets then c ∈ lets else (h :: r = [60] ∨ h :: r = [61]) ∧ c = 61 := by
  constructor
  · rintro ⟨h', r', e, g⟩
    cases e
    exact g
  · intro g
    exact ⟨h, r, rfl, g⟩
theorem gl_d {h c : Nat} {r : List Nat} (h1 : h ∈ digs) (hf : decide (c ∈ digs) = false) : ¬ Gl (h :: r) c := by
  rw [gl_iff, if_pos h1]; exact of_decide_eq_false hf
theorem gl_l {h c : Nat} {r : List Nat} (h1 : h ∉ digs) (h2 : h ∈ lets) (hf : decide (c ∈ lets) = false) : ¬ Gl (h :: r) c := by
  rw [gl_iff, if_neg h1, if_pos h2]; exact of_decide_eq_false hf
theorem gl_s {h c : Nat} {r : List Nat} (h1 : h ∉ digs) (h2 : h ∉ lets) (hf : decide ([c] = [61]) = false) : ¬ Gl (h :: r) c := by
  rw [gl_iff, if_neg h1, if_neg h2]; exact fun g => of_decide_eq_false hf (by rw [g.2])
theorem gl_n {h c : Nat} {r : List Nat} (h1 : h ∉ digs) (h2 : h ∉ lets) (h3 : ¬ h :: r = [60]) (h4 : ¬ h :: r = [61]) : ¬ Gl (h :: r) c := by
  rw [gl_iff, if_neg h1, if_neg h2]; exact fun g => g.1.elim h3 h4
end Tk

set_option Elab.async false
set_option linter.all false
set_option maxRecDepth 100000
set_option maxHeartbeats 4000000
namespace NK07
open PySem PySem.Spec PyProof.Rows L2
def top (i : Nat) : Stmt := PySem.Challenge.pw_keptcoin_k07_tokens.main.body.getD i (.Pass ⟨0, 0, 0, 0⟩)
abbrev FnP (K : PySem.W.Frag) (x : Str) (st : Stmt) (f : Addr) (fd : FuncData) : Prop := FunD K x x (defArgs st) (defBody st) (defScope st) [] [] f fd
/-- a def that keeps its promise, where the module finds it -/
structure Cal (P : Program) (w : World) (K : PySem.W.Frag) (mg : Str → Option Value) (base : Heap) (x : Str) (k : Nat) (ps : List Str) (sp : Sp) : Prop where
  ex : ∃ f fd, mg x = some (.ref f) ∧ PySem.W.keepIn K (.ref f) = true ∧ Binds K fd ps [] ∧ FnOk P w K mg base CX0 k f fd ps sp
abbrev s_tokens : Stmt := top 12
abbrev N_tokens : List Str := ["text", "found", "at", "token"]
theorem sc_tokens : FnScope N_tokens ["text"] (defScope s_tokens) := ⟨rfl, rfl, rfl, by decide +kernel, rfl, by decide +kernel, by decide +kernel⟩
abbrev s_token_at : Stmt := top 13
abbrev N_token_at : List Str := ["text", "at", "token", "good"]
theorem sc_token_at : FnScope N_token_at ["text", "at"] (defScope s_token_at) := ⟨rfl, rfl, rfl, by decide +kernel, rfl, by decide +kernel, by decide +kernel⟩
abbrev s_run_at : Stmt := top 14
abbrev N_run_at : List Str := ["text", "at", "allowed", "end"]
theorem sc_run_at : FnScope N_run_at ["text", "at", "allowed"] (defScope s_run_at) := ⟨rfl, rfl, rfl, by decide +kernel, rfl, by decide +kernel, by decide +kernel⟩
abbrev s_sign_at : Stmt := top 15
abbrev N_sign_at : List Str := ["text", "at", "sign"]
theorem sc_sign_at : FnScope N_sign_at ["text", "at"] (defScope s_sign_at) := ⟨rfl, rfl, rfl, by decide +kernel, rfl, by decide +kernel, by decide +kernel⟩
abbrev s_is_good_number : Stmt := top 16
abbrev N_is_good_number : List Str := ["digits"]
theorem sc_is_good_number : FnScope N_is_good_number ["digits"] (defScope s_is_good_number) := ⟨rfl, rfl, rfl, by decide +kernel, rfl, by decide +kernel, by decide +kernel⟩
abbrev s_law_numbers : Stmt := top 18
abbrev N_law_numbers : List Str := ["script", "many", "numbers", "seed", "cell", "k", "rest", "mixed", "turn"]
theorem sc_law_numbers : FnScope N_law_numbers ["script", "many"] (defScope s_law_numbers) := ⟨rfl, rfl, rfl, by decide +kernel, rfl, by decide +kernel, by decide +kernel⟩
abbrev s_law_draw : Stmt := top 19
abbrev N_law_draw : List Str := ["draws", "many"]
theorem sc_law_draw : FnScope N_law_draw ["draws", "many"] (defScope s_law_draw) := ⟨rfl, rfl, rfl, by decide +kernel, rfl, by decide +kernel, by decide +kernel⟩
abbrev s_law_big : Stmt := top 20
abbrev N_law_big : List Str := ["draws", "number", "k"]
theorem sc_law_big : FnScope N_law_big ["draws"] (defScope s_law_big) := ⟨rfl, rfl, rfl, by decide +kernel, rfl, by decide +kernel, by decide +kernel⟩
abbrev s_law_reserved : Stmt := top 21
abbrev N_law_reserved : List Str := ["words"]
theorem sc_law_reserved : FnScope N_law_reserved [] (defScope s_law_reserved) := ⟨rfl, rfl, rfl, by decide +kernel, rfl, by decide +kernel, by decide +kernel⟩
abbrev s_law_word : Stmt := top 22
abbrev N_law_word : List Str := ["draws", "letters", "many", "word", "k"]
theorem sc_law_word : FnScope N_law_word ["draws"] (defScope s_law_word) := ⟨rfl, rfl, rfl, by decide +kernel, rfl, by decide +kernel, by decide +kernel⟩
abbrev s_law_token : Stmt := top 23
abbrev N_law_token : List Str := ["draws", "choice", "big", "numbers"]
theorem sc_law_token : FnScope N_law_token ["draws"] (defScope s_law_token) := ⟨rfl, rfl, rfl, by decide +kernel, rfl, by decide +kernel, by decide +kernel⟩
abbrev s_law_glued : Stmt := top 24
abbrev N_law_glued : List Str := ["before", "after", "letters"]
theorem sc_law_glued : FnScope N_law_glued ["before", "after"] (defScope s_law_glued) := ⟨rfl, rfl, rfl, by decide +kernel, rfl, by decide +kernel, by decide +kernel⟩
abbrev s_law_equal : Stmt := top 25
abbrev N_law_equal : List Str := ["actual", "expected", "k"]
theorem sc_law_equal : FnScope N_law_equal ["actual", "expected"] (defScope s_law_equal) := ⟨rfl, rfl, rfl, by decide +kernel, rfl, by decide +kernel, by decide +kernel⟩
abbrev s_law : Stmt := top 26
abbrev N_law : List Str := ["script", "draws", "menu", "many", "wide", "text", "expected", "k", "first", "token", "gap"]
theorem sc_law : FnScope N_law ["script"] (defScope s_law) := ⟨rfl, rfl, rfl, by decide +kernel, rfl, by decide +kernel, by decide +kernel⟩

open Tk TL
/-- the draws that are left stand at d -/
def DrIn (d : Addr) (H : Hp) : Prop := ∃ nums : List Int, H d = some (.lst (nums.map V.int)) ∧ ∀ x ∈ nums, 0 ≤ x ∧ x < 1000
structure Dr (d : Addr) (H H' : Hp) : Prop where
  keep : ∀ a o, a ≠ d → H a = some o → H' a = some o
  dr : DrIn d H'
theorem DrIn.same {d : Addr} {H H' : Hp} (h : DrIn d H) (s : Same H H') : DrIn d H' := by
  obtain ⟨n, e, b⟩ := h
  exact ⟨n, s _ _ e, b⟩
theorem Dr.trans {d : Addr} {H H1 H2 : Hp} (a : Dr d H H1) (b : Dr d H1 H2) : Dr d H H2 := ⟨fun x o h e => b.keep x o h (a.keep x o h e), b.dr⟩
theorem Dr.of_same {d : Addr} {H H' : Hp} (h : DrIn d H) (s : Same H H') : Dr d H H' := ⟨fun x o _ e => s x o e, h.same s⟩
theorem Dr.new {d : Addr} {H H1 : Hp} {p : Addr} {o : HO} (a : Dr d H H1) (hp : H1 p = none) : Dr d H (upd H1 p o) := a.trans (.of_same a.dr (Rd.same_new hp))
theorem Dr.refl {d : Addr} {H : Hp} (h : DrIn d H) : Dr d H H := .of_same h (Same.refl H)
theorem Dr.ne {d p : Addr} {H : Hp} (h : DrIn d H) (hp : H p = none) : p ≠ d := fun e => by
  obtain ⟨n, q, _⟩ := h
  rw [e, q] at hp; cases hp
/-- a row of tokens as a list of pairs -/
inductive Pr (H : Hp) : List V → List (List Nat × Nat) → Prop
  | nil : Pr H [] []
  | cons {q : Addr} {xs : List V} {t : List Nat} {n : Nat} {es : List (List Nat × Nat)} (h : H q = some (.tup [.str (Rd.S t), .int (n : Int)])) (r : Pr H xs es) : Pr H (.ref q :: xs) ((t, n) :: es)
def encT (e : List Nat × Nat) : PyData := .tuple [.str (Rd.S e.1), .int (e.2 : Int)]
theorem Pr.keep {H H' : Hp} {xs : List V} {es : List (List Nat × Nat)} (h : Pr H xs es) (k : ∀ q t, H q = some (.tup t) → H' q = some (.tup t)) : Pr H' xs es := by
  induction h with
  | nil => exact .nil
  | cons h _ ih => exact .cons (k _ _ h) ih
theorem Pr.dp {K : PySem.W.Frag} {H : Hp} {xs : List V} {es : List (List Nat × Nat)} (h : Pr H xs es) : DpAll K H xs (es.map encT) := by
  induction h with
  | nil => exact .nil
  | cons h _ ih => exact .cons (.tup (SqT.of h) (.cons (.str _) (.cons (.int _) .nil))) ih
theorem Pr.app {H : Hp} {xs : List V} {es : List (List Nat × Nat)} (h : Pr H xs es) {q : Addr} {t : List Nat} {n : Nat} (hq : H q = some (.tup [.str (Rd.S t), .int (n : Int)])) : Pr H (xs ++ [.ref q]) (es ++ [(t, n)]) := by
  induction h with
  | nil => exact .cons hq .nil
  | cons h _ ih => exact .cons h ih
theorem Pr.len {H : Hp} {xs : List V} {es : List (List Nat × Nat)} (h : Pr H xs es) : xs.length = es.length := by
  induction h with
  | nil => rfl
  | cons _ _ ih => exact congrArg Nat.succ ih
theorem Pr.last {H : Hp} {xs : List V} {es : List (List Nat × Nat)} (h : Pr H xs es) (hx : xs ≠ []) : ∃ xs' q es' t n, xs = xs' ++ [V.ref q] ∧ es = es' ++ [(t, n)] ∧ H q = some (.tup [.str (Rd.S t), .int ((n : Nat) : Int)]) := by
  induction h with
  | nil => exact absurd rfl hx
  | @cons q xs t n es h r ih =>
    cases r with
    | nil => exact ⟨[], q, [], t, n, rfl, rfl, h⟩
    | cons h2 r2 =>
      obtain ⟨xs', q', es', t', n', e1, e2, e3⟩ := ih (by simp)
      exact ⟨.ref q :: xs', q', (t, n) :: es', t', n', by rw [e1]; rfl, by rw [e2]; rfl, e3⟩
theorem DrIn.upd {d a : Addr} {H : Hp} {o : HO} (h : DrIn d H) (n : a ≠ d) : DrIn d (upd H a o) := by
  obtain ⟨ns, e, b⟩ := h
  exact ⟨ns, (upd_ne (Ne.symm n)).trans e, b⟩
theorem Dr.tup {d : Addr} {H H' : Hp} (hd : DrIn d H) (h : Dr d H H') : ∀ q t, H q = some (.tup t) → H' q = some (.tup t) := fun q t e => h.keep q _ (fun z => by
  obtain ⟨ns, e', _⟩ := hd
  rw [← z, e] at e'; cases e') e
theorem enc_weight : ∀ {es : List (List Nat × Nat)}, (∀ e ∈ es, e.1.length ≤ 16 ∧ e.2 ≤ 5000) → PyData.weightAll (es.map encT) ≤ es.length * 100
  | [], _ => by simp [PyData.weightAll]
  | e :: es, h => by
    have := enc_weight (es := es) fun x hx => h x (List.mem_cons_of_mem _ hx)
    obtain ⟨h1, h2⟩ := h e (List.mem_cons_self ..)
    have h3 : (PyData.int (e.2 : Int)).weight ≤ 14 := by
      simp only [PyData.weight]
      split
      · omega
      · rw [Int.natAbs_natCast]
        have := PySem.Flt.log2_lt_of (k := 13) (n := e.2) (by decide) (by omega)
        omega
    have h4 : (PyData.str (Rd.S e.1)).weight ≤ 16 := by
      simp only [PyData.weight]
      have := Rd.S_len e.1
      show (Rd.S e.1).length ≤ 16
      omega
    simp only [List.map_cons, PyData.weightAll, encT, List.length_cons]
    have h5 : (PyData.tuple [PyData.str (Rd.S e.1), PyData.int (e.2 : Int)]).weight ≤ 40 := by
      show PyData.weightAll [PyData.str (Rd.S e.1), PyData.int (e.2 : Int)] ≤ 40
      simp only [PyData.weightAll]; omega
    omega
theorem enc_depth : ∀ {es : List (List Nat × Nat)}, PyData.depthAll (es.map encT) ≤ 1
  | [] => by simp [PyData.depthAll]
  | e :: es => by
    have := enc_depth (es := es)
    simp only [List.map_cons, PyData.depthAll, encT]
    refine Nat.max_le.mpr ⟨?_, this⟩
    simp [PyData.depth, PyData.depthAll]
def inW : V → Bool
  | .int i => decide (1 ≤ i ∧ i ≤ 300)
  | _ => false
theorem inW_ok {v : V} (h : inW v = true) : ∃ i : Int, v = .int i ∧ 1 ≤ i ∧ i ≤ 300 := by
  cases v with
  | int i => exact ⟨i, rfl, of_decide_eq_true h⟩
  | _ => cases h
def isTok : V → Bool
  | .str z => decide (z.cps.toList ∈ sgns) || (decide (z.cps.toList ≠ []) && z.cps.toList.all (fun c => decide (c ∈ lets)) && decide (z.cps.toList.length ≤ 12))
  | _ => false
theorem isTok_ok {v : V} (h : isTok v = true) : ∃ t, v = .str (Rd.S t) ∧ Tok t := by
  cases v with
  | str z =>
    refine ⟨z.cps.toList, by rw [← Rd.S_of], ?_⟩
    simp only [isTok, Bool.or_eq_true, Bool.and_eq_true, decide_eq_true_eq, List.all_eq_true] at h
    rcases h with h | ⟨⟨h1, h2⟩, h3⟩
    · exact .inr (.inr h)
    · exact .inr (.inl ⟨h1, h2, h3⟩)
  | _ => cases h
def AllTok (xs : List V) : Prop := ∀ v ∈ xs, ∃ t, v = V.str (Rd.S t) ∧ Tok t
theorem AllTok.app {xs : List V} {t : List Nat} (h : AllTok xs) (ht : Tok t) : AllTok (xs ++ [.str (Rd.S t)]) := fun v hv => by
  rcases List.mem_append.mp hv with h1 | h1
  · exact h v h1
  · exact ⟨t, List.mem_singleton.mp h1, ht⟩
def in12 : V → Bool
  | .int i => decide (1 ≤ i ∧ i ≤ 12)
  | _ => false
theorem in12_ok {v : V} (h : in12 v = true) : ∃ i : Int, v = .int i ∧ 1 ≤ i ∧ i ≤ 12 := by
  cases v with
  | int i => exact ⟨i, rfl, of_decide_eq_true h⟩
  | _ => cases h
theorem inMost_ok' {v : V} (h : (match v with | .int i => decide (0 ≤ i ∧ i ≤ 1000000000000000) | _ => false) = true) : ∃ n : Nat, v = .int (n : Int) ∧ n ≤ 1000000000000000 := by
  cases v with
  | int i =>
    have h1 : 0 ≤ i ∧ i ≤ 1000000000000000 := of_decide_eq_true h
    exact ⟨i.toNat, by rw [Int.toNat_of_nonneg h1.1], by omega⟩
  | _ => cases h
def inMost : V → Bool
  | .int i => decide (0 ≤ i ∧ i ≤ 1000000000000000)
  | _ => false

def sp_tokens (K : PySem.W.Frag) : Sp := fun vs H Q _ => ∃ (l : List Nat) (es : List (List Nat × Nat)), vs = [.str (Rd.S l)] ∧ (l.length ≤ 5000) ∧ (Rem l 0 es) ∧ (es.length ≤ 200) ∧ (∀ p xs H', Same H H' → H p = none → H' p = some (.lst xs) → Pr H' xs es → Q (.ref p) H')
def sp_token_at (K : PySem.W.Frag) : Sp := fun vs H Q _ => ∃ (l t r : List Nat) (a : Nat), vs = [.str (Rd.S l), .int (a : Int)] ∧ (a < l.length) ∧ (l.length ≤ 5000) ∧ (l.drop a = t ++ r) ∧ (Tok t) ∧ (Sep t r) ∧ (Q (.str (Rd.S t)) H)
def sp_run_at (K : PySem.W.Frag) : Sp := fun vs H Q _ => ∃ (l al : List Nat) (a : Nat), vs = [.str (Rd.S l), .int (a : Int), .str (Rd.S al)] ∧ (a < l.length) ∧ (l.length ≤ 5000) ∧ (Q (.str (Rd.S ((l.drop a).takeWhile fun c => decide (c ∈ al)))) H)
def sp_sign_at (K : PySem.W.Frag) : Sp := fun vs H Q _ => ∃ (l t r : List Nat) (a : Nat), vs = [.str (Rd.S l), .int (a : Int)] ∧ (a < l.length) ∧ (l.length ≤ 5000) ∧ (l.drop a = t ++ r) ∧ (t ∈ sgns) ∧ (Sep t r) ∧ (Q (.str (Rd.S t)) H)
def sp_is_good_number (K : PySem.W.Frag) : Sp := fun vs H Q _ => ∃ (t : List Nat), vs = [.str (Rd.S t)] ∧ (Nm t) ∧ (Q (.bl true) H)
def sp_law_numbers (K : PySem.W.Frag) : Sp := fun vs H Q _ => ∃ (a : Addr) (ns : List Int) (m : Int), vs = [.ref a, .int m] ∧ (SqL K H a (ns.map V.int)) ∧ (ns.length ≤ 63) ∧ (0 ≤ m ∧ m ≤ 1000) ∧ (∀ p H', Same H H' → H p = none → DrIn p H' → Q (.ref p) H')
def sp_law_draw (K : PySem.W.Frag) : Sp := fun vs H Q _ => ∃ (d : Addr) (m : Int), vs = [.ref d, .int m] ∧ (DrIn d H) ∧ (0 < m) ∧ (∀ r H', 0 ≤ r → r < m → Dr d H H' → Q (.int r) H')
def sp_law_big (K : PySem.W.Frag) : Sp := fun vs H Q _ => ∃ (d : Addr), vs = [.ref d] ∧ (DrIn d H) ∧ (∀ r H', 0 ≤ r → Dr d H H' → Q (.int r) H')
def sp_law_reserved (K : PySem.W.Frag) : Sp := fun vs H Q _ => vs = [] ∧ (∀ p xs H', Same H H' → H' p = some (.lst xs) → xs.length = 42 → xs.all isTok = true → Q (.ref p) H')
def sp_law_word (K : PySem.W.Frag) : Sp := fun vs H Q _ => ∃ (d : Addr), vs = [.ref d] ∧ (DrIn d H) ∧ (∀ t H', Wd t → Dr d H H' → Q (.str (Rd.S t)) H')
def sp_law_token (K : PySem.W.Frag) : Sp := fun vs H Q _ => ∃ (d : Addr), vs = [.ref d] ∧ (DrIn d H) ∧ (∀ t H', Tok t → Dr d H H' → Q (.str (Rd.S t)) H')
def sp_law_glued (K : PySem.W.Frag) : Sp := fun vs H Q _ => ∃ (t u : List Nat) (c : Nat), vs = [.str (Rd.S t), .str (Rd.S (c :: u))] ∧ (t ≠ [] ∧ t.length ≤ 100) ∧ (u.length ≤ 100) ∧ (∀ b : Bool, (b = false → ¬ Gl t c) → Q (.bl b) H)
def sp_law_equal (K : PySem.W.Frag) (turns : Nat) : Sp := fun vs H Q _ => ∃ (x y : V) (d : PyData), vs = [x, y] ∧ (Dp K H x d) ∧ (Dp K H y d) ∧ (d.depth < turns) ∧ (d.weight ≤ 1000000) ∧ (Q (.bl true) H)
def sp_law (K : PySem.W.Frag) : Sp := fun vs H Q _ => ∃ (a : Addr) (ns : List Int), vs = [.ref a] ∧ (SqL K H a (ns.map V.int)) ∧ (ns.length ≤ 63) ∧ (∀ H', Q (.bl true) H')
local macro_rules | `(tactic| walk_at "cnd") => `(tactic| first
  | ((with_reducible show CMul _ _); first | (exact Or.inl (And.intro (by omega) (by omega))) | (exact Or.inr (And.intro (by omega) (by omega))))
  | ((with_reducible show CDiv _ _); exact And.intro (by omega) (by omega))
  | ((with_reducible show CPow _ _); exact And.intro (by omega) (And.intro (by omega) (by omega)))
  | ((with_reducible show Rd.CDivX _ _); exact Rd.cdivX' (by omega) (by omega))
  | ((with_reducible show (_ : Int) < _); omega)
  | ((with_reducible show (_ : Int) ≠ _); omega))
local macro_rules | `(tactic| walk_at "hp") => `(tactic| first
  | assumption
  | (with_reducible exact Rd.slL)
  | (with_reducible exact Rd.slT)
  | (with_reducible exact upd_same)
  | ((with_reducible refine SqL.of ?_); walk_at "hq")
  | ((with_reducible refine SqT.of ?_); walk_at "hq")
  | ((with_reducible refine Rd.nl ‹_› ?_); walk_at "hp")
  | ((with_reducible refine Rd.nt ‹_› ?_); walk_at "hp")
  | ((with_reducible refine Rd.nh ‹_› ?_); walk_at "hp")
  | ((with_reducible refine Rd.ul (by assumption) ?_); walk_at "hp")
  | ((with_reducible refine Rd.ut (by assumption) ?_); walk_at "hp")
  | ((with_reducible refine Rd.uh (by assumption) ?_); walk_at "hp")
  | ((with_reducible refine Same.seq ‹Same _ _› ?_); walk_at "hp")
  | ((with_reducible refine Rd.same_tup ‹Same _ _› ?_); walk_at "hp")
  | ((with_reducible refine (‹Same _ _› : Same _ _) _ _ ?_); walk_at "hp")
  | walk_at "hq2")
local macro_rules | `(tactic| walk_at "hq") => `(tactic| first
  | assumption
  | (with_reducible exact upd_same)
  | ((with_reducible refine Rd.nh ‹_› ?_); walk_at "hq")
  | ((with_reducible refine Rd.uh (by assumption) ?_); walk_at "hq")
  | ((with_reducible refine (‹Same _ _› : Same _ _) _ _ ?_); walk_at "hq")
  | walk_at "hq2")
local macro_rules | `(tactic| walk_at "rd1") => `(tactic| first
  | (with_reducible refine Rd.seq ?_)
  | (with_reducible refine Rd.asg ?_)
  | (with_reducible refine Rd.opIsN ?_)
  | (with_reducible refine Rd.opNotN ?_)
  | (with_reducible refine Rd.opAddS ?_)
  | (with_reducible refine Rd.opInS ?_)
  | (with_reducible refine Rd.op ?_)
  | (with_reducible refine Rd.cst ?_)
  | ((with_reducible show tVar _ _ _ _); refine Rd.var rfl ?_)
  | (with_reducible refine Rd.cons ?_)
  | (with_reducible refine Rd.nil ?_)
  | (with_reducible refine Rd.opI0 ?_)
  | ((with_reducible show rI CPow _ (V.int 10) (V.int _) _ _); refine Rd.pw (z := 1000000000000000) ⟨by decide, by decide, by decide⟩ (by decide) ?_)
  | ((with_reducible show rI CPow _ (V.int 10) (V.int _) _ _); refine Rd.pw (z := 1000000000000000000) ⟨by decide, by decide, by decide⟩ (by decide) ?_)
  | ((with_reducible show rI CPow _ (V.int 10) (V.int _) _ _); refine Rd.pw (z := 1000000000) ⟨by decide, by decide, by decide⟩ (by decide) ?_)
  | ((with_reducible refine Rd.opI ?_ ?_); (first | walk_at "cnd" | skip))
  | (with_reducible refine Rd.ret ?_)
  | (with_reducible refine Rd.ifS ?_)
  | (with_reducible refine Rd.tst ?_)
  | (with_reducible refine Rd.tB_ ?_)
  | (with_reducible refine Rd.bl ?_)
  | (with_reducible refine Rd.eqI ?_)
  | (with_reducible refine Rd.eqS' ?_)
  | (with_reducible refine Rd.eqS ?_)
  | (with_reducible refine Rd.eqB ?_)
  | (with_reducible refine Rd.neI ?_)
  | (with_reducible refine Rd.neS' ?_)
  | (with_reducible refine Rd.neS ?_)
  | (with_reducible refine Rd.neB ?_)
  | (with_reducible refine Rd.callN ?_)
  | (with_reducible refine Rd.cbLen ?_)
  | (with_reducible refine Rd.cbLenS ?_)
  | (with_reducible refine Rd.cbInt ?_)
  | (with_reducible refine Rd.cbIntS ?_)
  | (with_reducible refine Rd.cbAbs ?_)
  | (with_reducible refine Rd.cbStrI ?_)
  | (with_reducible refine Rd.cbLst ?_)
  | (with_reducible refine Rd.cbTup ?_)
  | (with_reducible refine Rd.cbMax2 ?_)
  | (with_reducible refine Rd.cbMin2 ?_)
  | (with_reducible refine Rd.cb ?_)
  | (with_reducible refine Rd.isN' ?_)
  | (with_reducible refine Rd.notN' ?_)
  | (with_reducible refine Rd.intB ?_)
  | (with_reducible refine Rd.max2 (fun _ _ _ _ => ?_))
  | (with_reducible refine Rd.min2 (fun _ _ _ _ => ?_))
  | (with_reducible refine Rd.int1 ?_)
  | (with_reducible refine Rd.abs1 (fun _ _ _ => ?_))
  | (with_reducible refine Rd.un ?_)
  | (with_reducible refine Rd.opU ?_)
  | (with_reducible refine Rd.tup ?_)
  | (with_reducible refine Rd.lst ?_)
  | (with_reducible refine Rd.len (Nat.le_of_ble_eq_true rfl) (fun _ _ => ?_))
  | (with_reducible refine Rd.next ?_)
  | (with_reducible refine Rd.chain ?_)
  | (with_reducible refine Rd.andV ?_)
  | (with_reducible refine Rd.orV ?_)
  | (with_reducible refine Rd.notV ?_)
  | (with_reducible refine Rd.and_ ?_)
  | (with_reducible refine Rd.or_ ?_)
  | (with_reducible refine Rd.not_ ?_)
  | (with_reducible refine Rd.ifE ?_)
  | (with_reducible refine Rd.iteT ?_)
  | (with_reducible refine Rd.iteF ?_)
  | (with_reducible refine Rd.iteD (fun _ => ?_) (fun _ => ?_))
  | (with_reducible refine Rd.iteN (fun _ => ?_) (fun _ => ?_))
  | (with_reducible refine Rd.drop ?_)
  | (with_reducible refine Rd.app ?_)
  | ((with_reducible refine Rd.tyL (xs := ?xs) ?h ?_); (case h => walk_at "hq"))
  | ((with_reducible refine Rd.appd (xs := ?xs) ?h ?z ?_); (case h => walk_at "hq"); (case z => walk_at "sz"))
  | ((with_reducible refine Rd.setL (xs := ?xs) (j := ?j) ?h ?e ?_); (case h => walk_at "hq"); (case e => rfl))
  | ((with_reducible refine Rd.lenL (ys := ?ys) ?h rfl ?_); (case h => walk_at "hp"))
  | ((with_reducible refine Rd.lenT (ys := ?ys) ?h rfl ?_); (case h => walk_at "hp"))
  | ((with_reducible refine Rd.ixL (xs := ?xs) (v := ?v) ?h ?a ?_); (case h => walk_at "hp"); (case a => walk_at "ix"))
  | ((with_reducible refine Rd.ixT (xs := ?xs) (v := ?v) ?h ?a ?_); (case h => walk_at "hp"); (case a => walk_at "ix"))
  | ((with_reducible refine Rd.isiI (r := ?r) ?e ?_); (case e => first | exact Rd.kb_int_int | exact Rd.kb_int_bool | exact Rd.kb_int_str | exact Rd.kb_int_tuple | exact Rd.kb_int_list | exact Rd.kb_int_dict))
  | ((with_reducible refine Rd.isiB (r := ?r) ?e ?_); (case e => first | exact Rd.kb_bool_int | exact Rd.kb_bool_bool | exact Rd.kb_bool_str | exact Rd.kb_bool_tuple | exact Rd.kb_bool_list | exact Rd.kb_bool_dict))
  | ((with_reducible refine Rd.isiS (r := ?r) ?e ?_); (case e => first | exact Rd.kb_str_int | exact Rd.kb_str_bool | exact Rd.kb_str_str | exact Rd.kb_str_tuple | exact Rd.kb_str_list | exact Rd.kb_str_dict))
  | ((with_reducible refine Rd.isiN (r := ?r) ?e ?_); (case e => first | exact Rd.kb_NoneType_int | exact Rd.kb_NoneType_bool | exact Rd.kb_NoneType_str | exact Rd.kb_NoneType_tuple | exact Rd.kb_NoneType_list | exact Rd.kb_NoneType_dict))
  | ((with_reducible refine Rd.isiT (xs := ?xs) (r := ?r) ?h ?e ?_); (case h => walk_at "hp"); (case e => first | exact Rd.kb_tuple_int | exact Rd.kb_tuple_bool | exact Rd.kb_tuple_str | exact Rd.kb_tuple_tuple | exact Rd.kb_tuple_list | exact Rd.kb_tuple_dict))
  | ((with_reducible refine Rd.isiL (xs := ?xs) (r := ?r) ?h ?e ?_); (case h => walk_at "hp"); (case e => first | exact Rd.kb_list_int | exact Rd.kb_list_bool | exact Rd.kb_list_str | exact Rd.kb_list_tuple | exact Rd.kb_list_list | exact Rd.kb_list_dict))
  | (with_reducible refine Rd.iteNT ?_)
  | (with_reducible refine Rd.iteNF ?_)
  | (with_reducible refine Rd.iteB (fun _ => ?_) (fun _ => ?_))
  | (with_reducible refine Rd.asgS ?_)
  | (with_reducible refine Rd.for_ ?_)
  | (with_reducible refine Rd.iR1 ?_)
  | (with_reducible refine Rd.iR2 ?_)
  | (with_reducible refine Rd.iL ?_)
  | (with_reducible refine Rd.iT ?_)
  | (with_reducible refine Rd.lc_ ?_)
  | (with_reducible refine Rd.brk ?_)
  | (with_reducible refine Rd.cont ?_)
  | (with_reducible refine Rd.retN ?_)
  | (with_reducible refine Rd.sl ?_)
  | ((with_reducible show tAug _ _ _ _ _ _); refine Rd.aug rfl ?_)
  | (with_reducible refine Rd.augI ?_)
  | (with_reducible refine Rd.inS ?_)
  | (with_reducible refine Rd.bm0 ?_)
  | (with_reducible refine Rd.revL ?_)
  | ((with_reducible refine Rd.slL' (xs := ?xs) ?h (fun _ _ => ?_)); (case h => walk_at "hp"))
  | ((with_reducible refine Rd.revL' (xs := ?xs) ?h (fun _ _ => ?_)); (case h => walk_at "hp"))
  | ((with_reducible refine Rd.catL (xs := ?xs) (ys := ?ys) ?a ?b ?z (fun _ _ => ?_)); (case a => walk_at "hq"); (case b => walk_at "hq"); (case z => walk_at "sz"))
  | (with_reducible refine Rd.nopart ?_)
  | (with_reducible refine Rd.part ?_)
  | (with_reducible refine Rd.part' ?_)
  | (with_reducible refine Rd.whlN ?_)
  | ((with_reducible refine Rd.addS' ?h ?_); (case h => walk_at "tz"))
  | ((with_reducible refine Rd.lenS' ?h ?_); (case h => walk_at "tz"))
  | ((with_reducible refine Rd.mulS1 ?h ?_); (case h => omega))
  | ((with_reducible refine Rd.ixS (c := ?c) ?h ?a ?_); (case h => walk_at "tz"); (case a => walk_at "ixs"))
  | walk_at "use")
local macro_rules | `(tactic| walk_at "sz") => `(tactic| first
  | (simp only [List.length_map, List.length_append, List.length_cons, List.length_nil]; omega)
  | omega | decide)
local macro_rules | `(tactic| walk_at "tz") => `(tactic| first
  | omega
  | (simp only [List.length_append, List.length_cons, List.length_nil, List.length_replicate]; omega)
  | decide)
local macro_rules | `(tactic| walk_at "ixs") => `(tactic| first
  | assumption
  | ((with_reducible show atI (_ :: _) _ = _); (first | rfl | exact Rd.atI_of (by decide) rfl)))
local macro_rules | `(tactic| walk_at "ix") => `(tactic| first
  | (with_reducible refine Rd.atI_ints ?_ ?_ <;> omega)
  | ((with_reducible show atI (_ :: _) _ = _); (first | rfl | exact Rd.atI_of (by decide) rfl))
  | ((with_reducible show atI (List.set (_ :: _) _ _) _ = _); rfl))
local macro_rules | `(tactic| walk_at "rd") => `(tactic| repeat' (walk_at "rd1"))
local macro_rules | `(tactic| walk_at "sm") => `(tactic| first
  | (with_reducible exact Same.refl _)
  | assumption
  | ((with_reducible refine Same.trans ?_ (Rd.same_new ‹_›)); walk_at "sm")
  | ((with_reducible refine Same.trans ?_ ‹Same _ _›); walk_at "sm"))

local macro_rules | `(tactic| walk_at "rj") => `(tactic| repeat' ((fail_if_success (with_reducible show tSeq (tIfS _ _ _) _ _ _ _)); walk_at "rd1"))


local macro_rules | `(tactic| walk_at "use") => `(tactic| first
  | ((with_reducible show sp_is_good_number _ _ _ _ _); refine ⟨_, rfl, ?d, ?_⟩; (case d => assumption))
  | ((with_reducible show sp_law_draw _ _ _ _ _); refine ⟨_, _, rfl, ?d, ?m, fun _ _ _ _ _ => ?_⟩; (case d => walk_at "dr"); (case m => omega))
  | ((with_reducible show sp_law_big _ _ _ _ _); refine ⟨_, rfl, ?d, fun _ _ _ _ => ?_⟩; (case d => walk_at "dr"))
  | ((with_reducible show sp_law_word _ _ _ _ _); refine ⟨_, rfl, ?d, fun _ _ _ _ => ?_⟩; (case d => walk_at "dr"))
  | ((with_reducible show sp_law_token _ _ _ _ _); refine ⟨_, rfl, ?d, fun _ _ _ _ => ?_⟩; (case d => walk_at "dr")))
local macro_rules | `(tactic| walk_at "ne") => `(tactic| first
  | assumption
  | (refine Dr.ne (H := ?H) ?dr ?hp; (case hp => assumption); (case dr => walk_at "dr")))
local macro_rules | `(tactic| walk_at "hq2") => `(tactic| ((with_reducible refine Dr.keep ‹Dr _ _ _› _ _ ?n ?_); (case n => walk_at "ne"); walk_at "hq"))
local macro_rules | `(tactic| walk_at "dr") => `(tactic| first
  | assumption
  | ((with_reducible refine DrIn.same ?_ (Rd.same_new ‹_›)); walk_at "dr")
  | (with_reducible exact Dr.dr ‹_›))
local macro_rules | `(tactic| walk_at "dt") => `(tactic| first
  | (with_reducible exact Dr.refl ‹_›)
  | assumption
  | ((with_reducible refine Dr.new ?_ ‹_›); walk_at "dt")
  | ((with_reducible refine Dr.trans ?_ ‹Dr _ _ _›); walk_at "dt"))

theorem lit_0 : Str.ofString " " = Rd.S [32] := by decide +kernel
theorem lit_1 : Str.ofString "" = Rd.S [] := by decide +kernel
theorem lit_2 : Str.ofString "0" = Rd.S [48] := by decide +kernel
theorem lit_3 : Str.ofString "begins" = Rd.S [98, 101, 103, 105, 110, 115] := by decide +kernel
theorem lit_4 : Str.ofString "ends" = Rd.S [101, 110, 100, 115] := by decide +kernel
theorem lit_5 : Str.ofString "signers" = Rd.S [115, 105, 103, 110, 101, 114, 115] := by decide +kernel
theorem lit_6 : Str.ofString "spent" = Rd.S [115, 112, 101, 110, 116] := by decide +kernel
theorem lit_7 : Str.ofString "looked" = Rd.S [108, 111, 111, 107, 101, 100] := by decide +kernel
theorem lit_8 : Str.ofString "made" = Rd.S [109, 97, 100, 101] := by decide +kernel
theorem lit_9 : Str.ofString "here" = Rd.S [104, 101, 114, 101] := by decide +kernel
theorem lit_10 : Str.ofString "datum" = Rd.S [100, 97, 116, 117, 109] := by decide +kernel
theorem lit_11 : Str.ofString "redeemer" = Rd.S [114, 101, 100, 101, 101, 109, 101, 114] := by decide +kernel
theorem lit_12 : Str.ofString "guarding" = Rd.S [103, 117, 97, 114, 100, 105, 110, 103] := by decide +kernel
theorem lit_13 : Str.ofString "first" = Rd.S [102, 105, 114, 115, 116] := by decide +kernel
theorem lit_14 : Str.ofString "second" = Rd.S [115, 101, 99, 111, 110, 100] := by decide +kernel
theorem lit_15 : Str.ofString "count" = Rd.S [99, 111, 117, 110, 116] := by decide +kernel
theorem lit_16 : Str.ofString "head" = Rd.S [104, 101, 97, 100] := by decide +kernel
theorem lit_17 : Str.ofString "tail" = Rd.S [116, 97, 105, 108] := by decide +kernel
theorem lit_18 : Str.ofString "item" = Rd.S [105, 116, 101, 109] := by decide +kernel
theorem lit_19 : Str.ofString "coin" = Rd.S [99, 111, 105, 110] := by decide +kernel
theorem lit_20 : Str.ofString "held" = Rd.S [104, 101, 108, 100] := by decide +kernel
theorem lit_21 : Str.ofString "data" = Rd.S [100, 97, 116, 97] := by decide +kernel
theorem lit_22 : Str.ofString "keyed" = Rd.S [107, 101, 121, 101, 100] := by decide +kernel
theorem lit_23 : Str.ofString "homed" = Rd.S [104, 111, 109, 101, 100] := by decide +kernel
theorem lit_24 : Str.ofString "minted" = Rd.S [109, 105, 110, 116, 101, 100] := by decide +kernel
theorem lit_25 : Str.ofString "signed" = Rd.S [115, 105, 103, 110, 101, 100] := by decide +kernel
theorem lit_26 : Str.ofString "spends" = Rd.S [115, 112, 101, 110, 100, 115] := by decide +kernel
theorem lit_27 : Str.ofString "def" = Rd.S [100, 101, 102] := by decide +kernel
theorem lit_28 : Str.ofString "let" = Rd.S [108, 101, 116] := by decide +kernel
theorem lit_29 : Str.ofString "in" = Rd.S [105, 110] := by decide +kernel
theorem lit_30 : Str.ofString "if" = Rd.S [105, 102] := by decide +kernel
theorem lit_31 : Str.ofString "then" = Rd.S [116, 104, 101, 110] := by decide +kernel
theorem lit_32 : Str.ofString "else" = Rd.S [101, 108, 115, 101] := by decide +kernel
theorem lit_33 : Str.ofString "fold" = Rd.S [102, 111, 108, 100] := by decide +kernel
theorem lit_34 : Str.ofString "from" = Rd.S [102, 114, 111, 109] := by decide +kernel
theorem lit_35 : Str.ofString "do" = Rd.S [100, 111] := by decide +kernel
theorem lit_36 : Str.ofString "note" = Rd.S [110, 111, 116, 101] := by decide +kernel
theorem lit_37 : Str.ofString "or" = Rd.S [111, 114] := by decide +kernel
theorem lit_38 : Str.ofString "and" = Rd.S [97, 110, 100] := by decide +kernel
theorem lit_39 : Str.ofString "not" = Rd.S [110, 111, 116] := by decide +kernel
theorem lit_40 : Str.ofString "div" = Rd.S [100, 105, 118] := by decide +kernel
theorem lit_41 : Str.ofString "mod" = Rd.S [109, 111, 100] := by decide +kernel
theorem lit_42 : Str.ofString "true" = Rd.S [116, 114, 117, 101] := by decide +kernel
theorem lit_43 : Str.ofString "false" = Rd.S [102, 97, 108, 115, 101] := by decide +kernel
theorem lit_44 : Str.ofString "fail" = Rd.S [102, 97, 105, 108] := by decide +kernel
theorem lit_45 : Str.ofString "abcdefghijklmnopqrstuvwxyz" = Rd.S [97, 98, 99, 100, 101, 102, 103, 104, 105, 106, 107, 108, 109, 110, 111, 112, 113, 114, 115, 116, 117, 118, 119, 120, 121, 122] := by decide +kernel
theorem lit_46 : Str.ofString "==" = Rd.S [61, 61] := by decide +kernel
theorem lit_47 : Str.ofString "<=" = Rd.S [60, 61] := by decide +kernel
theorem lit_48 : Str.ofString "<" = Rd.S [60] := by decide +kernel
theorem lit_49 : Str.ofString "=" = Rd.S [61] := by decide +kernel
theorem lit_50 : Str.ofString "+" = Rd.S [43] := by decide +kernel
theorem lit_51 : Str.ofString "-" = Rd.S [45] := by decide +kernel
theorem lit_52 : Str.ofString "*" = Rd.S [42] := by decide +kernel
theorem lit_53 : Str.ofString "(" = Rd.S [40] := by decide +kernel
theorem lit_54 : Str.ofString ")" = Rd.S [41] := by decide +kernel
theorem lit_55 : Str.ofString "[" = Rd.S [91] := by decide +kernel
theorem lit_56 : Str.ofString "]" = Rd.S [93] := by decide +kernel
theorem lit_57 : Str.ofString "," = Rd.S [44] := by decide +kernel
theorem lit_58 : Str.ofString ";" = Rd.S [59] := by decide +kernel
theorem lit_59 : Str.ofString "0123456789" = Rd.S [48, 49, 50, 51, 52, 53, 54, 55, 56, 57] := by decide +kernel
theorem lit_60 : Str.ofString "x" = Rd.S [120] := by decide +kernel
section
variable {P : Program} {w : World} {K : PySem.W.Frag} {mg : Str → Option Value} {base : Heap}
theorem fn_run_at {f : Addr} {fd : FuncData} (F : FnP K "_run_at" s_run_at f fd)  (z_len : mg "len" = none) : FnOk P w K mg base CX0 1 f fd ["text", "at", "allowed"] (sp_run_at K) := by
  refine F.ok sc_run_at (fun vs H Q E h => ?_) (fun cdv A outer s H vs Q E hr h => ?_)
  · obtain ⟨l, al, a, rfl, _⟩ := h; rfl
  · obtain ⟨l, al, a, rfl, ha, hl, k⟩ := h
    refine ⟨_, PSs.nox (pss_cons (ps_set (i := 3) sc_run_at.nd rfl (by first | exact Or.inl rfl | exact Or.inr rfl) (pv 1))
      (pss_cons (ps_while PassesOwn.never (PW.pt (pw_and (pt_cmpR op_lt (pv 3) (pe_callB call_len_str (by rfl) z_len boot_len (pa_cons (pv 0) pa_nil)) (nomark _)) (pw_and1 (pt_cmpR op_in_sign (pe_ix ix_str (pv 0) (pv 3) (fun _ _ => rfl)) (pv 2) (by rfl))))) (pss_one (ps_aug (i := 3) sc_run_at.nd rfl (by first | exact Or.inl rfl | exact Or.inr rfl) pe_int ip_add)))
      (pss_one (ps_ret (pe_slice sl_str (pv 0) (po_some (pv 1)) (po_some (pv 3))))))), ?_⟩
    try simp only [Rd.cxK]
    walk_at "rd"
    refine Rd.whl (fun m σ' H' => ∃ e : Nat, σ' = [some (.str (Rd.S l)), some (.int (a : Int)), some (.str (Rd.S al)), some (.int (e : Int))] ∧ a ≤ e ∧ e ≤ l.length ∧ m = l.length - e ∧ H' = H ∧ ∀ i, a ≤ i → i < e → decide (l.getD i 0 ∈ al) = true) ⟨_, a, rfl, Nat.le_refl _, by omega, rfl, rfl, fun i h1 h2 => by omega⟩ ?_
    rintro m σ' H' ⟨e, rfl, h1, h2, rfl, rfl, h3⟩
    walk_at "rd"
    · rename_i he
      have he' : e < l.length := by omega
      refine Rd.ixS (c := l.getD e 0) (by omega) (Rd.atI_of (by omega) ?_) ?_
      · rw [Int.toNat_natCast, List.getD_eq_getElem?_getD, List.getElem?_eq_getElem he']; rfl
      walk_at "rd"
      · rename_i hc
        refine ⟨_, ?_, e + 1, rfl, by omega, by omega, rfl, rfl, fun i h4 h5 => ?_⟩
        · omega
        · by_cases h6 : i = e
          · subst h6; exact decide_eq_true hc
          · exact h3 i h4 (by omega)
      · rename_i hc
        refine Rd.slS (a := a) (b := e) rfl rfl (by omega) (by omega) ?_
        rw [Tk.run_at (p := fun c => decide (c ∈ al)) h1 h2 h3 (fun _ => decide_eq_false hc)]
        exact k
    · rename_i he
      refine Rd.slS (a := a) (b := e) rfl rfl (by omega) (by omega) ?_
      rw [Tk.run_at (p := fun c => decide (c ∈ al)) h1 h2 h3 (fun _ => by omega)]
      exact k
theorem ok_run_at {f : Addr} {fd : FuncData} (mf : mg "_run_at" = some (.ref f)) (F : FnP K "_run_at" s_run_at f fd)  (z_len : mg "len" = none) : Cal P w K mg base "_run_at" 1 ["text", "at", "allowed"] (sp_run_at K) :=
  ⟨f, fd, mf, F.kp, F.bindsN fun _ _ _ _ _ _ us hl => match us, hl with | [_, _, _], _ => rfl, fn_run_at F z_len⟩

theorem fn_sign_at {f : Addr} {fd : FuncData} (F : FnP K "_sign_at" s_sign_at f fd)  (z_len : mg "len" = none) (W__SIGNS : ∃ a, mg "_SIGNS" = some (.ref a) ∧ ∀ H, SqT K H a (Tk.sgns.map fun t => V.str (Rd.S t))) : FnOk P w K mg base CX0 1 f fd ["text", "at"] (sp_sign_at K) := by
  obtain ⟨a_S, g__SIGNS, h_S⟩ := W__SIGNS; have g__SIGNS_r : RelV (.ref a_S) (.ref a_S) := rfl
  refine F.ok sc_sign_at (fun vs H Q E h => ?_) (fun cdv A outer s H vs Q E hr h => ?_)
  · obtain ⟨l, t, r, a, rfl, _⟩ := h; rfl
  · obtain ⟨l, t, r, a, rfl, ha, hl, hd, ht, hs, k⟩ := h
    refine ⟨_, PSs.nox (pss_cons (ps_for PassesOwn.never rfl (pi_tup (pe_glob (by rfl) g__SIGNS g__SIGNS_r)) (pg_name (i := 2) sc_sign_at.nd rfl (by first | exact Or.inl rfl | exact Or.inr rfl)) (pss_one (ps_if (pt_cmpR op_eq (pe_slice sl_str (pv 0) (po_some (pv 1)) (po_some (pe_op op_add (pv 1) (pe_callB call_len_str (by rfl) z_len boot_len (pa_cons (pv 2) pa_nil))))) (pv 2) (nomark _)) (pss_one (ps_ret (pv 2))) pss_nil)))
      (pss_one (ps_ret pe_str))), ?_⟩
    try simp only [Rd.cxK, lit_1]
    walk_at "rd"
    refine Rd.forT (fun i σ' H' => ∃ sv, σ' = [some (.str (Rd.S l)), some (.int (a : Int)), sv] ∧ H' = H ∧ t ∉ sgns.take i) (h_S H) ⟨_, rfl, rfl, by simp⟩ (fun i σ' H' _ _ => h_S H') ?_ ?_
    · rintro i x σ' H' hi ⟨sv, rfl, rfl, hno⟩
      obtain ⟨u, hu, rfl⟩ : ∃ u, sgns[i]? = some u ∧ x = V.str (Rd.S u) := by
        rw [List.getElem?_map] at hi
        cases e : sgns[i]? with
        | none => rw [e] at hi; cases hi
        | some u => rw [e] at hi; exact ⟨u, rfl, (Option.some.inj hi).symm⟩
      have hum : u ∈ sgns := List.mem_of_getElem? hu
      have hul := (signs_ne u hum).2.1
      show tIfS _ _ _ _ _ _
      walk_at "rd"
      refine Rd.slS (a := a) (b := a + u.length) rfl (by omega) (by omega) (by omega) ?_
      walk_at "rd"
      · rename_i he
        rw [hd, show a + u.length - a = u.length by omega] at he
        rcases sign_one ht hum hs he with e | e
        · rw [e]; exact k
        · exact absurd (sign_two ht hu he e) hno
      · rename_i he
        refine ⟨_, rfl, rfl, ?_⟩
        rw [List.take_add_one, hu]
        intro hm
        rcases List.mem_append.mp hm with h | h
        · exact hno h
        · have : t = u := by simpa using h
          subst this
          exact he (by rw [hd, show a + t.length - a = t.length by omega, List.take_left])
    · rintro σ' H' ⟨sv, rfl, rfl, hno⟩
      exact absurd ht (by rw [List.length_map] at hno; rwa [List.take_length] at hno)
theorem ok_sign_at {f : Addr} {fd : FuncData} (mf : mg "_sign_at" = some (.ref f)) (F : FnP K "_sign_at" s_sign_at f fd)  (z_len : mg "len" = none) (W__SIGNS : ∃ a, mg "_SIGNS" = some (.ref a) ∧ ∀ H, SqT K H a (Tk.sgns.map fun t => V.str (Rd.S t))) : Cal P w K mg base "_sign_at" 1 ["text", "at"] (sp_sign_at K) :=
  ⟨f, fd, mf, F.kp, F.bindsN fun _ _ _ _ _ _ us hl => match us, hl with | [_, _], _ => rfl, fn_sign_at F z_len W__SIGNS⟩

theorem fn_is_good_number {f : Addr} {fd : FuncData} (F : FnP K "_is_good_number" s_is_good_number f fd)  (z_int : mg "int" = none) (z_len : mg "len" = none) (z_str : mg "str" = none) (W_MOST : ∃ t, mg "MOST" = some (.int 1000000000000000 t)) : FnOk P w K mg base CX0 1 f fd ["digits"] (sp_is_good_number K) := by
  obtain ⟨t_MOST, g_MOST⟩ := W_MOST; have g_MOST_r : RelV (.int 1000000000000000) (.int 1000000000000000 t_MOST) := ⟨_, rfl⟩
  refine F.ok sc_is_good_number (fun vs H Q E h => ?_) (fun cdv A outer s H vs Q E hr h => ?_)
  · obtain ⟨t, rfl, _⟩ := h; rfl
  · obtain ⟨t, rfl, ht, k⟩ := h
    refine ⟨_, PSs.nox (pss_cons (ps_if (pt_cmpR op_eq (pe_ix ix_str (pv 0) pe_int (fun _ _ => rfl)) pe_str (nomark _)) (pss_one (ps_ret (pe_cmpR op_eq (pv 0) pe_str (nomark _)))) pss_nil)
      (pss_one (ps_ret (pe_and (pe_cmpR op_le (pe_callB call_len_str (by rfl) z_len boot_len (pa_cons (pv 0) pa_nil)) (pe_callB call_len_str (by rfl) z_len boot_len (pa_cons (pe_callTy call_str_int (by rfl) z_str boot_str (pa_cons (pe_glob (by rfl) g_MOST g_MOST_r) pa_nil)) pa_nil)) (nomark _)) (pe_one (pe_cmpR op_le (pe_callTy call_int_str (by rfl) z_int boot_int (pa_cons (pv 0) pa_nil)) (pe_glob (by rfl) g_MOST g_MOST_r) (nomark _))))))), ?_⟩
    try simp only [Rd.cxK, lit_2]
    obtain ⟨hne, hdg⟩ := ht.digs
    have hln := ht.len
    obtain ⟨n, hn, rfl⟩ := id ht
    have hi : PySem.intText? (Rd.S (numL n)) = some (n : Int) := by
      have := int_num (n := n) (by omega)
      rwa [Rd.S_of (Str.ofString (toString ((n : Nat) : Int))), show (Str.ofString (toString ((n : Nat) : Int))).cps.toList = numL n from tl_num n] at this
    cases hc : numL n with
    | nil => exact absurd hc hne
    | cons c r =>
      rw [hc] at hi hln hdg
      have hln' : r.length ≤ 15 := by simpa using hln
      have dbg1 : (c :: r).length ≤ 100000 := by walk_at "tz"
      have dbg2 : atI (c :: r) 0 = some c := by walk_at "ixs"
      have h15 : Str.ofString (toString (1000000000000000 : Int)) = Rd.S [49, 48, 48, 48, 48, 48, 48, 48, 48, 48, 48, 48, 48, 48, 48, 48] := by decide +kernel
      walk_at "rd"
      · rename_i h48
        have h0 : n = 0 := Tk.numL_lead n r (by rw [hc, (List.cons.inj h48).1])
        refine Rd.finT k ?_
        rw [← hc, h0]; rfl
      · refine Rd.strI (by decide) h15 ?_
        walk_at "rd"
        · refine Rd.intS hi (by omega) ?_
          walk_at "rd"
          exact Rd.finT k (by omega)
        · rename_i h16; exact absurd (by simp only [List.length_cons, List.length_nil]; omega) h16
theorem ok_is_good_number {f : Addr} {fd : FuncData} (mf : mg "_is_good_number" = some (.ref f)) (F : FnP K "_is_good_number" s_is_good_number f fd)  (z_int : mg "int" = none) (z_len : mg "len" = none) (z_str : mg "str" = none) (W_MOST : ∃ t, mg "MOST" = some (.int 1000000000000000 t)) : Cal P w K mg base "_is_good_number" 1 ["digits"] (sp_is_good_number K) :=
  ⟨f, fd, mf, F.kp, F.bindsN fun _ _ _ _ _ _ us hl => match us, hl with | [_], _ => rfl, fn_is_good_number F z_int z_len z_str W_MOST⟩

theorem fn_law_numbers {f : Addr} {fd : FuncData} (F : FnP K "_law_numbers" s_law_numbers f fd)  (z_abs : mg "abs" = none) (z_int : mg "int" = none) (z_range : mg "range" = none) (z_len : mg "len" = none) : FnOk P w K mg base CX0 1 f fd ["script", "many"] (sp_law_numbers K) := by
  refine F.ok sc_law_numbers (fun vs H Q E h => ?_) (fun cdv A outer s H vs Q E hr h => ?_)
  · obtain ⟨a, ns, m, rfl, _⟩ := h; rfl
  · obtain ⟨a, ns, m, rfl, hS, h63, hm, k⟩ := h
    refine ⟨_, PSs.nox (pss_cons (ps_set (i := 2) sc_law_numbers.nd rfl (by first | exact Or.inl rfl | exact Or.inr rfl) (pe_lst pa_nil))
      (pss_cons (ps_set (i := 3) sc_law_numbers.nd rfl (by first | exact Or.inl rfl | exact Or.inr rfl) pe_int)
      (pss_cons (ps_for PassesOwn.never rfl (pi_list (pv 0)) (pg_name (i := 4) sc_law_numbers.nd rfl (by first | exact Or.inl rfl | exact Or.inr rfl)) (pss_cons (ps_set (i := 6) sc_law_numbers.nd rfl (by first | exact Or.inl rfl | exact Or.inr rfl) (pe_callB call_abs (by rfl) z_abs boot_abs (pa_cons (pv 4) pa_nil)))
      (pss_cons (ps_set (i := 3) sc_law_numbers.nd rfl (by first | exact Or.inl rfl | exact Or.inr rfl) (pe_op op_mod (pe_callTy call_int1 (by rfl) z_int boot_int (pa_cons (pe_op op_add (pe_op op_add (pe_op op_mul (pv 3) pe_int) (pe_op op_mul (pv 6) pe_int)) pe_int) pa_nil)) pe_int))
      (pss_one (ps_if (pt_cmpR op_ge (pv 6) (pe_op op_pow pe_int pe_int) (nomark _)) (pss_one (ps_for PassesOwn.never rfl (pi_range1 (by rfl) z_range (pa_cons pe_int pa_nil)) (pg_name (i := 8) sc_law_numbers.nd rfl (by first | exact Or.inl rfl | exact Or.inr rfl)) (pss_one (ps_if (pt_cmpR op_ge (pv 6) pe_int (nomark _)) (pss_cons (ps_expr (pe_bm PySem.F.plainAttrs_list PySem.F.slot_list_append PySem.F.type_list_append mt_append (pv 2) (pa_cons (pe_op op_mod (pe_callTy call_int1 (by rfl) z_int boot_int (pa_cons (pv 6) pa_nil)) pe_int) pa_nil)))
      (pss_one (ps_set (i := 6) sc_law_numbers.nd rfl (by first | exact Or.inl rfl | exact Or.inr rfl) (pe_op op_fdiv (pv 6) pe_int)))) pss_nil)))) pss_nil)))))
      (pss_cons (ps_set (i := 2) sc_law_numbers.nd rfl (by first | exact Or.inl rfl | exact Or.inr rfl) (pe_slice sl_list (pv 2) po_none (po_some (pv 1))))
      (pss_cons (ps_for PassesOwn.never rfl (pi_range1 (by rfl) z_range (pa_cons (pe_op op_sub (pv 1) (pe_callB call_len_seq (by rfl) z_len boot_len (pa_cons (pv 2) pa_nil))) pa_nil)) (pg_name (i := 5) sc_law_numbers.nd rfl (by first | exact Or.inl rfl | exact Or.inr rfl)) (pss_cons (ps_set (i := 7) sc_law_numbers.nd rfl (by first | exact Or.inl rfl | exact Or.inr rfl) (pe_op op_mod (pe_callTy call_int1 (by rfl) z_int boot_int (pa_cons (pe_op op_add (pe_op op_add (pe_op op_mul (pv 3) pe_int) (pe_op op_mul (pv 5) pe_int)) pe_int) pa_nil)) pe_int))
      (pss_cons (ps_set (i := 7) sc_law_numbers.nd rfl (by first | exact Or.inl rfl | exact Or.inr rfl) (pe_op op_mod (pe_callTy call_int1 (by rfl) z_int boot_int (pa_cons (pe_op op_add (pe_op op_add (pe_op op_mul (pv 7) (pv 7)) (pe_op op_mul pe_int (pv 5))) pe_int) pa_nil)) pe_int))
      (pss_one (ps_expr (pe_bm PySem.F.plainAttrs_list PySem.F.slot_list_append PySem.F.type_list_append mt_append (pv 2) (pa_cons (pe_op op_mod (pe_callTy call_int1 (by rfl) z_int boot_int (pa_cons (pe_op op_fdiv (pv 7) pe_int) pa_nil)) pe_int) pa_nil)))))))
      (pss_one (ps_ret (pe_revL (pv 2))))))))), ?_⟩
    try simp only [Rd.cxK]
    walk_at "rd"
    rename_i n hn
    refine Rd.forL (fun i σ' H' => ∃ (z : Int) (nums : List Int) (c1 c2 c3 c4 c5 : Option V), σ' = [some (.ref a), some (.int m), some (.ref n), some (.int z), c1, c2, c3, c4, c5] ∧ 0 ≤ z ∧ z < 2147483647 ∧ Same H H' ∧ H' n = some (.lst (nums.map V.int)) ∧ nums.length ≤ 60 * i ∧ ∀ x ∈ nums, 0 ≤ x ∧ x < 1000) (Rd.nl hn hS) ⟨7, [], _, _, _, _, _, rfl, by omega, by omega, Rd.same_new hn, upd_same, by simp, by simp⟩ ?_ ?_ ?_
    · rintro i σ' H' _ ⟨z, nums, c1, c2, c3, c4, c5, rfl, hz, hz2, hs, hx, hl, hb⟩
      exact hs.seq hS
    · rintro i x σ' H' hi ⟨z, nums, c1, c2, c3, c4, c5, rfl, hz, hz2, hs, hx, hl, hb⟩
      have hi2 : i < ns.length := by
        have := (List.getElem?_eq_some_iff.mp hi).1
        simpa using this
      obtain ⟨cell, rfl⟩ : ∃ u, x = V.int u := by
        rw [List.getElem?_map] at hi
        cases e : ns[i]? with
        | none => rw [e] at hi; cases hi
        | some u => rw [e] at hi; exact ⟨u, (Option.some.inj hi).symm⟩
      show tSeq _ _ _ _ _
      walk_at "rd"
      · rename_i w hw0 hw1 hbig
        refine Rd.rng1 (fun j σ' H' => ∃ (r z : Int) (nums : List Int) (c3 c4 c5 : Option V), σ' = [some (.ref a), some (.int m), some (.ref n), some (.int z), some (.int cell), c3, some (.int r), c4, c5] ∧ 0 ≤ r ∧ 0 ≤ z ∧ z < 2147483647 ∧ Same H H' ∧ H' n = some (.lst (nums.map V.int)) ∧ nums.length ≤ 60 * i + j ∧ ∀ x ∈ nums, 0 ≤ x ∧ x < 1000) ⟨by omega, by omega⟩ ?_ ?_ ?_
        · exact ⟨w, _, nums, _, _, _, rfl, hw0, by omega, by omega, hs, hx, by omega, hb⟩
        · rintro j σ' H2 hj ⟨r, z', nums', c3', c4', c5', rfl, hr0, hz', hz2', hs', hx', hl', hb'⟩
          walk_at "rd"
          · refine ⟨_, _, nums' ++ [_], _, _, _, rfl, by omega, hz', hz2', Rd.same_mut hs' hn, Rd.pushInts, ?_, Rd.bd_app hb' (by omega)⟩
            simp; omega
          · exact ⟨_, _, nums', _, _, _, rfl, hr0, hz', hz2', hs', hx', by omega, hb'⟩
        · rintro σ' H2 ⟨r, z', nums', c3', c4', c5', rfl, hr0, hz', hz2', hs', hx', hl', hb'⟩
          have hl2 : nums'.length ≤ 60 * (i + 1) := by simp at hl'; omega
          exact ⟨_, nums', _, _, _, _, _, rfl, hz', hz2', hs', hx', hl2, hb'⟩
      · exact ⟨_, nums, _, _, _, _, _, rfl, by omega, by omega, hs, hx, by omega, hb⟩
    · rintro σ' H' ⟨z, nums, c1, c2, c3, c4, c5, rfl, hz, hz2, hs, hx, hl, hb⟩
      walk_at "rd"
      rename_i q hq
      rw [Rd.cut_take hm.1, ← List.map_take]
      walk_at "rd"
      have hl0 : nums.length ≤ 60 * ns.length := by simpa using hl
      refine Rd.rng1 (fun j σ' H2 => ∃ (nums' : List Int) (kk d4 d5 : Option V), σ' = [some (.ref a), some (.int m), some (.ref q), some (.int z), c1, kk, c3, d4, d5] ∧ Same H H2 ∧ H2 q = some (.lst (nums'.map V.int)) ∧ nums'.length ≤ 5000 + j ∧ ∀ x ∈ nums', 0 ≤ x ∧ x < 1000) ?_ ?_ ?_ ?_
      · simp only [List.length_map, List.length_take]; omega
      · exact ⟨nums.take m.toNat, _, _, _, rfl, hs.trans (Rd.same_new hq), upd_same, by simp only [List.length_take]; omega, fun x hx => hb x (List.mem_of_mem_take hx)⟩
      · rintro j σ' H2 hj ⟨nums', c3', c4', c5', rfl, hs', hx', hl', hb'⟩
        have hj2 : (j : Int) < 1000 := by simp only [List.length_map, List.length_take] at hj; omega
        walk_at "rd"
        exact ⟨nums' ++ [_], _, _, _, rfl, Rd.same_mut hs' (hs.free hq), Rd.pushInts, by simp; omega, Rd.bd_app hb' (by omega)⟩
      · rintro σ' H2 ⟨nums', c3', c4', c5', rfl, hs', hx', hl', hb'⟩
        walk_at "rd"
        rename_i t ht
        rw [← List.map_reverse]
        exact k _ _ (hs'.trans (Rd.same_new ht)) (hs'.free ht) ⟨nums'.reverse, upd_same, fun x hx => hb' x (List.mem_reverse.mp hx)⟩
theorem ok_law_numbers {f : Addr} {fd : FuncData} (mf : mg "_law_numbers" = some (.ref f)) (F : FnP K "_law_numbers" s_law_numbers f fd)  (z_abs : mg "abs" = none) (z_int : mg "int" = none) (z_range : mg "range" = none) (z_len : mg "len" = none) : Cal P w K mg base "_law_numbers" 1 ["script", "many"] (sp_law_numbers K) :=
  ⟨f, fd, mf, F.kp, F.bindsN fun _ _ _ _ _ _ us hl => match us, hl with | [_, _], _ => rfl, fn_law_numbers F z_abs z_int z_range z_len⟩

theorem fn_law_draw {f : Addr} {fd : FuncData} (F : FnP K "_law_draw" s_law_draw f fd)  (z_len : mg "len" = none) (z_int : mg "int" = none) : FnOk P w K mg base CX0 1 f fd ["draws", "many"] (sp_law_draw K) := by
  refine F.ok sc_law_draw (fun vs H Q E h => ?_) (fun cdv A outer s H vs Q E hr h => ?_)
  · obtain ⟨d, m, rfl, _⟩ := h; rfl
  · obtain ⟨d, m, rfl, hd, hm, k⟩ := h
    refine ⟨_, PSs.nox (pss_cons (ps_if (pt_cmpR op_eq (pe_callB call_len_seq (by rfl) z_len boot_len (pa_cons (pv 0) pa_nil)) pe_int (nomark _)) (pss_one (ps_ret pe_int)) pss_nil)
      (pss_one (ps_ret (pe_op op_mod (pe_callTy call_int1 (by rfl) z_int boot_int (pa_cons (pe_bm0 PySem.F.plainAttrs_list PySem.F.slot_list_pop PySem.F.type_list_pop mt_pop (pv 0)) pa_nil)) (pv 1))))), ?_⟩
    try simp only [Rd.cxK]
    obtain ⟨nums, hd1, hb⟩ := id hd
    walk_at "rd"
    · exact k 0 H (Int.le_refl 0) hm (Dr.refl hd)
    · rename_i hl
      have hne : nums ≠ [] := fun e => hl (by rw [e]; rfl)
      refine Rd.pop (y := .int (nums.getLast hne)) hd1 ?_ ?_
      · rw [← List.getLast?_eq_getElem?, List.getLast?_map, List.getLast?_eq_getLast hne]; rfl
      · walk_at "rd"
        refine k _ _ (Int.emod_nonneg _ (by omega)) (Int.emod_lt_of_pos _ hm) ⟨fun a o ha e => (upd_ne ha).trans e, nums.dropLast, ?_, fun x hx => hb x (List.dropLast_subset _ hx)⟩
        rw [upd_same, List.map_dropLast]
theorem ok_law_draw {f : Addr} {fd : FuncData} (mf : mg "_law_draw" = some (.ref f)) (F : FnP K "_law_draw" s_law_draw f fd)  (z_len : mg "len" = none) (z_int : mg "int" = none) : Cal P w K mg base "_law_draw" 1 ["draws", "many"] (sp_law_draw K) :=
  ⟨f, fd, mf, F.kp, F.bindsN fun _ _ _ _ _ _ us hl => match us, hl with | [_, _], _ => rfl, fn_law_draw F z_len z_int⟩

theorem fn_law_reserved {f : Addr} {fd : FuncData} (F : FnP K "_law_reserved" s_law_reserved f fd)   : FnOk P w K mg base CX0 1 f fd [] (sp_law_reserved K) := by
  refine F.ok sc_law_reserved (fun vs H Q E h => ?_) (fun cdv A outer s H vs Q E hr h => ?_)
  · obtain ⟨rfl, _⟩ := h; rfl
  · obtain ⟨rfl, k⟩ := h
    refine ⟨_, PSs.nox (pss_cons (ps_set (i := 0) sc_law_reserved.nd rfl (by first | exact Or.inl rfl | exact Or.inr rfl) (pe_lst (pa_cons pe_str (pa_cons pe_str (pa_cons pe_str (pa_cons pe_str (pa_cons pe_str (pa_cons pe_str (pa_cons pe_str (pa_cons pe_str (pa_cons pe_str (pa_cons pe_str pa_nil))))))))))))
      (pss_cons (ps_set (i := 0) sc_law_reserved.nd rfl (by first | exact Or.inl rfl | exact Or.inr rfl) (pe_op op_cat (pv 0) (pe_lst (pa_cons pe_str (pa_cons pe_str (pa_cons pe_str (pa_cons pe_str (pa_cons pe_str (pa_cons pe_str (pa_cons pe_str (pa_cons pe_str (pa_cons pe_str (pa_cons pe_str (pa_cons pe_str pa_nil))))))))))))))
      (pss_cons (ps_set (i := 0) sc_law_reserved.nd rfl (by first | exact Or.inl rfl | exact Or.inr rfl) (pe_op op_cat (pv 0) (pe_lst (pa_cons pe_str (pa_cons pe_str (pa_cons pe_str (pa_cons pe_str (pa_cons pe_str (pa_cons pe_str (pa_cons pe_str (pa_cons pe_str (pa_cons pe_str (pa_cons pe_str (pa_cons pe_str (pa_cons pe_str pa_nil)))))))))))))))
      (pss_one (ps_ret (pe_op op_cat (pv 0) (pe_lst (pa_cons pe_str (pa_cons pe_str (pa_cons pe_str (pa_cons pe_str (pa_cons pe_str (pa_cons pe_str (pa_cons pe_str (pa_cons pe_str (pa_cons pe_str pa_nil)))))))))))))))), ?_⟩
    try simp only [Rd.cxK, lit_10, lit_11, lit_12, lit_13, lit_14, lit_15, lit_16, lit_17, lit_18, lit_19, lit_20, lit_21, lit_22, lit_23, lit_24, lit_25, lit_26, lit_27, lit_28, lit_29, lit_3, lit_30, lit_31, lit_32, lit_33, lit_34, lit_35, lit_36, lit_37, lit_38, lit_39, lit_4, lit_40, lit_41, lit_42, lit_43, lit_44, lit_5, lit_6, lit_7, lit_8, lit_9]
    walk_at "rd"
    exact k _ _ _ (by walk_at "sm") upd_same rfl (by decide +kernel)
theorem ok_law_reserved {f : Addr} {fd : FuncData} (mf : mg "_law_reserved" = some (.ref f)) (F : FnP K "_law_reserved" s_law_reserved f fd)   : Cal P w K mg base "_law_reserved" 1 [] (sp_law_reserved K) :=
  ⟨f, fd, mf, F.kp, F.bindsN fun _ _ _ _ _ _ us hl => match us, hl with | [], _ => rfl, fn_law_reserved F ⟩

theorem fn_law_glued {f : Addr} {fd : FuncData} (F : FnP K "_law_glued" s_law_glued f fd)   : FnOk P w K mg base CX0 1 f fd ["before", "after"] (sp_law_glued K) := by
  refine F.ok sc_law_glued (fun vs H Q E h => ?_) (fun cdv A outer s H vs Q E hr h => ?_)
  · obtain ⟨t, u, c, rfl, _⟩ := h; rfl
  · obtain ⟨t, u, c, rfl, ht, hu, k⟩ := h
    refine ⟨_, PSs.nox (pss_cons (ps_set (i := 2) sc_law_glued.nd rfl (by first | exact Or.inl rfl | exact Or.inr rfl) pe_str)
      (pss_cons (ps_if (pt_cmpR op_in_sign (pe_ix ix_str (pv 0) pe_int (fun _ _ => rfl)) pe_str (by rfl)) (pss_one (ps_ret (pe_cmpR op_in_sign (pe_ix ix_str (pv 1) pe_int (fun _ _ => rfl)) pe_str (by rfl)))) pss_nil)
      (pss_cons (ps_if (pt_cmpR op_in_sign (pe_ix ix_str (pv 0) pe_int (fun _ _ => rfl)) (pv 2) (by rfl)) (pss_one (ps_ret (pe_cmpR op_in_sign (pe_ix ix_str (pv 1) pe_int (fun _ _ => rfl)) (pv 2) (by rfl)))) pss_nil)
      (pss_one (ps_ret (pe_and (pe_or (pe_cmpR op_eq (pv 0) pe_str (nomark _)) (pe_one (pe_cmpR op_eq (pv 0) pe_str (nomark _)))) (pe_one (pe_cmpR op_eq (pe_ix ix_str (pv 1) pe_int (fun _ _ => rfl)) pe_str (nomark _))))))))), ?_⟩
    try simp only [Rd.cxK, lit_45, lit_48, lit_49, lit_59]
    obtain ⟨ht, htl⟩ := ht
    cases t with
    | nil => exact absurd rfl ht
    | cons h r =>
      have hr' : r.length ≤ 99 := by simpa using htl
      have d1 : atI (h :: r) 0 = some h := Rd.atI_of (by decide) rfl
      have d2 : atI (c :: u) 0 = some c := Rd.atI_of (by decide) rfl
      walk_at "rd"
      all_goals first
        | exact k _ (fun hf => gl_d ‹_› hf)
        | exact k _ (fun hf => gl_l ‹_› ‹_› hf)
        | exact k _ (fun hf => gl_s ‹_› ‹_› hf)
        | exact k _ (fun hf => gl_n ‹_› ‹_› ‹_› ‹_›)
theorem ok_law_glued {f : Addr} {fd : FuncData} (mf : mg "_law_glued" = some (.ref f)) (F : FnP K "_law_glued" s_law_glued f fd)   : Cal P w K mg base "_law_glued" 1 ["before", "after"] (sp_law_glued K) :=
  ⟨f, fd, mf, F.kp, F.bindsN fun _ _ _ _ _ _ us hl => match us, hl with | [_, _], _ => rfl, fn_law_glued F ⟩

theorem fn_token_at {f : Addr} {fd : FuncData} (F : FnP K "_token_at" s_token_at f fd) (C_run_at : Cal P w K mg base "_run_at" 1 ["text", "at", "allowed"] (sp_run_at K)) (C_is_good_number : Cal P w K mg base "_is_good_number" 1 ["digits"] (sp_is_good_number K)) (C_sign_at : Cal P w K mg base "_sign_at" 1 ["text", "at"] (sp_sign_at K)) (z_len : mg "len" = none) (W__DIGITS : ∃ t, mg "_DIGITS" = some (.str (Rd.S Tk.digs) t)) (W__LETTERS : ∃ t, mg "_LETTERS" = some (.str (Rd.S Tk.lets) t)) (W__MOST_LETTERS : ∃ t, mg "_MOST_LETTERS" = some (.int 12 t)) : FnOk P w K mg base CX0 2 f fd ["text", "at"] (sp_token_at K) := by
  obtain ⟨f_run_at, fd_run_at, m_run_at, k_run_at, b_run_at, G_run_at⟩ := C_run_at.ex
  obtain ⟨f_is_good_number, fd_is_good_number, m_is_good_number, k_is_good_number, b_is_good_number, G_is_good_number⟩ := C_is_good_number.ex
  obtain ⟨f_sign_at, fd_sign_at, m_sign_at, k_sign_at, b_sign_at, G_sign_at⟩ := C_sign_at.ex
  obtain ⟨t_D, g__DIGITS⟩ := W__DIGITS; have g__DIGITS_r : RelV (.str (Rd.S Tk.digs)) (.str (Rd.S Tk.digs) t_D) := ⟨_, rfl⟩
  obtain ⟨t_L, g__LETTERS⟩ := W__LETTERS; have g__LETTERS_r : RelV (.str (Rd.S Tk.lets)) (.str (Rd.S Tk.lets) t_L) := ⟨_, rfl⟩
  obtain ⟨t_ML, g__MOST_LETTERS⟩ := W__MOST_LETTERS; have g__MOST_LETTERS_r : RelV (.int 12) (.int 12 t_ML) := ⟨_, rfl⟩
  refine F.ok sc_token_at (fun vs H Q E h => ?_) (fun cdv A outer s H vs Q E hr h => ?_)
  · obtain ⟨l, t, r, a, rfl, _⟩ := h; rfl
  · obtain ⟨l, t, r, a, rfl, ha, hl, hd, ht, hs, k⟩ := h
    refine ⟨_, PSs.nox (pss_cons (ps_if (pt_cmpR op_in_sign (pe_ix ix_str (pv 0) (pv 1) (fun _ _ => rfl)) (pe_glob (by rfl) g__DIGITS g__DIGITS_r) (by rfl)) (pss_cons (ps_set (i := 2) sc_token_at.nd rfl (by first | exact Or.inl rfl | exact Or.inr rfl) (pe_call G_run_at (hr.mono (by decide)) (by rfl) m_run_at k_run_at b_run_at .nil pass0 (pa_cons (pv 0) (pa_cons (pv 1) (pa_cons (pe_glob (by rfl) g__DIGITS g__DIGITS_r) pa_nil)))))
      (pss_one (ps_set (i := 3) sc_token_at.nd rfl (by first | exact Or.inl rfl | exact Or.inr rfl) (pe_call G_is_good_number (hr.mono (by decide)) (by rfl) m_is_good_number k_is_good_number b_is_good_number .nil pass0 (pa_cons (pv 2) pa_nil))))) (pss_one (ps_if (pt_cmpR op_in_sign (pe_ix ix_str (pv 0) (pv 1) (fun _ _ => rfl)) (pe_glob (by rfl) g__LETTERS g__LETTERS_r) (by rfl)) (pss_cons (ps_set (i := 2) sc_token_at.nd rfl (by first | exact Or.inl rfl | exact Or.inr rfl) (pe_call G_run_at (hr.mono (by decide)) (by rfl) m_run_at k_run_at b_run_at .nil pass0 (pa_cons (pv 0) (pa_cons (pv 1) (pa_cons (pe_glob (by rfl) g__LETTERS g__LETTERS_r) pa_nil)))))
      (pss_one (ps_set (i := 3) sc_token_at.nd rfl (by first | exact Or.inl rfl | exact Or.inr rfl) (pe_cmpR op_le (pe_callB call_len_str (by rfl) z_len boot_len (pa_cons (pv 2) pa_nil)) (pe_glob (by rfl) g__MOST_LETTERS g__MOST_LETTERS_r) (nomark _))))) (pss_cons (ps_set (i := 2) sc_token_at.nd rfl (by first | exact Or.inl rfl | exact Or.inr rfl) (pe_call G_sign_at (hr.mono (by decide)) (by rfl) m_sign_at k_sign_at b_sign_at .nil pass0 (pa_cons (pv 0) (pa_cons (pv 1) pa_nil))))
      (pss_one (ps_set (i := 3) sc_token_at.nd rfl (by first | exact Or.inl rfl | exact Or.inr rfl) (pe_cmpR op_ne (pv 2) pe_str (nomark _))))))))
      (pss_cons (ps_if (pt_not (pt_val (pv 3))) (pss_one ps_never) pss_nil)
      (pss_one (ps_ret (pv 2))))), ?_⟩
    try simp only [Rd.cxK, lit_1]
    obtain ⟨c, t', rfl⟩ : ∃ c t', t = c :: t' := by
      cases t with
      | nil => exact absurd rfl ht.ne
      | cons c t' => exact ⟨c, t', rfl⟩
    have hc : l[a]? = some c := by
      have := congrArg (fun z => z[0]?) hd
      simpa using this
    have hat : atI l (a : Int) = some c := atI_nat hc
    walk_at "rd"
    · rename_i h1
      obtain ⟨hn, e⟩ := run_num ht hs h1
      refine ⟨l, digs, a, rfl, ha, hl, ?_⟩
      rw [hd, e]
      walk_at "rd"
      exact k
    · rename_i h1 h2
      obtain ⟨hn, e⟩ := run_word ht hs h1 h2
      have hn' : t'.length ≤ 11 := by simpa using hn
      refine ⟨l, lets, a, rfl, ha, hl, ?_⟩
      rw [hd, e]
      walk_at "rd"
      · rename_i h12; exact absurd (by simp only [List.length_cons]; omega) h12
      · exact k
    · rename_i h1 h2
      refine ⟨l, _, r, a, rfl, ha, hl, hd, run_sign ht h1 h2, hs, ?_⟩
      walk_at "rd"
      all_goals first | contradiction | exact k
theorem ok_token_at {f : Addr} {fd : FuncData} (mf : mg "_token_at" = some (.ref f)) (F : FnP K "_token_at" s_token_at f fd) (C_run_at : Cal P w K mg base "_run_at" 1 ["text", "at", "allowed"] (sp_run_at K)) (C_is_good_number : Cal P w K mg base "_is_good_number" 1 ["digits"] (sp_is_good_number K)) (C_sign_at : Cal P w K mg base "_sign_at" 1 ["text", "at"] (sp_sign_at K)) (z_len : mg "len" = none) (W__DIGITS : ∃ t, mg "_DIGITS" = some (.str (Rd.S Tk.digs) t)) (W__LETTERS : ∃ t, mg "_LETTERS" = some (.str (Rd.S Tk.lets) t)) (W__MOST_LETTERS : ∃ t, mg "_MOST_LETTERS" = some (.int 12 t)) : Cal P w K mg base "_token_at" 2 ["text", "at"] (sp_token_at K) :=
  ⟨f, fd, mf, F.kp, F.bindsN fun _ _ _ _ _ _ us hl => match us, hl with | [_, _], _ => rfl, fn_token_at F C_run_at C_is_good_number C_sign_at z_len W__DIGITS W__LETTERS W__MOST_LETTERS⟩

theorem fn_law_big {f : Addr} {fd : FuncData} (F : FnP K "_law_big" s_law_big f fd) (C_law_draw : Cal P w K mg base "_law_draw" 1 ["draws", "many"] (sp_law_draw K)) (z_range : mg "range" = none) : FnOk P w K mg base CX0 2 f fd ["draws"] (sp_law_big K) := by
  obtain ⟨f_law_draw, fd_law_draw, m_law_draw, k_law_draw, b_law_draw, G_law_draw⟩ := C_law_draw.ex
  refine F.ok sc_law_big (fun vs H Q E h => ?_) (fun cdv A outer s H vs Q E hr h => ?_)
  · obtain ⟨d, rfl, _⟩ := h; rfl
  · obtain ⟨d, rfl, hd, k⟩ := h
    refine ⟨_, PSs.nox (pss_cons (ps_set (i := 1) sc_law_big.nd rfl (by first | exact Or.inl rfl | exact Or.inr rfl) pe_int)
      (pss_cons (ps_for PassesOwn.never rfl (pi_range1 (by rfl) z_range (pa_cons pe_int pa_nil)) (pg_name (i := 2) sc_law_big.nd rfl (by first | exact Or.inl rfl | exact Or.inr rfl)) (pss_one (ps_set (i := 1) sc_law_big.nd rfl (by first | exact Or.inl rfl | exact Or.inr rfl) (pe_op op_add (pe_op op_mul (pv 1) pe_int) (pe_call G_law_draw (hr.mono (by decide)) (by rfl) m_law_draw k_law_draw b_law_draw .nil pass0 (pa_cons (pv 0) (pa_cons pe_int pa_nil)))))))
      (pss_one (ps_ret (pv 1))))), ?_⟩
    try simp only [Rd.cxK]
    walk_at "rd"
    refine Rd.rng1 (fun i σ' H' => ∃ (z : Int) (kv : Option V), σ' = [some (.ref d), some (.int z), kv] ∧ 0 ≤ z ∧ z < 1000 ^ i ∧ Dr d H H') ⟨by omega, by omega⟩ ?_ ?_ ?_
    · exact ⟨0, _, rfl, by omega, by decide, Dr.refl hd⟩
    · rintro i σ' H' hi ⟨z, kv, rfl, hz, hz2, hD⟩
      have hD2 := hD.dr
      have h6 : z < 18446744073709551616 := by
        obtain rfl | rfl | rfl | rfl | rfl | rfl : i = 0 ∨ i = 1 ∨ i = 2 ∨ i = 3 ∨ i = 4 ∨ i = 5 := by omega
        all_goals (revert hz2; simp only [Int.reducePow]; omega)
      walk_at "rd"
      rename_i r H2 h0 h1 hr
      refine ⟨z * 1000 + r, _, rfl, by omega, ?_, hD.trans hr⟩
      rw [Int.pow_succ]; omega
    · rintro σ' H' ⟨z, kv, rfl, hz, hz2, hD⟩
      walk_at "rd"
      exact k _ _ hz hD
theorem ok_law_big {f : Addr} {fd : FuncData} (mf : mg "_law_big" = some (.ref f)) (F : FnP K "_law_big" s_law_big f fd) (C_law_draw : Cal P w K mg base "_law_draw" 1 ["draws", "many"] (sp_law_draw K)) (z_range : mg "range" = none) : Cal P w K mg base "_law_big" 2 ["draws"] (sp_law_big K) :=
  ⟨f, fd, mf, F.kp, F.bindsN fun _ _ _ _ _ _ us hl => match us, hl with | [_], _ => rfl, fn_law_big F C_law_draw z_range⟩

theorem fn_law_word {f : Addr} {fd : FuncData} (F : FnP K "_law_word" s_law_word f fd) (C_law_draw : Cal P w K mg base "_law_draw" 1 ["draws", "many"] (sp_law_draw K)) (z_range : mg "range" = none) : FnOk P w K mg base CX0 2 f fd ["draws"] (sp_law_word K) := by
  obtain ⟨f_law_draw, fd_law_draw, m_law_draw, k_law_draw, b_law_draw, G_law_draw⟩ := C_law_draw.ex
  refine F.ok sc_law_word (fun vs H Q E h => ?_) (fun cdv A outer s H vs Q E hr h => ?_)
  · obtain ⟨d, rfl, _⟩ := h; rfl
  · obtain ⟨d, rfl, hd, k⟩ := h
    refine ⟨_, PSs.nox (pss_cons (ps_set (i := 1) sc_law_word.nd rfl (by first | exact Or.inl rfl | exact Or.inr rfl) pe_str)
      (pss_cons (ps_set (i := 2) sc_law_word.nd rfl (by first | exact Or.inl rfl | exact Or.inr rfl) (pe_ix ix_list (pe_lst (pa_cons pe_int (pa_cons pe_int (pa_cons pe_int (pa_cons pe_int (pa_cons pe_int (pa_cons (pe_op op_add pe_int (pe_call G_law_draw (hr.mono (by decide)) (by rfl) m_law_draw k_law_draw b_law_draw .nil pass0 (pa_cons (pv 0) (pa_cons pe_int pa_nil)))) pa_nil))))))) (pe_call G_law_draw (hr.mono (by decide)) (by rfl) m_law_draw k_law_draw b_law_draw .nil pass0 (pa_cons (pv 0) (pa_cons pe_int pa_nil))) (fun _ _ => rfl)))
      (pss_cons (ps_set (i := 3) sc_law_word.nd rfl (by first | exact Or.inl rfl | exact Or.inr rfl) pe_str)
      (pss_cons (ps_for PassesOwn.never rfl (pi_range1 (by rfl) z_range (pa_cons (pv 2) pa_nil)) (pg_name (i := 4) sc_law_word.nd rfl (by first | exact Or.inl rfl | exact Or.inr rfl)) (pss_one (ps_set (i := 3) sc_law_word.nd rfl (by first | exact Or.inl rfl | exact Or.inr rfl) (pe_op op_add_str (pv 3) (pe_ix ix_str (pv 1) (pe_call G_law_draw (hr.mono (by decide)) (by rfl) m_law_draw k_law_draw b_law_draw .nil pass0 (pa_cons (pv 0) (pa_cons pe_int pa_nil))) (fun _ _ => rfl))))))
      (pss_one (ps_ret (pv 3))))))), ?_⟩
    try simp only [Rd.cxK, lit_1, lit_45]
    walk_at "rd"
    rename_i r1 H1 hr0 hr1 hD1 p hp r2 H2 hs0 hs1 hD2
    refine Rd.ixLall (xs := ?xs) in12 ?h ?a hs0 ?l (fun v hv => ?k)
    case h => walk_at "hp"
    case a => simp only [List.all_cons, List.all_nil, in12, Bool.and_true, Bool.and_eq_true, decide_eq_true_eq]; omega
    case l => exact hs1
    obtain ⟨m, rfl, hm0, hm1⟩ := in12_ok hv
    have hD : Dr d H H2 := by walk_at "dt"
    walk_at "rd"
    refine Rd.rng1 (fun i σ' H' => ∃ (w : List Nat) (kv : Option V), σ' = [some (.ref d), some (.str (Rd.S lets)), some (.int m), some (.str (Rd.S w)), kv] ∧ w.length = i ∧ (∀ c ∈ w, c ∈ lets) ∧ Dr d H H') ⟨by omega, by omega⟩ ?_ ?_ ?_
    · exact ⟨[], _, rfl, rfl, by simp, hD⟩
    · rintro i σ' H' hi ⟨w, kv, rfl, hl, hw, hD'⟩
      have hdr := hD'.dr
      walk_at "rd"
      rename_i r3 H3 h30 h31 hD3
      refine Rd.ixSall (by decide) h30 h31 (fun c hc => ?_)
      walk_at "rd"
      refine ⟨w ++ [c], _, rfl, by simp [hl], fun x hx => ?_, hD'.trans hD3⟩
      rcases List.mem_append.mp hx with h | h
      · exact hw x h
      · rw [List.mem_singleton.mp h]; exact hc
    · rintro σ' H' ⟨w, kv, rfl, hl, hw, hD'⟩
      walk_at "rd"
      exact k _ _ ⟨fun e => by rw [e] at hl; simp at hl; omega, hw, by omega⟩ hD'
theorem ok_law_word {f : Addr} {fd : FuncData} (mf : mg "_law_word" = some (.ref f)) (F : FnP K "_law_word" s_law_word f fd) (C_law_draw : Cal P w K mg base "_law_draw" 1 ["draws", "many"] (sp_law_draw K)) (z_range : mg "range" = none) : Cal P w K mg base "_law_word" 2 ["draws"] (sp_law_word K) :=
  ⟨f, fd, mf, F.kp, F.bindsN fun _ _ _ _ _ _ us hl => match us, hl with | [_], _ => rfl, fn_law_word F C_law_draw z_range⟩

theorem fn_tokens {f : Addr} {fd : FuncData} (F : FnP K "tokens" s_tokens f fd) (C_token_at : Cal P w K mg base "_token_at" 2 ["text", "at"] (sp_token_at K)) (z_len : mg "len" = none) (W_MOST_TOKENS : ∃ t, mg "MOST_TOKENS" = some (.int 200 t)) : FnOk P w K mg base CX0 3 f fd ["text"] (sp_tokens K) := by
  obtain ⟨f_token_at, fd_token_at, m_token_at, k_token_at, b_token_at, G_token_at⟩ := C_token_at.ex
  obtain ⟨t_MT, g_MOST_TOKENS⟩ := W_MOST_TOKENS; have g_MOST_TOKENS_r : RelV (.int 200) (.int 200 t_MT) := ⟨_, rfl⟩
  refine F.ok sc_tokens (fun vs H Q E h => ?_) (fun cdv A outer s H vs Q E hr h => ?_)
  · obtain ⟨l, es, rfl, _⟩ := h; rfl
  · obtain ⟨l, es, rfl, hl, hR, h2, k⟩ := h
    refine ⟨_, PSs.nox (pss_cons (ps_set (i := 1) sc_tokens.nd rfl (by first | exact Or.inl rfl | exact Or.inr rfl) (pe_lst pa_nil))
      (pss_cons (ps_set (i := 2) sc_tokens.nd rfl (by first | exact Or.inl rfl | exact Or.inr rfl) pe_int)
      (pss_cons (ps_while PassesOwn.never (pt_cmpR op_lt (pv 2) (pe_callB call_len_str (by rfl) z_len boot_len (pa_cons (pv 0) pa_nil)) (nomark _)) (pss_cons (ps_if (pt_cmpR op_eq (pe_ix ix_str (pv 0) (pv 2) (fun _ _ => rfl)) pe_str (nomark _)) (pss_cons (ps_aug (i := 2) sc_tokens.nd rfl (by first | exact Or.inl rfl | exact Or.inr rfl) pe_int ip_add)
      (pss_one ps_continue)) pss_nil)
      (pss_cons (ps_if (pt_cmpR op_eq (pe_callB call_len_seq (by rfl) z_len boot_len (pa_cons (pv 1) pa_nil)) (pe_glob (by rfl) g_MOST_TOKENS g_MOST_TOKENS_r) (nomark _)) (pss_one ps_never) pss_nil)
      (pss_cons (ps_set (i := 3) sc_tokens.nd rfl (by first | exact Or.inl rfl | exact Or.inr rfl) (pe_call G_token_at (hr.mono (by decide)) (by rfl) m_token_at k_token_at b_token_at .nil pass0 (pa_cons (pv 0) (pa_cons (pv 2) pa_nil))))
      (pss_cons (ps_expr (pe_bm PySem.F.plainAttrs_list PySem.F.slot_list_append PySem.F.type_list_append mt_append (pv 1) (pa_cons (pe_tup (pa_cons (pv 3) (pa_cons (pv 2) pa_nil))) pa_nil)))
      (pss_one (ps_aug (i := 2) sc_tokens.nd rfl (by first | exact Or.inl rfl | exact Or.inr rfl) (pe_callB call_len_str (by rfl) z_len boot_len (pa_cons (pv 3) pa_nil)) ip_add)))))))
      (pss_one (ps_ret (pv 1)))))), ?_⟩
    try simp only [Rd.cxK, lit_0]
    walk_at "rd"
    rename_i f hf
    refine Rd.whl (fun m σ' H' => ∃ (a : Nat) (xs : List V) (es1 es2 : List (List Nat × Nat)) (tv : Option V), σ' = [some (.str (Rd.S l)), some (.ref f), some (.int (a : Int)), tv] ∧ a ≤ l.length ∧ m = l.length - a ∧ es = es1 ++ es2 ∧ Rem (l.drop a) a es2 ∧ Same H H' ∧ H' f = some (.lst xs) ∧ Pr H' xs es1) ⟨_, 0, [], [], es, _, rfl, Nat.zero_le _, rfl, rfl, by rw [List.drop_zero]; exact hR, Rd.same_new hf, upd_same, .nil⟩ ?_
    rintro m σ' H' ⟨a, xs, es1, es2, tv, rfl, ha, rfl, he, hrm, hs, hx, hp⟩
    walk_at "rd"
    · rename_i hal
      have ha' : a < l.length := by omega
      have hat : atI l (a : Int) = some (l.getD a 0) := atI_nat (by rw [List.getD_eq_getElem?_getD, List.getElem?_eq_getElem ha']; rfl)
      have hdr : l.drop a = l.getD a 0 :: l.drop (a + 1) := by
        rw [List.drop_eq_getElem_cons ha', List.getD_eq_getElem?_getD, List.getElem?_eq_getElem ha']; rfl
      rw [hdr] at hrm
      walk_at "rd"
      · rename_i h32
        rw [(List.cons.inj h32).1] at hrm
        refine ⟨_, ?_, a + 1, xs, es1, es2, _, rfl, by omega, rfl, he, hrm.space, hs, hx, hp⟩
        omega
      · rename_i h32 h200
        exfalso
        obtain ⟨t, r', es', _, _, _, e2, _⟩ := hrm.token (fun e => h32 (by rw [e]))
        have h3 := hp.len
        rw [he, e2] at h2
        simp only [List.length_append, List.length_cons] at h2
        omega
      · rename_i h32 h200
        obtain ⟨t, r', es', e1, htok, hsep, e2, hrm2⟩ := hrm.token (fun e => h32 (by rw [e]))
        refine ⟨l, t, r', a, rfl, ha', hl, by rw [hdr, e1], htok, hsep, ?_⟩
        have htl := htok.len
        have hxl := hp.len
        have hx200 : xs.length < 100000 := by
          have := congrArg List.length he
          rw [List.length_append] at this
          omega
        walk_at "rd"
        rename_i q hq
        have hlt : (t ++ r').length = l.length - a := by rw [← e1, ← hdr, List.length_drop]
        rw [List.length_append] at hlt
        have htl1 : t.length ≠ 0 := fun z => htok.ne (List.eq_nil_of_length_eq_zero z)
        have nqf : q ≠ f := fun e => by rw [e, hx] at hq; cases hq
        refine ⟨_, ?_, a + t.length, xs ++ [.ref q], es1 ++ [(t, a)], es', _, rfl, by omega, rfl, by rw [he, e2]; simp, ?_, Rd.same_mut (hs.trans (Rd.same_new hq)) hf, upd_same, ?_⟩
        · omega
        · rw [← List.drop_drop, hdr, e1, List.drop_left]; exact hrm2
        · refine (hp.keep fun z w hz => ?_).app ?_
          · have n1 : z ≠ f := fun e => by rw [e, hx] at hz; cases hz
            exact (upd_ne n1).trans (Rd.same_new hq _ _ hz)
          · exact (upd_ne nqf).trans upd_same
    · rename_i hal
      have ha' : a = l.length := by omega
      rw [ha', List.drop_length] at hrm
      rw [hrm.of_nil, List.append_nil] at he
      walk_at "rd"
      exact k f xs H' hs hf hx (by rw [he]; exact hp)
theorem ok_tokens {f : Addr} {fd : FuncData} (mf : mg "tokens" = some (.ref f)) (F : FnP K "tokens" s_tokens f fd) (C_token_at : Cal P w K mg base "_token_at" 2 ["text", "at"] (sp_token_at K)) (z_len : mg "len" = none) (W_MOST_TOKENS : ∃ t, mg "MOST_TOKENS" = some (.int 200 t)) : Cal P w K mg base "tokens" 3 ["text"] (sp_tokens K) :=
  ⟨f, fd, mf, F.kp, F.bindsN fun _ _ _ _ _ _ us hl => match us, hl with | [_], _ => rfl, fn_tokens F C_token_at z_len W_MOST_TOKENS⟩

theorem fn_law_token {f : Addr} {fd : FuncData} (F : FnP K "_law_token" s_law_token f fd) (C_law_draw : Cal P w K mg base "_law_draw" 1 ["draws", "many"] (sp_law_draw K)) (C_law_big : Cal P w K mg base "_law_big" 2 ["draws"] (sp_law_big K)) (C_law_word : Cal P w K mg base "_law_word" 2 ["draws"] (sp_law_word K)) (C_law_reserved : Cal P w K mg base "_law_reserved" 1 [] (sp_law_reserved K)) (z_int : mg "int" = none) (z_str : mg "str" = none) : FnOk P w K mg base CX0 3 f fd ["draws"] (sp_law_token K) := by
  obtain ⟨f_law_draw, fd_law_draw, m_law_draw, k_law_draw, b_law_draw, G_law_draw⟩ := C_law_draw.ex
  obtain ⟨f_law_big, fd_law_big, m_law_big, k_law_big, b_law_big, G_law_big⟩ := C_law_big.ex
  obtain ⟨f_law_word, fd_law_word, m_law_word, k_law_word, b_law_word, G_law_word⟩ := C_law_word.ex
  obtain ⟨f_law_reserved, fd_law_reserved, m_law_reserved, k_law_reserved, b_law_reserved, G_law_reserved⟩ := C_law_reserved.ex
  refine F.ok sc_law_token (fun vs H Q E h => ?_) (fun cdv A outer s H vs Q E hr h => ?_)
  · obtain ⟨d, rfl, _⟩ := h; rfl
  · obtain ⟨d, rfl, hd, k⟩ := h
    refine ⟨_, PSs.nox (pss_cons (ps_set (i := 1) sc_law_token.nd rfl (by first | exact Or.inl rfl | exact Or.inr rfl) (pe_call G_law_draw (hr.mono (by decide)) (by rfl) m_law_draw k_law_draw b_law_draw .nil pass0 (pa_cons (pv 0) (pa_cons pe_int pa_nil))))
      (pss_cons (ps_if (pt_cmpR op_eq (pv 1) pe_int (nomark _)) (pss_cons (ps_set (i := 2) sc_law_token.nd rfl (by first | exact Or.inl rfl | exact Or.inr rfl) (pe_call G_law_big (hr.mono (by decide)) (by rfl) m_law_big k_law_big b_law_big .nil pass0 (pa_cons (pv 0) pa_nil)))
      (pss_cons (ps_set (i := 3) sc_law_token.nd rfl (by first | exact Or.inl rfl | exact Or.inr rfl) (pe_lst (pa_cons pe_int (pa_cons pe_int (pa_cons pe_int (pa_cons (pe_op op_mod (pe_callTy call_int1 (by rfl) z_int boot_int (pa_cons (pv 2) pa_nil)) pe_int) (pa_cons (pe_op op_mod (pe_callTy call_int1 (by rfl) z_int boot_int (pa_cons (pv 2) pa_nil)) pe_int) (pa_cons (pe_op op_pow pe_int pe_int) (pa_cons (pe_op op_sub (pe_op op_pow pe_int pe_int) pe_int) (pa_cons (pe_op op_mod (pe_callTy call_int1 (by rfl) z_int boot_int (pa_cons (pv 2) pa_nil)) (pe_op op_add (pe_op op_pow pe_int pe_int) pe_int)) pa_nil))))))))))
      (pss_one (ps_ret (pe_callTy call_str_int (by rfl) z_str boot_str (pa_cons (pe_ix ix_list (pv 3) (pe_call G_law_draw (hr.mono (by decide)) (by rfl) m_law_draw k_law_draw b_law_draw .nil pass0 (pa_cons (pv 0) (pa_cons pe_int pa_nil))) (fun _ _ => rfl)) pa_nil)))))) pss_nil)
      (pss_cons (ps_if (pt_cmpR op_eq (pv 1) pe_int (nomark _)) (pss_one (ps_ret (pe_call G_law_word (hr.mono (by decide)) (by rfl) m_law_word k_law_word b_law_word .nil pass0 (pa_cons (pv 0) pa_nil)))) pss_nil)
      (pss_cons (ps_if (pt_cmpR op_eq (pv 1) pe_int (nomark _)) (pss_one (ps_ret (pe_ix ix_list (pe_call0 G_law_reserved (hr.mono (by decide)) (by rfl) m_law_reserved k_law_reserved b_law_reserved .nil pass0) (pe_call G_law_draw (hr.mono (by decide)) (by rfl) m_law_draw k_law_draw b_law_draw .nil pass0 (pa_cons (pv 0) (pa_cons pe_int pa_nil))) (fun _ _ => rfl)))) pss_nil)
      (pss_one (ps_ret (pe_ix ix_list (pe_lst (pa_cons pe_str (pa_cons pe_str (pa_cons pe_str (pa_cons pe_str (pa_cons pe_str (pa_cons pe_str (pa_cons pe_str (pa_cons pe_str (pa_cons pe_str (pa_cons pe_str (pa_cons pe_str (pa_cons pe_str (pa_cons pe_str pa_nil)))))))))))))) (pe_call G_law_draw (hr.mono (by decide)) (by rfl) m_law_draw k_law_draw b_law_draw .nil pass0 (pa_cons (pv 0) (pa_cons pe_int pa_nil))) (fun _ _ => rfl)))))))), ?_⟩
    try simp only [Rd.cxK, lit_46, lit_47, lit_48, lit_49, lit_50, lit_51, lit_52, lit_53, lit_54, lit_55, lit_56, lit_57, lit_58]
    walk_at "rd"
    · rename_i r1 H1 _ _ hD1 _ r2 H2 hb0 hD2 p hp r3 H3 h30 h31 hD3
      refine Rd.ixLall (xs := ?xs) inMost ?h ?a h30 ?l (fun v hv => ?k)
      case h => walk_at "hp"
      case a => simp only [List.all_cons, List.all_nil, inMost, Bool.and_true, Bool.and_eq_true, decide_eq_true_eq]; omega
      case l => exact h31
      obtain ⟨n, rfl, hn⟩ := inMost_ok' hv
      walk_at "rd"
      refine Rd.strI (l := numL n) ?_ ?_ (k _ _ (.inl ⟨n, hn, rfl⟩) (by walk_at "dt"))
      · rw [Int.natAbs_natCast]
        exact Nat.lt_of_lt_of_le (PySem.Flt.log2_lt_of (k := 64) (by decide) (by omega)) (by decide)
      · rw [Rd.S_of (Str.ofString (toString ((n : Nat) : Int))), show (Str.ofString (toString ((n : Nat) : Int))).cps.toList = numL n from tl_num n]
    · exact k _ _ (.inr (.inl ‹_›)) (by walk_at "dt")
    · rename_i r1 H1 _ _ hD1 _ _ _
      have hd1 := hD1.dr
      refine ⟨rfl, fun p xs H2 hs hx hl ha => ?_⟩
      have hD2 : Dr d H1 H2 := .of_same hd1 hs
      have hd2 := hD2.dr
      have np : p ≠ d := fun e => by
        obtain ⟨nums, q, _⟩ := hd2
        rw [e, q] at hx
        have e1 := HO.lst.inj (Option.some.inj hx)
        rw [← e1] at ha hl
        cases nums with
        | nil => simp at hl
        | cons u r => simp [isTok] at ha
      walk_at "rd"
      rename_i r3 H3 h30 h31 hD3
      refine Rd.ixLall isTok (by walk_at "hp") ha h30 (by omega) (fun v hv => ?_)
      obtain ⟨t, rfl, ht⟩ := isTok_ok hv
      exact k _ _ ht (hD1.trans (hD2.trans hD3))
    · rename_i p hp r3 H3 h30 h31 hD3
      refine Rd.ixLall (xs := ?xs3) isTok ?h3 ?a3 h30 ?l3 (fun v hv => ?k3)
      case h3 => walk_at "hp"
      case a3 => decide +kernel
      case l3 => exact h31
      obtain ⟨t, rfl, ht⟩ := isTok_ok hv
      exact k _ _ ht (by walk_at "dt")
theorem ok_law_token {f : Addr} {fd : FuncData} (mf : mg "_law_token" = some (.ref f)) (F : FnP K "_law_token" s_law_token f fd) (C_law_draw : Cal P w K mg base "_law_draw" 1 ["draws", "many"] (sp_law_draw K)) (C_law_big : Cal P w K mg base "_law_big" 2 ["draws"] (sp_law_big K)) (C_law_word : Cal P w K mg base "_law_word" 2 ["draws"] (sp_law_word K)) (C_law_reserved : Cal P w K mg base "_law_reserved" 1 [] (sp_law_reserved K)) (z_int : mg "int" = none) (z_str : mg "str" = none) : Cal P w K mg base "_law_token" 3 ["draws"] (sp_law_token K) :=
  ⟨f, fd, mf, F.kp, F.bindsN fun _ _ _ _ _ _ us hl => match us, hl with | [_], _ => rfl, fn_law_token F C_law_draw C_law_big C_law_word C_law_reserved z_int z_str⟩

theorem step_law_equal {f : Addr} {fd : FuncData} (F : FnP K "_law_equal" s_law_equal f fd) {n : Nat} (C_law_equal : Cal P w K mg base "_law_equal" (0 + n) ["actual", "expected"] (sp_law_equal K n))  (z_isinstance : mg "isinstance" = none) (z_bool : mg "bool" = none) (z_int : mg "int" = none) (z_str : mg "str" = none) (z_tuple : mg "tuple" = none) (z_list : mg "list" = none) (z_len : mg "len" = none) (z_range : mg "range" = none) : FnOk P w K mg base CX0 (0 + n + 1) f fd ["actual", "expected"] (sp_law_equal K (n + 1)) := by
  obtain ⟨f_law_equal, fd_law_equal, m_law_equal, k_law_equal, b_law_equal, G_law_equal⟩ := C_law_equal.ex
  refine F.ok sc_law_equal (fun vs H Q E h => ?_) (fun cdv A outer s H vs Q E hr h => ?_)
  · obtain ⟨x, y, d, rfl, _⟩ := h; rfl
  · obtain ⟨x, y, d, rfl, hx, hy, hn, hw, k⟩ := h
    refine ⟨_, PSs.nox (pss_cons (ps_if (pt_cmpR op_isN (pv 1) pe_non (nomark _)) (pss_one (ps_ret (pe_cmpR op_isN (pv 0) pe_non (nomark _)))) pss_nil)
      (pss_cons (ps_if (pt_val (pe_callB call_isi (by rfl) z_isinstance boot_isinstance (pa_cons (pv 1) (pa_cons (pe_bltn (v := .ty "bool") (by rfl) z_bool boot_bool rfl) pa_nil)))) (pss_one (ps_ret (pe_and (pe_callB call_isi (by rfl) z_isinstance boot_isinstance (pa_cons (pv 0) (pa_cons (pe_bltn (v := .ty "bool") (by rfl) z_bool boot_bool rfl) pa_nil))) (pe_one (pe_cmpR op_eq (pv 0) (pv 1) (nomark _)))))) pss_nil)
      (pss_cons (ps_if (pt_val (pe_callB call_isi (by rfl) z_isinstance boot_isinstance (pa_cons (pv 1) (pa_cons (pe_bltn (v := .ty "int") (by rfl) z_int boot_int rfl) pa_nil)))) (pss_one (ps_ret (pe_and (pe_callB call_isi (by rfl) z_isinstance boot_isinstance (pa_cons (pv 0) (pa_cons (pe_bltn (v := .ty "int") (by rfl) z_int boot_int rfl) pa_nil))) (pe_and (pe_not (pe_callB call_isi (by rfl) z_isinstance boot_isinstance (pa_cons (pv 0) (pa_cons (pe_bltn (v := .ty "bool") (by rfl) z_bool boot_bool rfl) pa_nil)))) (pe_one (pe_cmpR op_eq (pv 0) (pv 1) (nomark _))))))) pss_nil)
      (pss_cons (ps_if (pt_val (pe_callB call_isi (by rfl) z_isinstance boot_isinstance (pa_cons (pv 1) (pa_cons (pe_bltn (v := .ty "str") (by rfl) z_str boot_str rfl) pa_nil)))) (pss_one (ps_ret (pe_and (pe_callB call_isi (by rfl) z_isinstance boot_isinstance (pa_cons (pv 0) (pa_cons (pe_bltn (v := .ty "str") (by rfl) z_str boot_str rfl) pa_nil))) (pe_one (pe_cmpR op_eq (pv 0) (pv 1) (nomark _)))))) pss_nil)
      (pss_cons (ps_if (PW.pt (pw_and (pt_val (pe_callB call_isi (by rfl) z_isinstance boot_isinstance (pa_cons (pv 1) (pa_cons (pe_bltn (v := .ty "tuple") (by rfl) z_tuple boot_tuple rfl) pa_nil)))) (pw_and1 (pt_not (pt_val (pe_callB call_isi (by rfl) z_isinstance boot_isinstance (pa_cons (pv 0) (pa_cons (pe_bltn (v := .ty "tuple") (by rfl) z_tuple boot_tuple rfl) pa_nil)))))))) (pss_one (ps_ret pe_bl)) pss_nil)
      (pss_cons (ps_if (PW.pt (pw_and (pt_val (pe_callB call_isi (by rfl) z_isinstance boot_isinstance (pa_cons (pv 1) (pa_cons (pe_bltn (v := .ty "list") (by rfl) z_list boot_list rfl) pa_nil)))) (pw_and1 (pt_not (pt_val (pe_callB call_isi (by rfl) z_isinstance boot_isinstance (pa_cons (pv 0) (pa_cons (pe_bltn (v := .ty "list") (by rfl) z_list boot_list rfl) pa_nil)))))))) (pss_one (ps_ret pe_bl)) pss_nil)
      (pss_cons (ps_if (pt_cmpR op_ne (pe_callB call_len_seq (by rfl) z_len boot_len (pa_cons (pv 0) pa_nil)) (pe_callB call_len_seq (by rfl) z_len boot_len (pa_cons (pv 1) pa_nil)) (nomark _)) (pss_one (ps_ret pe_bl)) pss_nil)
      (pss_cons (ps_for PassesOwn.never rfl (pi_range1 (by rfl) z_range (pa_cons (pe_callB call_len_seq (by rfl) z_len boot_len (pa_cons (pv 1) pa_nil)) pa_nil)) (pg_name (i := 2) sc_law_equal.nd rfl (by first | exact Or.inl rfl | exact Or.inr rfl)) (pss_one (ps_if (pt_not (pt_val (pe_call G_law_equal (hr.mono (by omega)) (by rfl) m_law_equal k_law_equal b_law_equal .nil pass0 (pa_cons (pe_ix ix_seq (pv 0) (pv 2) (fun _ _ => rfl)) (pa_cons (pe_ix ix_seq (pv 1) (pv 2) (fun _ _ => rfl)) pa_nil))))) (pss_one (ps_ret pe_bl)) pss_nil)))
      (pss_one (ps_ret pe_bl)))))))))), ?_⟩
    try simp only [Rd.cxK]
    cases d with
    | none =>
      cases hx; cases hy
      walk_at "rd"
      all_goals first | contradiction | exact k
    | bool b =>
      cases hx; cases hy
      walk_at "rd"
      all_goals first | contradiction | simpa using k
    | int i =>
      cases hx; cases hy
      walk_at "rd"
      all_goals first | contradiction | simpa using k
    | str z =>
      cases hx; cases hy
      walk_at "rd"
      all_goals first | contradiction | simpa using k
    | dict kvs => cases hx
    | list ds =>
      cases hx with
      | lst h1 d1 =>
        cases hy with
        | lst h2 d2 =>
          have e1 := Rd.dpAll_len d1
          have e2 := Rd.dpAll_len d2
          have hwl := PyData.length_le_weightAll ds
          have hw2 : PyData.weightAll ds ≤ 1000000 := by simpa only [PyData.weight] using hw
          have hn2 : PyData.depthAll ds + 1 < n + 1 := by simpa only [PyData.depth] using hn
          walk_at "rd"
          · exact absurd ‹_› V.noConfusion
          · rename_i hne; exact absurd (by rw [e1, e2]) hne
          · refine Rd.rng1 (fun i σ' H' => ∃ kv, σ' = [some (.ref _), some (.ref _), kv] ∧ H' = H) (by omega) ⟨_, rfl, rfl⟩ ?_ ?_
            · rintro i σ' H' hi ⟨kv, rfl, rfl⟩
              have hi' : i < ds.length := by omega
              obtain ⟨u, hu, du⟩ := Rd.dpAll_get d1 i hi'
              obtain ⟨w, hw, dw⟩ := Rd.dpAll_get d2 i hi'
              have q1 := Rd.depth_get hi'
              have q2 := Rd.weight_get hi'
              walk_at "rd"
              refine Rd.ixQL h1 (atI_nat hu) ?_
              walk_at "rd"
              refine Rd.ixQL h2 (atI_nat hw) ?_
              walk_at "rd"
              refine ⟨_, _, _, rfl, du, dw, by omega, by omega, ?_⟩
              walk_at "rd"
              exact ⟨_, rfl, rfl⟩
            · rintro σ' H' ⟨kv, rfl, rfl⟩
              walk_at "rd"
              exact k
    | tuple ds =>
      cases hx with
      | tup h1 d1 =>
        cases hy with
        | tup h2 d2 =>
          have e1 := Rd.dpAll_len d1
          have e2 := Rd.dpAll_len d2
          have hwl := PyData.length_le_weightAll ds
          have hw2 : PyData.weightAll ds ≤ 1000000 := by simpa only [PyData.weight] using hw
          have hn2 : PyData.depthAll ds + 1 < n + 1 := by simpa only [PyData.depth] using hn
          walk_at "rd"
          · exact absurd ‹_› V.noConfusion
          · rename_i hne; exact absurd (by rw [e1, e2]) hne
          · refine Rd.rng1 (fun i σ' H' => ∃ kv, σ' = [some (.ref _), some (.ref _), kv] ∧ H' = H) (by omega) ⟨_, rfl, rfl⟩ ?_ ?_
            · rintro i σ' H' hi ⟨kv, rfl, rfl⟩
              have hi' : i < ds.length := by omega
              obtain ⟨u, hu, du⟩ := Rd.dpAll_get d1 i hi'
              obtain ⟨w, hw, dw⟩ := Rd.dpAll_get d2 i hi'
              have q1 := Rd.depth_get hi'
              have q2 := Rd.weight_get hi'
              walk_at "rd"
              refine Rd.ixQT h1 (atI_nat hu) ?_
              walk_at "rd"
              refine Rd.ixQT h2 (atI_nat hw) ?_
              walk_at "rd"
              refine ⟨_, _, _, rfl, du, dw, by omega, by omega, ?_⟩
              walk_at "rd"
              exact ⟨_, rfl, rfl⟩
            · rintro σ' H' ⟨kv, rfl, rfl⟩
              walk_at "rd"
              exact k
theorem fn_law_equal {f : Addr} {fd : FuncData} (mf : mg "_law_equal" = some (.ref f)) (F : FnP K "_law_equal" s_law_equal f fd)  (z_isinstance : mg "isinstance" = none) (z_bool : mg "bool" = none) (z_int : mg "int" = none) (z_str : mg "str" = none) (z_tuple : mg "tuple" = none) (z_list : mg "list" = none) (z_len : mg "len" = none) (z_range : mg "range" = none) : ∀ n : Nat, FnOk P w K mg base CX0 (0 + n) f fd ["actual", "expected"] (sp_law_equal K n)
  | 0 => Rd.none_left fun vs H Q E h => by obtain ⟨x, y, d, rfl, hx, hy, hn, hw, k⟩ := h; omega
  | n + 1 => step_law_equal F ⟨f, fd, mf, F.kp, F.bindsN fun _ _ _ _ _ _ us hl => match us, hl with | [_, _], _ => rfl, fn_law_equal mf F z_isinstance z_bool z_int z_str z_tuple z_list z_len z_range n⟩ z_isinstance z_bool z_int z_str z_tuple z_list z_len z_range
theorem ok_law_equal {f : Addr} {fd : FuncData} (mf : mg "_law_equal" = some (.ref f)) (F : FnP K "_law_equal" s_law_equal f fd)  (z_isinstance : mg "isinstance" = none) (z_bool : mg "bool" = none) (z_int : mg "int" = none) (z_str : mg "str" = none) (z_tuple : mg "tuple" = none) (z_list : mg "list" = none) (z_len : mg "len" = none) (z_range : mg "range" = none) : Cal P w K mg base "_law_equal" 5 ["actual", "expected"] (sp_law_equal K 5) :=
  ⟨f, fd, mf, F.kp, F.bindsN fun _ _ _ _ _ _ us hl => match us, hl with | [_, _], _ => rfl, fn_law_equal mf F z_isinstance z_bool z_int z_str z_tuple z_list z_len z_range 5⟩

theorem fn_law {f : Addr} {fd : FuncData} (F : FnP K "law" s_law f fd) (C_law_numbers : Cal P w K mg base "_law_numbers" 1 ["script", "many"] (sp_law_numbers K)) (C_law_token : Cal P w K mg base "_law_token" 3 ["draws"] (sp_law_token K)) (C_law_draw : Cal P w K mg base "_law_draw" 1 ["draws", "many"] (sp_law_draw K)) (C_law_glued : Cal P w K mg base "_law_glued" 1 ["before", "after"] (sp_law_glued K)) (C_tokens : Cal P w K mg base "tokens" 3 ["text"] (sp_tokens K)) (C_law_equal : Cal P w K mg base "_law_equal" 5 ["actual", "expected"] (sp_law_equal K 5)) (z_range : mg "range" = none) (z_len : mg "len" = none) (z_int : mg "int" = none) : FnOk P w K mg base CX0 6 f fd ["script"] (sp_law K) := by
  obtain ⟨f_law_numbers, fd_law_numbers, m_law_numbers, k_law_numbers, b_law_numbers, G_law_numbers⟩ := C_law_numbers.ex
  obtain ⟨f_law_token, fd_law_token, m_law_token, k_law_token, b_law_token, G_law_token⟩ := C_law_token.ex
  obtain ⟨f_law_draw, fd_law_draw, m_law_draw, k_law_draw, b_law_draw, G_law_draw⟩ := C_law_draw.ex
  obtain ⟨f_law_glued, fd_law_glued, m_law_glued, k_law_glued, b_law_glued, G_law_glued⟩ := C_law_glued.ex
  obtain ⟨f_tokens, fd_tokens, m_tokens, k_tokens, b_tokens, G_tokens⟩ := C_tokens.ex
  obtain ⟨f_law_equal, fd_law_equal, m_law_equal, k_law_equal, b_law_equal, G_law_equal⟩ := C_law_equal.ex
  refine F.ok sc_law (fun vs H Q E h => ?_) (fun cdv A outer s H vs Q E hr h => ?_)
  · obtain ⟨a, ns, rfl, _⟩ := h; rfl
  · obtain ⟨a, ns, rfl, hS, h63, k⟩ := h
    refine ⟨_, PSs.nox (pss_cons (ps_set (i := 1) sc_law.nd rfl (by first | exact Or.inl rfl | exact Or.inr rfl) (pe_call G_law_numbers (hr.mono (by decide)) (by rfl) m_law_numbers k_law_numbers b_law_numbers .nil pass0 (pa_cons (pv 0) (pa_cons pe_int pa_nil))))
      (pss_cons (ps_setLc (i := 2) (own := [("k", 7)]) (g := gName 7) (tt := tYes) rfl sc_law.nd rfl rfl (sw_true rfl rfl rfl (by decide +kernel)) (pi_range1 (by rfl) z_range (pa_cons (pe_call G_law_draw (hr.mono (by decide)) (by rfl) m_law_draw k_law_draw b_law_draw .nil pass0 (pa_cons (pv 1) (pa_cons pe_int pa_nil))) pa_nil)) (blkOk_by (N := N_law) (sc := defScope s_law) (by decide +kernel)) (fun _ _ _ _ _ => pg_name (i := 7) sc_law.nd rfl (by first | exact Or.inl rfl | exact Or.inr rfl)) (fun _ _ _ _ _ => pts_nil) (fun _ _ _ _ _ => (pe_call G_law_token (hr.mono (by decide)) (by rfl) m_law_token k_law_token b_law_token .nil pass0 (pa_cons (pv 1) pa_nil))))
      (pss_cons (ps_set (i := 3) sc_law.nd rfl (by first | exact Or.inl rfl | exact Or.inr rfl) (pe_callB call_len_seq (by rfl) z_len boot_len (pa_cons (pv 2) pa_nil)))
      (pss_cons (ps_if (PW.pt (pw_and (pt_cmpR op_gt (pv 3) pe_int (nomark _)) (pw_and1 (pt_cmpR op_eq (pe_call G_law_draw (hr.mono (by decide)) (by rfl) m_law_draw k_law_draw b_law_draw .nil pass0 (pa_cons (pv 1) (pa_cons pe_int pa_nil))) pe_int (nomark _))))) (pss_one (ps_set (i := 3) sc_law.nd rfl (by first | exact Or.inl rfl | exact Or.inr rfl) (pe_call G_law_draw (hr.mono (by decide)) (by rfl) m_law_draw k_law_draw b_law_draw .nil pass0 (pa_cons (pv 1) (pa_cons pe_int pa_nil))))) pss_nil)
      (pss_cons (ps_set (i := 4) sc_law.nd rfl (by first | exact Or.inl rfl | exact Or.inr rfl) (pe_ix ix_list (pe_lst (pa_cons pe_int (pa_cons pe_int (pa_cons pe_int (pa_cons pe_int (pa_cons pe_int (pa_cons pe_int (pa_cons pe_int (pa_cons pe_int pa_nil))))))))) (pe_call G_law_draw (hr.mono (by decide)) (by rfl) m_law_draw k_law_draw b_law_draw .nil pass0 (pa_cons (pv 1) (pa_cons pe_int pa_nil))) (fun _ _ => rfl)))
      (pss_cons (ps_set (i := 5) sc_law.nd rfl (by first | exact Or.inl rfl | exact Or.inr rfl) (pe_op Rd.op_mulS pe_str (pe_call G_law_draw (hr.mono (by decide)) (by rfl) m_law_draw k_law_draw b_law_draw .nil pass0 (pa_cons (pv 1) (pa_cons (pv 4) pa_nil)))))
      (pss_cons (ps_set (i := 6) sc_law.nd rfl (by first | exact Or.inl rfl | exact Or.inr rfl) (pe_lst pa_nil))
      (pss_cons (ps_for PassesOwn.never rfl (pi_range1 (by rfl) z_range (pa_cons (pv 3) pa_nil)) (pg_name (i := 7) sc_law.nd rfl (by first | exact Or.inl rfl | exact Or.inr rfl)) (pss_cons (ps_set (i := 9) sc_law.nd rfl (by first | exact Or.inl rfl | exact Or.inr rfl) (pe_ix ix_list (pv 2) (pe_op op_mod (pe_callTy call_int1 (by rfl) z_int boot_int (pa_cons (pv 7) pa_nil)) (pe_callB call_len_seq (by rfl) z_len boot_len (pa_cons (pv 2) pa_nil))) (fun _ _ => rfl)))
      (pss_cons (ps_set (i := 10) sc_law.nd rfl (by first | exact Or.inl rfl | exact Or.inr rfl) (pe_op Rd.op_mulS pe_str (pe_call G_law_draw (hr.mono (by decide)) (by rfl) m_law_draw k_law_draw b_law_draw .nil pass0 (pa_cons (pv 1) (pa_cons (pv 4) pa_nil)))))
      (pss_cons (ps_if (PW.pt (pw_and (pt_cmpR op_eq (pv 10) pe_str (nomark _)) (pw_and (pt_cmpR op_gt (pe_callB call_len_seq (by rfl) z_len boot_len (pa_cons (pv 6) pa_nil)) pe_int (nomark _)) (pw_and1 (pt_val (pe_call G_law_glued (hr.mono (by decide)) (by rfl) m_law_glued k_law_glued b_law_glued .nil pass0 (pa_cons (pe_ix ix_tup (pe_ix ix_list (pv 6) (pe_un un_neg pe_int) (fun _ _ => rfl)) pe_int (fun _ _ => rfl)) (pa_cons (pv 9) pa_nil)))))))) (pss_one (ps_set (i := 10) sc_law.nd rfl (by first | exact Or.inl rfl | exact Or.inr rfl) pe_str)) pss_nil)
      (pss_one (ps_if (pt_cmpR op_le (pe_op op_add (pe_op op_add (pe_callB call_len_str (by rfl) z_len boot_len (pa_cons (pv 5) pa_nil)) (pe_callB call_len_str (by rfl) z_len boot_len (pa_cons (pv 10) pa_nil))) (pe_callB call_len_str (by rfl) z_len boot_len (pa_cons (pv 9) pa_nil))) pe_int (nomark _)) (pss_cons (ps_set (i := 5) sc_law.nd rfl (by first | exact Or.inl rfl | exact Or.inr rfl) (pe_op op_add_str (pv 5) (pv 10)))
      (pss_cons (ps_expr (pe_bm PySem.F.plainAttrs_list PySem.F.slot_list_append PySem.F.type_list_append mt_append (pv 6) (pa_cons (pe_tup (pa_cons (pv 9) (pa_cons (pe_callB call_len_str (by rfl) z_len boot_len (pa_cons (pv 5) pa_nil)) pa_nil))) pa_nil)))
      (pss_one (ps_set (i := 5) sc_law.nd rfl (by first | exact Or.inl rfl | exact Or.inr rfl) (pe_op op_add_str (pv 5) (pv 9)))))) pss_nil))))))
      (pss_cons (ps_set (i := 5) sc_law.nd rfl (by first | exact Or.inl rfl | exact Or.inr rfl) (pe_op op_add_str (pv 5) (pe_op Rd.op_mulS pe_str (pe_call G_law_draw (hr.mono (by decide)) (by rfl) m_law_draw k_law_draw b_law_draw .nil pass0 (pa_cons (pv 1) (pa_cons pe_int pa_nil))))))
      (pss_cons (ps_set (i := 8) sc_law.nd rfl (by first | exact Or.inl rfl | exact Or.inr rfl) (pe_call G_tokens (hr.mono (by decide)) (by rfl) m_tokens k_tokens b_tokens .nil pass0 (pa_cons (pv 5) pa_nil)))
      (pss_cons (ps_if (pt_not (pt_val (pe_call G_law_equal (hr.mono (by decide)) (by rfl) m_law_equal k_law_equal b_law_equal .nil pass0 (pa_cons (pv 8) (pa_cons (pv 6) pa_nil))))) (pss_one (ps_ret pe_bl)) pss_nil)
      (pss_cons (ps_expr (pe_bm PySem.F.plainAttrs_list PySem.F.slot_list_append PySem.F.type_list_append mt_append (pv 8) (pa_cons (pe_tup (pa_cons pe_str (pa_cons pe_int pa_nil))) pa_nil)))
      (pss_one (ps_ret (pe_call G_law_equal (hr.mono (by decide)) (by rfl) m_law_equal k_law_equal b_law_equal .nil pass0 (pa_cons (pe_call G_tokens (hr.mono (by decide)) (by rfl) m_tokens k_tokens b_tokens .nil pass0 (pa_cons (pv 5) pa_nil)) (pa_cons (pv 6) pa_nil))))))))))))))))), ?_⟩
    try simp only [Rd.cxK, lit_0, lit_1, lit_60]
    walk_at "rd"
    refine ⟨a, ns, 400, rfl, hS, h63, by omega, fun p H1 hs1 hp1 hD1 => ?_⟩
    walk_at "rd"
    rename_i r1 H2 hr0 hr1 hD2
    have hd2 := hD2.dr
    refine Rd.lcR1F (fun D i acc H' => Dr p H2 H' ∧ AllTok acc) (by omega) (fun D hD => ⟨.of_same hd2 (Rd.same_new hD), fun _ h => absurd h (List.not_mem_nil)⟩) ?_ ?_
    · rintro i acc D H' hD hi hl hx ⟨hD', hac⟩
      have hd' := hD'.dr
      have hDp : D ≠ p := Dr.ne hd2 hD
      walk_at "rd"
      rename_i t H'' ht hD''
      refine Rd.lcF (hD''.keep _ _ hDp hx) hl (by omega) ⟨⟨fun b o hb e => ?_, hD''.dr.upd hDp⟩, hac.app ht⟩
      have hbD : b ≠ D := fun z => by rw [z, hD] at e; cases e
      exact (upd_ne hbD).trans ((hD'.trans hD'').keep b o hb e)
    · rintro D acc H3 hD hx hl ⟨hD3, hac⟩
      have hd3 := hD3.dr
      have hDp : D ≠ p := Dr.ne hd2 hD
      have hal : acc.length ≤ 24 := by omega
      walk_at "rd1"
      walk_at "rd1"
      walk_at "rd1"
      walk_at "rd1"
      walk_at "rd1"
      walk_at "rd1"
      walk_at "rd1"
      refine Rd.join (fun σ' H' => ∃ m : Int, σ' = [some (.ref a), some (.ref p), some (.ref D), some (.int m), none, none, none, none, none, none, none] ∧ 0 ≤ m ∧ m ≤ 200 ∧ (0 < m → 0 < acc.length) ∧ Dr p H3 H') (fun N hN => ?_) ?_
      · walk_at "rd"
        · rename_i h0 r2 H4 h20 h21 hD4 h1 r3 H5 h30 h31 hD5
          exact hN _ _ ⟨r3, rfl, h30, by omega, fun _ => by omega, hD4.trans hD5⟩
        · rename_i h0 r2 H4 h20 h21 hD4 h1
          exact hN _ _ ⟨acc.length, rfl, by omega, by omega, fun _ => by omega, hD4⟩
        · exact hN _ _ ⟨acc.length, rfl, by omega, by omega, fun _ => by omega, Dr.refl hd3⟩
      rintro σ' H4 ⟨m, rfl, hm0, hm1, hma, hD4⟩
      have hd4 := hD4.dr
      have hx4 : H4 D = some (.lst acc) := hD4.keep _ _ hDp hx
      clear hD4
      walk_at "rd"
      rename_i w0 hw0 r2 H5 h20 h21 hD5
      refine Rd.ixLall (xs := ?xs) inW ?h ?a h20 ?l (fun v hv => ?k)
      case h => walk_at "hp"
      case a => decide
      case l => exact h21
      obtain ⟨wide, rfl, hw1, hw2⟩ := inW_ok hv
      have hd5 := hD5.dr
      have hx5 : H5 D = some (.lst acc) := hD5.keep _ _ hDp (Rd.nh hw0 hx4)
      clear hD5
      walk_at "rd"
      rename_i r3 H6 h30 h31 hD6 e he
      have hd6 := hD6.dr
      have hep : e ≠ p := Dr.ne hd6 he
      have heD : e ≠ D := fun z => by
        have := hD6.keep _ _ hDp hx5
        rw [← z, he] at this; cases this
      refine Rd.rng1 (fun i σ' H' => ∃ (l : List Nat) (xs : List V) (es : List (List Nat × Nat)) (kv tv gv : Option V), σ' = [some (.ref a), some (.ref p), some (.ref D), some (.int m), some (.int wide), some (.str (Rd.S l)), some (.ref e), kv, none, tv, gv] ∧ DrIn p H' ∧ H' D = some (.lst acc) ∧ H' e = some (.lst xs) ∧ Pr H' xs es ∧ Rem l 0 es ∧ es.length ≤ i ∧ l.length ≤ 4000 ∧ ∀ z ∈ es, Tok z.1 ∧ z.2 ≤ 5000) (by omega) ?_ ?_ ?_
      · refine ⟨_, [], [], _, _, _, rfl, hd6.same (Rd.same_new he), Rd.nh he (hD6.keep _ _ hDp hx5), upd_same, .nil, .nil _ _, Nat.zero_le _, ?_, fun _ h => absurd h (List.not_mem_nil)⟩
        rw [List.length_replicate]; omega
      · rintro i σ' H7 hi ⟨l, xs, es, kv, tv, gv, rfl, hd7, hx7, he7, hp7, hr7, hl7, hl8, ht7⟩
        have hma' := hma (by omega)
        walk_at "rd"
        refine Rd.ixLmem (SqL.of hx7) (Int.emod_nonneg _ (by omega)) (Int.emod_lt_of_pos _ (by omega)) (fun v hv => ?_)
        obtain ⟨t, rfl, ht⟩ := hac v hv
        obtain ⟨c, u, rfl⟩ : ∃ c u, t = c :: u := by
          cases t with
          | nil => exact absurd rfl ht.ne
          | cons c u => exact ⟨c, u, rfl⟩
        have htl := ht.len
        have hul : u.length ≤ 15 := by simpa using htl
        walk_at "rj"
        rename_i r4 H8 h40 h41 hD8
        have hd8 := hD8.dr
        have hx8 : H8 D = some (.lst acc) := hD8.keep _ _ hDp hx7
        have he8 : H8 e = some (.lst xs) := hD8.keep _ _ hep he7
        have hp8 := hp7.keep (Dr.tup hd7 hD8)
        clear hD8
        have hxl := hp8.len
        refine Rd.join (fun σ' H' => ∃ g : Nat, σ' = [some (.ref a), some (.ref p), some (.ref D), some (.int m), some (.int wide), some (.str (Rd.S l)), some (.ref e), some (.int (i : Int)), none, some (.str (Rd.S (c :: u))), some (.str (Rd.S (List.replicate g 32)))] ∧ g ≤ 300 ∧ (g ≠ 0 ∨ Last es c) ∧ H' = H8) (fun N hN => ?_) ?_
        · walk_at "rd"
          · rename_i h0 h1
            obtain ⟨xs', q, es', t', n', e1, e2, e3⟩ := hp8.last (fun z => by rw [z] at h1; exact absurd h1 (by decide))
            refine Rd.ixL (SqL.of he8) (by rw [e1]; exact Rd.atI_last) ?_
            walk_at "rd"
            have htt := (ht7 (t', n') (by rw [e2]; simp)).1
            refine ⟨t', u, c, rfl, ⟨htt.ne, Nat.le_trans htt.len (by decide)⟩, by omega, fun b hb => ?_⟩
            walk_at "rd"
            · exact hN _ _ ⟨1, rfl, by decide, .inl (by decide), rfl⟩
            · rename_i hbf
              refine hN _ _ ⟨r4.toNat, rfl, by omega, .inr fun es2 t2 p2 h2 => ?_, rfl⟩
              rw [e2] at h2
              have h3 := (List.append_inj_right' h2 rfl)
              have h4 := (Prod.mk.inj (List.cons.inj h3).1).1
              rw [← h4]
              exact hb hbf
          · rename_i h0 h1
            have : es = [] := List.eq_nil_of_length_eq_zero (by omega)
            exact hN _ _ ⟨r4.toNat, rfl, by omega, .inr fun es2 t2 p2 h2 => by rw [this] at h2; simp at h2, rfl⟩
          · rename_i h0
            exact hN _ _ ⟨r4.toNat, rfl, by omega, .inl fun z => of_decide_eq_false h0 (by rw [z]; rfl), rfl⟩
        rintro σ' H9 ⟨g, rfl, hg, hgl, rfl⟩
        walk_at "rd"
        · rename_i hfit q hq
          have hqe : q ≠ e := fun z => by rw [z, he8] at hq; cases hq
          have hqD : D ≠ q := fun z => by rw [← z, hx8] at hq; cases hq
          simp only [List.length_replicate, List.length_cons] at hfit
          have hlen : (l ++ List.replicate g 32).length = l.length + g := by simp
          refine ⟨_, _, es ++ [(c :: u, (l ++ List.replicate g 32).length)], _, _, _, rfl, (hd8.same (Rd.same_new hq)).upd hep, ?_, upd_same, ?_, ?_, ?_, ?_, ?_⟩
          · exact (upd_ne (Ne.symm heD)).trans (Rd.nh hq hx8)
          · refine (hp8.keep fun z w hz => ?_).app ?_
            · have n1 : z ≠ e := fun y => by rw [y, he8] at hz; cases hz
              exact (upd_ne n1).trans (Rd.same_new hq _ _ hz)
            · exact (upd_ne hqe).trans upd_same
          · have := hr7.more g ht hgl
            rwa [Nat.zero_add, ← hlen] at this
          · rw [List.length_append]; simp; omega
          · rw [List.length_append, hlen, List.length_cons]; omega
          · intro z hz
            rcases List.mem_append.mp hz with h | h
            · exact ht7 z h
            · rw [List.mem_singleton.mp h]
              exact ⟨ht, by show (l ++ List.replicate g 32).length ≤ 5000; omega⟩
        · exact ⟨l, xs, es, _, _, _, rfl, hd8, hx8, he8, hp8, hr7, by omega, hl8, ht7⟩
      · rintro σ' H7 ⟨l, xs, es, kv, tv, gv, rfl, hd7, hx7, he7, hp7, hr7, hl7, hl8, ht7⟩
        walk_at "rd"
        rename_i r5 H8 h50 h51 hD8
        have he8 : H8 e = some (.lst xs) := hD8.keep _ _ hep he7
        have hp8 := hp7.keep (Dr.tup hd7 hD8)
        have hrm := hr7.spaces r5.toNat
        have hll : (l ++ List.replicate r5.toNat 32).length ≤ 5000 := by simp; omega
        have hes : es.length ≤ 200 := by omega
        have hw := enc_weight (es := es) fun z hz => ⟨(ht7 z hz).1.len, (ht7 z hz).2⟩
        have hd := enc_depth (es := es)
        have dep : (PyData.list (es.map encT)).depth < 5 := by simp only [PyData.depth]; omega
        have wei : (PyData.list (es.map encT)).weight ≤ 1000000 := by simp only [PyData.weight]; omega
        refine ⟨_, es, rfl, hll, hrm, hes, fun q xs1 H9 hs9 hq hx9 hp9 => ?_⟩
        have he9 : H9 e = some (.lst xs) := hs9 _ _ he8
        have hqe : e ≠ q := fun z => by rw [← z, he8] at hq; cases hq
        have hp9' := hp8.keep fun z w hz => hs9 _ _ hz
        have hxl := hp9.len
        walk_at "rd"
        refine ⟨_, _, _, rfl, .lst (SqL.of hx9) hp9.dp, .lst (SqL.of he9) hp9'.dp, dep, wei, ?_⟩
        walk_at "rd"
        rename_i t0 ht0
        have he10 := Rd.nh (o := .tup [V.str (Rd.S [120]), V.int 0]) ht0 he9
        have ht0q : q ≠ t0 := fun z => by rw [← z, hx9] at ht0; cases ht0
        refine ⟨_, es, rfl, hll, hrm, hes, fun q2 xs2 H10 hs10 hq2 hx10 hp10 => ?_⟩
        walk_at "rd"
        refine ⟨_, _, _, rfl, .lst (SqL.of hx10) hp10.dp, .lst (SqL.of (hs10 _ _ ((upd_ne hqe).trans he10))) (Pr.dp (hp9'.keep fun z w hz => hs10 _ _ ((upd_ne ?_).trans (Rd.same_new ht0 _ _ hz)))), dep, wei, ?_⟩
        · exact fun y => by rw [y, hx9] at hz; cases hz
        · exact k _
theorem ok_law {f : Addr} {fd : FuncData} (mf : mg "law" = some (.ref f)) (F : FnP K "law" s_law f fd) (C_law_numbers : Cal P w K mg base "_law_numbers" 1 ["script", "many"] (sp_law_numbers K)) (C_law_token : Cal P w K mg base "_law_token" 3 ["draws"] (sp_law_token K)) (C_law_draw : Cal P w K mg base "_law_draw" 1 ["draws", "many"] (sp_law_draw K)) (C_law_glued : Cal P w K mg base "_law_glued" 1 ["before", "after"] (sp_law_glued K)) (C_tokens : Cal P w K mg base "tokens" 3 ["text"] (sp_tokens K)) (C_law_equal : Cal P w K mg base "_law_equal" 5 ["actual", "expected"] (sp_law_equal K 5)) (z_range : mg "range" = none) (z_len : mg "len" = none) (z_int : mg "int" = none) : Cal P w K mg base "law" 6 ["script"] (sp_law K) :=
  ⟨f, fd, mf, F.kp, F.bindsN fun _ _ _ _ _ _ us hl => match us, hl with | [_], _ => rfl, fn_law F C_law_numbers C_law_token C_law_draw C_law_glued C_tokens C_law_equal z_range z_len z_int⟩

end
def d_run_at : He.DefD := ⟨("_run_at", none), "_run_at", "_run_at", defArgs s_run_at, defBody s_run_at, defScope s_run_at, [], []⟩
def d_sign_at : He.DefD := ⟨("_sign_at", none), "_sign_at", "_sign_at", defArgs s_sign_at, defBody s_sign_at, defScope s_sign_at, [], []⟩
def d_is_good_number : He.DefD := ⟨("_is_good_number", none), "_is_good_number", "_is_good_number", defArgs s_is_good_number, defBody s_is_good_number, defScope s_is_good_number, [], []⟩
def d_law_numbers : He.DefD := ⟨("_law_numbers", none), "_law_numbers", "_law_numbers", defArgs s_law_numbers, defBody s_law_numbers, defScope s_law_numbers, [], []⟩
def d_law_draw : He.DefD := ⟨("_law_draw", none), "_law_draw", "_law_draw", defArgs s_law_draw, defBody s_law_draw, defScope s_law_draw, [], []⟩
def d_law_reserved : He.DefD := ⟨("_law_reserved", none), "_law_reserved", "_law_reserved", defArgs s_law_reserved, defBody s_law_reserved, defScope s_law_reserved, [], []⟩
def d_law_glued : He.DefD := ⟨("_law_glued", none), "_law_glued", "_law_glued", defArgs s_law_glued, defBody s_law_glued, defScope s_law_glued, [], []⟩
def d_token_at : He.DefD := ⟨("_token_at", none), "_token_at", "_token_at", defArgs s_token_at, defBody s_token_at, defScope s_token_at, [], []⟩
def d_law_big : He.DefD := ⟨("_law_big", none), "_law_big", "_law_big", defArgs s_law_big, defBody s_law_big, defScope s_law_big, [], []⟩
def d_law_word : He.DefD := ⟨("_law_word", none), "_law_word", "_law_word", defArgs s_law_word, defBody s_law_word, defScope s_law_word, [], []⟩
def d_tokens : He.DefD := ⟨("tokens", none), "tokens", "tokens", defArgs s_tokens, defBody s_tokens, defScope s_tokens, [], []⟩
def d_law_token : He.DefD := ⟨("_law_token", none), "_law_token", "_law_token", defArgs s_law_token, defBody s_law_token, defScope s_law_token, [], []⟩
def d_law_equal : He.DefD := ⟨("_law_equal", none), "_law_equal", "_law_equal", defArgs s_law_equal, defBody s_law_equal, defScope s_law_equal, [], []⟩
def d_law : He.DefD := ⟨("law", none), "law", "law", defArgs s_law, defBody s_law, defScope s_law, [], []⟩
def fn : List He.DefD := [d_run_at, d_sign_at, d_is_good_number, d_law_numbers, d_law_draw, d_law_reserved, d_law_glued, d_token_at, d_law_big, d_law_word, d_tokens, d_law_token, d_law_equal, d_law]
def fa : List He.Fa := [.glo "_run_at", .glo "_sign_at", .glo "_is_good_number", .glo "_law_numbers", .glo "_law_draw", .glo "_law_reserved", .glo "_law_glued", .glo "_token_at", .glo "_law_big", .glo "_law_word", .glo "tokens", .glo "_law_token", .glo "_law_equal", .glo "law", .free "abs", .free "bool", .free "int", .free "isinstance", .free "len", .free "list", .free "range", .free "str", .free "tuple", .int "MOST" 1000000000000000, .int "MOST_TOKENS" 200, .str "_DIGITS" "0123456789", .str "_LETTERS" "abcdefghijklmnopqrstuvwxyz", .int "_MOST_LETTERS" 12, .glo "_SIGNS"]
abbrev R : PySem.W.OpenRow := PySem.W.OpenLaw.row PySem.Challenge.rw_keptcoin_k07_tokens
def ex (K : PySem.W.Frag) : Bool := He.tupB K "_SIGNS" (Tk.sgns.map fun t => He.Dv.str (Rd.S t))
abbrev hk : PySem.W.Hook := He.hookX 4 fa fn [] [] ex
def ob (s : PySem.W.SharedT) : He.AlX := He.obsX 4 fa fn [] [] ex (HandSHeadRun.getT s)
theorem ob_eq (s : PySem.W.SharedT) : ob s = hk.obs s.abs := He.obsX_eq (HandSHeadRun.getT_eq s)
theorem run (w : World) : HandSHeadRun.RunEq R (PySem.W.view R.prog [26]) hk ob 2000 ["KeptError", "ScriptError", "BadToken", "OverLimit", "MOST", "MOST_TOKENS", "_DIGITS", "_LETTERS", "_MOST_LETTERS", "_SIGNS", "tokens", "_token_at", "_run_at", "_sign_at", "_is_good_number", "_law_numbers", "_law_draw", "_law_big", "_law_reserved", "_law_word", "_law_token", "_law_glued", "_law_equal"] w := by
  intro os
  kernel_rfl
theorem facts {P : Program} {w : World} {K : PySem.W.Frag} {h : Heap} {mg : Str → Option Value} {f : Addr} (X : K.In h) (G : h.Ns mainGlobals mg) (hfa : mg ("law" : Str) = some (.ref f)) (cx : ex K = true) (c : He.SaysD fa fn K) :
    ∃ fd : FuncData, (∀ (s : Shared) (v : Value), BindsTo s fd ⟨[v], []⟩ [("script", v)]) ∧ ∀ base : Heap, K.In base → base.Ns mainGlobals mg → FnOk P w K mg base CX0 6 f fd ["script"] (sp_law K) := by
  obtain ⟨fd_run_at, F_run_at⟩ := c.def_ 0 (d := d_run_at) rfl
  have m_run_at := He.glo_ok X G (c.fact 0 (f := .glo "_run_at") rfl)
  obtain ⟨fd_sign_at, F_sign_at⟩ := c.def_ 1 (d := d_sign_at) rfl
  have m_sign_at := He.glo_ok X G (c.fact 1 (f := .glo "_sign_at") rfl)
  obtain ⟨fd_is_good_number, F_is_good_number⟩ := c.def_ 2 (d := d_is_good_number) rfl
  have m_is_good_number := He.glo_ok X G (c.fact 2 (f := .glo "_is_good_number") rfl)
  obtain ⟨fd_law_numbers, F_law_numbers⟩ := c.def_ 3 (d := d_law_numbers) rfl
  have m_law_numbers := He.glo_ok X G (c.fact 3 (f := .glo "_law_numbers") rfl)
  obtain ⟨fd_law_draw, F_law_draw⟩ := c.def_ 4 (d := d_law_draw) rfl
  have m_law_draw := He.glo_ok X G (c.fact 4 (f := .glo "_law_draw") rfl)
  obtain ⟨fd_law_reserved, F_law_reserved⟩ := c.def_ 5 (d := d_law_reserved) rfl
  have m_law_reserved := He.glo_ok X G (c.fact 5 (f := .glo "_law_reserved") rfl)
  obtain ⟨fd_law_glued, F_law_glued⟩ := c.def_ 6 (d := d_law_glued) rfl
  have m_law_glued := He.glo_ok X G (c.fact 6 (f := .glo "_law_glued") rfl)
  obtain ⟨fd_token_at, F_token_at⟩ := c.def_ 7 (d := d_token_at) rfl
  have m_token_at := He.glo_ok X G (c.fact 7 (f := .glo "_token_at") rfl)
  obtain ⟨fd_law_big, F_law_big⟩ := c.def_ 8 (d := d_law_big) rfl
  have m_law_big := He.glo_ok X G (c.fact 8 (f := .glo "_law_big") rfl)
  obtain ⟨fd_law_word, F_law_word⟩ := c.def_ 9 (d := d_law_word) rfl
  have m_law_word := He.glo_ok X G (c.fact 9 (f := .glo "_law_word") rfl)
  obtain ⟨fd_tokens, F_tokens⟩ := c.def_ 10 (d := d_tokens) rfl
  have m_tokens := He.glo_ok X G (c.fact 10 (f := .glo "tokens") rfl)
  obtain ⟨fd_law_token, F_law_token⟩ := c.def_ 11 (d := d_law_token) rfl
  have m_law_token := He.glo_ok X G (c.fact 11 (f := .glo "_law_token") rfl)
  obtain ⟨fd_law_equal, F_law_equal⟩ := c.def_ 12 (d := d_law_equal) rfl
  have m_law_equal := He.glo_ok X G (c.fact 12 (f := .glo "_law_equal") rfl)
  obtain ⟨fd_law, F_law⟩ := c.def_ 13 (d := d_law) rfl
  have m_law := He.glo_ok X G (c.fact 13 (f := .glo "law") rfl)
  have z_abs := He.free_ok X G (c.fact 14 (f := .free "abs") rfl)
  have z_bool := He.free_ok X G (c.fact 15 (f := .free "bool") rfl)
  have z_int := He.free_ok X G (c.fact 16 (f := .free "int") rfl)
  have z_isinstance := He.free_ok X G (c.fact 17 (f := .free "isinstance") rfl)
  have z_len := He.free_ok X G (c.fact 18 (f := .free "len") rfl)
  have z_list := He.free_ok X G (c.fact 19 (f := .free "list") rfl)
  have z_range := He.free_ok X G (c.fact 20 (f := .free "range") rfl)
  have z_str := He.free_ok X G (c.fact 21 (f := .free "str") rfl)
  have z_tuple := He.free_ok X G (c.fact 22 (f := .free "tuple") rfl)
  have W_MOST := He.int_ok X G (c.fact 23 (f := .int "MOST" 1000000000000000) rfl)
  have W_MOST_TOKENS := He.int_ok X G (c.fact 24 (f := .int "MOST_TOKENS" 200) rfl)
  have W__DIGITS := (show ∃ t, mg "_DIGITS" = some (.str (Rd.S Tk.digs) t) by have q := He.str_ok X G (c.fact 25 (f := .str "_DIGITS" "0123456789") rfl); rw [show ("0123456789" : Str) = Rd.S Tk.digs by decide +kernel] at q; exact q)
  have W__LETTERS := (show ∃ t, mg "_LETTERS" = some (.str (Rd.S Tk.lets) t) by have q := He.str_ok X G (c.fact 26 (f := .str "_LETTERS" "abcdefghijklmnopqrstuvwxyz") rfl); rw [show ("abcdefghijklmnopqrstuvwxyz" : Str) = Rd.S Tk.lets by decide +kernel] at q; exact q)
  have W__MOST_LETTERS := He.int_ok X G (c.fact 27 (f := .int "_MOST_LETTERS" 12) rfl)
  have W__SIGNS := (⟨_, He.glo_ok X G (c.fact 28 (f := .glo "_SIGNS") rfl), fun H => He.tupB_ok (vs := Tk.sgns.map fun t => He.Dv.str (Rd.S t)) cx H⟩ : ∃ a, mg "_SIGNS" = some (.ref a) ∧ ∀ H, SqT K H a (Tk.sgns.map fun t => V.str (Rd.S t)))
  have e := hfa.symm.trans m_law
  cases e
  have b := FunD.bindsA (ps := ["script"]) F_law fun _ _ _ _ _ _ us hl => match us, hl with | [_], _ => rfl
  refine ⟨fd_law, fun s v => b s [v] rfl, fun base _ _ => ?_⟩
  have C_run_at := ok_run_at (P := P) (w := w) (base := base) m_run_at F_run_at z_len
  have C_sign_at := ok_sign_at (P := P) (w := w) (base := base) m_sign_at F_sign_at z_len W__SIGNS
  have C_is_good_number := ok_is_good_number (P := P) (w := w) (base := base) m_is_good_number F_is_good_number z_int z_len z_str W_MOST
  have C_law_numbers := ok_law_numbers (P := P) (w := w) (base := base) m_law_numbers F_law_numbers z_abs z_int z_range z_len
  have C_law_draw := ok_law_draw (P := P) (w := w) (base := base) m_law_draw F_law_draw z_len z_int
  have C_law_reserved := ok_law_reserved (P := P) (w := w) (base := base) m_law_reserved F_law_reserved 
  have C_law_glued := ok_law_glued (P := P) (w := w) (base := base) m_law_glued F_law_glued 
  have C_token_at := ok_token_at (P := P) (w := w) (base := base) m_token_at F_token_at C_run_at C_is_good_number C_sign_at z_len W__DIGITS W__LETTERS W__MOST_LETTERS
  have C_law_big := ok_law_big (P := P) (w := w) (base := base) m_law_big F_law_big C_law_draw z_range
  have C_law_word := ok_law_word (P := P) (w := w) (base := base) m_law_word F_law_word C_law_draw z_range
  have C_tokens := ok_tokens (P := P) (w := w) (base := base) m_tokens F_tokens C_token_at z_len W_MOST_TOKENS
  have C_law_token := ok_law_token (P := P) (w := w) (base := base) m_law_token F_law_token C_law_draw C_law_big C_law_word C_law_reserved z_int z_str
  have C_law_equal := ok_law_equal (P := P) (w := w) (base := base) m_law_equal F_law_equal z_isinstance z_bool z_int z_str z_tuple z_list z_len z_range
  exact fn_law (P := P) (w := w) (base := base) F_law C_law_numbers C_law_token C_law_draw C_law_glued C_tokens C_law_equal z_range z_len z_int
end NK07
open PySem PySem.W PySem.Calls PyProof.Rows
set_option maxRecDepth 100000 in
set_option maxHeartbeats 0 in
theorem PySem.Challenge.cw_keptcoin_k07_tokens_holds : PySem.Challenge.rw_keptcoin_k07_tokens.Holds := by
  w_on; o_law
  refine HandSHeadRun.head_any (r := OpenLaw.row PySem.Challenge.rw_keptcoin_k07_tokens) (q := view (OpenLaw.row PySem.Challenge.rw_keptcoin_k07_tokens).prog [26]) (H := NK07.hk) (ob := NK07.ob) (M := 2000) (loose := ["KeptError", "ScriptError", "BadToken", "OverLimit", "MOST", "MOST_TOKENS", "_DIGITS", "_LETTERS", "_MOST_LETTERS", "_SIGNS", "tokens", "_token_at", "_run_at", "_sign_at", "_is_good_number", "_law_numbers", "_law_draw", "_law_big", "_law_reserved", "_law_word", "_law_token", "_law_glued", "_law_equal"]) (d := HandSHeadRun.topDef (OpenLaw.row PySem.Challenge.rw_keptcoin_k07_tokens).prog 26) (kwd := []) NK07.ob_eq
    (by kernel_rfl) (fun s => by kernel_rfl) NK07.run (by kernel_rfl) (by kernel_rfl) (by kernel_rfl) (by rfl) (by first | assumption | decide +kernel) (by decide +kernel) ⟨rfl, rfl, rfl, rfl, rfl, by decide +kernel⟩ ?hw ?hc
  case hw => w_witness2
  case hc =>
    refine L2.walk_ofE (l := PySem.Challenge.rw_keptcoin_k07_tokens) (n := 63) (k := 6) (x := "script") (CX := L2.CX0) rfl (by decide) (by kernel_rfl) ⟨rfl, by decide, by decide⟩ ?F (fun _ _ _ _ z => z)
    intro w mg fa h Y G hmg0
    obtain ⟨K, KX, c⟩ := Y
    have hmg : mg ("law" : PySem.Str) = some (.ref fa) := by
      have e : (HandSHeadRun.topDef (OpenLaw.row PySem.Challenge.rw_keptcoin_k07_tokens).prog 26).name = ("law" : PySem.Str) := by kernel_rfl
      rw [← e]
      exact hmg0
    obtain ⟨fd, hb, hF⟩ := NK07.facts (P := (PySem.Challenge.rw_keptcoin_k07_tokens).prog) (w := w) KX G hmg c.more c.t.d
    exact ⟨K, fd, NK07.sp_law K, KX, hb, fun H a ns hl _ hS => ⟨a, ns, rfl, hS, hl, fun _ => rfl⟩, hF⟩


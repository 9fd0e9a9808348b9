import PyProof.Rows.All
import Wide.All
import OpenK.AllK
import Wide.FinOn
import KE.KStateDown
import HandS.Base
import HandS.Call
import HandS.List
import HandS.Comp
import HandS.Ends
import HandS.Dict
import HandS.Iter
import HandS.Text
import HandS.More
import HandS.Words
import HandS.WordsList
import HandS.WordsExc
import HandS.Defaults
import HandS.Wide
import HandS.IsInst
import HandS.Flow
import HandS.TupAny
import HandS.Head0
import HandS.Head1
import HandS.Head2
import HandS.HeadEnd
import HandS.HeadHook1
import HandS.HeadHook2
import HandS.HeadHook3
import HandS.HeadHook4
import HandS.ExcBuiltin
import HandS.Exc
import HandS.Style
import HandS.Steps
import KE.KOpsOwn
import HandS.OwnEq
import HandS.SortOrd
import HandS.DictTup
import HandS.DictComp
import HandS.Conv
import PyProof.TupleOfGen
import HandS.Deep
import PyProof.InstNe
import HandS.Codes
import KE.KOwnIter
import HandS.IterVal
import KE.KExcIs
import KE.KIsAll
import HandS.ExcOwn
import HandS.ExcInit
import HandS.ExcIs
import HandS.ExcField
import HandS.MakeKwOnly
import PySem.Challenge.RW_keptcoin_k42_parameters_and_errors
set_option Elab.async false
set_option linter.all false
set_option maxRecDepth 100000
set_option maxHeartbeats 4000000
/-! What a class of errors must say, as a test. -/
namespace Bd
open PySem PySem.Spec PyProof.Rows L2
def oxB (K : PySem.W.Frag) (C : Addr) : Bool := match K.lookup C with
  | some ⟨.type "type", _, .cls cd, sl⟩ => (match cd.mro, sl.toList with
    | .ref C' :: bm, [_, _, _, _, some (.builtin n), _] => C' == C && n == "ValueError.__new__" && !cd.hasDel && cd.hasDict && PySem.HandSPX.refsVE bm
    | _, _ => false)
  | _ => false
def xcB (K : PySem.W.Frag) (C fI : Addr) : Bool := oxB K C && (decide (PySem.W.findIn K (.ref C) "__setattr__" = some (some (.builtin "object.__setattr__"))) && (decide (PySem.W.subIn K (.ref C) (.type "BaseException") = some true) && (decide (PySem.W.typeIn K (.ref C) = some (.type "type")) &&
  (PySem.W.keepIn K (.ref C) && (decide (PySem.W.findIn K (.ref C) "__init__" = some (some (.ref fI))) && (decide (PySem.W.typeIn K (.ref fI) = some (.type "function")) && (decide (PySem.W.findIn K (.ref C) "__getattribute__" = some (some (.builtin "BaseException.__getattribute__"))) &&
  (decide (PySem.W.findIn K (.ref C) "__getattr__" = some none) && (PySem.W.hasDictIn K C && (decide (PySem.W.findIn K (.ref C) "__class__" = some (some (.builtin "object.__class__"))) && (decide (PySem.W.mroIn K C (.type "object") = some true) && decide (PySem.W.findIn K (.ref C) "what" = some none))))))))))))
end Bd

set_option Elab.async false
set_option linter.all false
set_option maxRecDepth 100000
set_option maxHeartbeats 4000000
namespace NK42
open PySem PySem.Spec PyProof.Rows L2
open Bd
def top (i : Nat) : Stmt := PySem.Challenge.pw_keptcoin_k42_parameters_and_errors.main.body.getD i (.Pass ⟨0, 0, 0, 0⟩)
abbrev s_Params___init : Stmt := inClass (top 1) 0
abbrev s_KeptError___init : Stmt := inClass (top 3) 0
abbrev s_law_cell : Stmt := top 63
abbrev s_law_numbers : Stmt := top 64
abbrev s_law_stream : Stmt := top 65
abbrev s_law_between : Stmt := top 67
abbrev s_law_same : Stmt := top 68
abbrev s_law_values : Stmt := top 69
abbrev s_law_shown : Stmt := top 70
abbrev s_law_params_hold : Stmt := top 71
abbrev s_law_family : Stmt := top 72
abbrev s_law_errors_hold : Stmt := top 73
abbrev s_law_made_errors : Stmt := top 74
abbrev s_law : Stmt := top 75
/-- the error classes, each with the number of its family (8: none) -/
def EF : List (Str × Int) := [(("KeptError" : Str), (8 : Int)), (("ShapeError" : Str), (0 : Int)), (("StateError" : Str), (1 : Int)), (("RuleError" : Str), (2 : Int)), (("ChainError" : Str), (3 : Int)), (("PoolError" : Str), (4 : Int)), (("RecordError" : Str), (5 : Int)), (("WalletError" : Str), (6 : Int)), (("ScriptError" : Str), (7 : Int)), (("BadNumber" : Str), (0 : Int)), (("TooMany" : Str), (0 : Int)), (("NoSpends" : Str), (0 : Int)), (("Repeated" : Str), (0 : Int)), (("BadName" : Str), (0 : Int)), (("BadText" : Str), (0 : Int)), (("BadOutput" : Str), (0 : Int)), (("BadMint" : Str), (0 : Int)), (("BadFee" : Str), (0 : Int)), (("BadInterval" : Str), (0 : Int)), (("BadData" : Str), (0 : Int)), (("BadDraw" : Str), (0 : Int)), (("Present" : Str), (1 : Int)), (("Absent" : Str), (1 : Int)), (("NoPot" : Str), (1 : Int)), (("NoMark" : Str), (1 : Int)), (("Reused" : Str), (2 : Int)), (("OutsideInterval" : Str), (2 : Int)), (("UnknownOutput" : Str), (2 : Int)), (("NotSigned" : Str), (2 : Int)), (("NotJoined" : Str), (2 : Int)), (("TooMuch" : Str), (2 : Int)), (("AlreadyJoined" : Str), (2 : Int)), (("RewardLeft" : Str), (2 : Int)), (("BadLock" : Str), (2 : Int)), (("MissingData" : Str), (2 : Int)), (("NeedlessData" : Str), (2 : Int)), (("TooCostly" : Str), (2 : Int)), (("FeeTooLow" : Str), (2 : Int)), (("NeedlessPledge" : Str), (2 : Int)), (("BadPledge" : Str), (2 : Int)), (("PledgeTooSmall" : Str), (2 : Int)), (("Unbalanced" : Str), (2 : Int)), (("WrongClaim" : Str), (2 : Int)), (("BadBlockNumber" : Str), (3 : Int)), (("KnownBlock" : Str), (3 : Int)), (("BarredBlock" : Str), (3 : Int)), (("UnknownParent" : Str), (3 : Int)), (("TooManyTransactions" : Str), (3 : Int)), (("TooDeep" : Str), (3 : Int)), (("BadBlock" : Str), (3 : Int)), (("BadSlot" : Str), (3 : Int)), (("AlreadyPending" : Str), (4 : Int)), (("PoolFull" : Str), (4 : Int)), (("BadNotation" : Str), (5 : Int)), (("BadRecord" : Str), (5 : Int)), (("BadLine" : Str), (5 : Int)), (("NotEnough" : Str), (6 : Int)), (("NoPledge" : Str), (6 : Int)), (("ScriptsRefuse" : Str), (6 : Int))]
def EN : List Str := [("KeptError" : Str), ("ShapeError" : Str), ("StateError" : Str), ("RuleError" : Str), ("ChainError" : Str), ("PoolError" : Str), ("RecordError" : Str), ("WalletError" : Str), ("ScriptError" : Str), ("BadNumber" : Str), ("TooMany" : Str), ("NoSpends" : Str), ("Repeated" : Str), ("BadName" : Str), ("BadText" : Str), ("BadOutput" : Str), ("BadMint" : Str), ("BadFee" : Str), ("BadInterval" : Str), ("BadData" : Str), ("BadDraw" : Str), ("Present" : Str), ("Absent" : Str), ("NoPot" : Str), ("NoMark" : Str), ("Reused" : Str), ("OutsideInterval" : Str), ("UnknownOutput" : Str), ("NotSigned" : Str), ("NotJoined" : Str), ("TooMuch" : Str), ("AlreadyJoined" : Str), ("RewardLeft" : Str), ("BadLock" : Str), ("MissingData" : Str), ("NeedlessData" : Str), ("TooCostly" : Str), ("FeeTooLow" : Str), ("NeedlessPledge" : Str), ("BadPledge" : Str), ("PledgeTooSmall" : Str), ("Unbalanced" : Str), ("WrongClaim" : Str), ("BadBlockNumber" : Str), ("KnownBlock" : Str), ("BarredBlock" : Str), ("UnknownParent" : Str), ("TooManyTransactions" : Str), ("TooDeep" : Str), ("BadBlock" : Str), ("BadSlot" : Str), ("AlreadyPending" : Str), ("PoolFull" : Str), ("BadNotation" : Str), ("BadRecord" : Str), ("BadLine" : Str), ("NotEnough" : Str), ("NoPledge" : Str), ("ScriptsRefuse" : Str)]
theorem EN_eq : EN = EF.map (·.1) := rfl
def FN : List (Str × Int) := [("ShapeError", 0), ("StateError", 1), ("RuleError", 2), ("ChainError", 3), ("PoolError", 4), ("RecordError", 5), ("WalletError", 6), ("ScriptError", 7)]
def efB (K : PySem.W.Frag) : Bool := EF.all fun p => xcB K (He.ga K p.1) (He.fAd K ("KeptError", some "__init__")) && (FN.all (fun q => decide (PySem.W.kitOne K (.ref (He.ga K p.1)) (.ref (He.ga K q.1)) = some (decide (p.2 = q.2)))) &&
  (decide (PySem.W.kitOne K (.ref (He.ga K p.1)) (.ref (He.ga K "KeptError")) = some true) && decide (PySem.W.kitOne K (.ref (He.ga K p.1)) (.type "ValueError") = some true)))
def d_Params___init : He.DefD := ⟨("Params", some "__init__"), "__init__", "Params.__init__", defArgs s_Params___init, defBody s_Params___init, defScope s_Params___init, [], [("deposit", .int 20), ("fee_base", .int 5), ("fee_weight", .int 1), ("fee_step", .int 2), ("pledge_rate", .int 150), ("coin_base", .int 2), ("epoch_length", .int 10), ("share", .int 50), ("depth", .int 4), ("most_steps", .int 20000)]⟩
def d_KeptError___init : He.DefD := ⟨("KeptError", some "__init__"), "__init__", "KeptError.__init__", defArgs s_KeptError___init, defBody s_KeptError___init, defScope s_KeptError___init, [.non], []⟩
def d_law_cell : He.DefD := ⟨("_law_cell", none), "_law_cell", "_law_cell", defArgs s_law_cell, defBody s_law_cell, defScope s_law_cell, [], []⟩
def d_law_numbers : He.DefD := ⟨("_law_numbers", none), "_law_numbers", "_law_numbers", defArgs s_law_numbers, defBody s_law_numbers, defScope s_law_numbers, [], []⟩
def d_law_between : He.DefD := ⟨("_law_between", none), "_law_between", "_law_between", defArgs s_law_between, defBody s_law_between, defScope s_law_between, [], []⟩
def d_law_shown : He.DefD := ⟨("_law_shown", none), "_law_shown", "_law_shown", defArgs s_law_shown, defBody s_law_shown, defScope s_law_shown, [], []⟩
def d_law_family : He.DefD := ⟨("_law_family", none), "_law_family", "_law_family", defArgs s_law_family, defBody s_law_family, defScope s_law_family, [], []⟩
def d_law_stream : He.DefD := ⟨("_law_stream", none), "_law_stream", "_law_stream", defArgs s_law_stream, defBody s_law_stream, defScope s_law_stream, [], []⟩
def d_law_same : He.DefD := ⟨("_law_same", none), "_law_same", "_law_same", defArgs s_law_same, defBody s_law_same, defScope s_law_same, [], []⟩
def d_law_values : He.DefD := ⟨("_law_values", none), "_law_values", "_law_values", defArgs s_law_values, defBody s_law_values, defScope s_law_values, [], []⟩
def d_law_params_hold : He.DefD := ⟨("_law_params_hold", none), "_law_params_hold", "_law_params_hold", defArgs s_law_params_hold, defBody s_law_params_hold, defScope s_law_params_hold, [], []⟩
def d_law_errors_hold : He.DefD := ⟨("_law_errors_hold", none), "_law_errors_hold", "_law_errors_hold", defArgs s_law_errors_hold, defBody s_law_errors_hold, defScope s_law_errors_hold, [], []⟩
def d_law_made_errors : He.DefD := ⟨("_law_made_errors", none), "_law_made_errors", "_law_made_errors", defArgs s_law_made_errors, defBody s_law_made_errors, defScope s_law_made_errors, [], []⟩
def d_law : He.DefD := ⟨("law", none), "law", "law", defArgs s_law, defBody s_law, defScope s_law, [], []⟩
def fn : List He.DefD := [d_Params___init, d_KeptError___init, d_law_cell, d_law_numbers, d_law_between, d_law_shown, d_law_family, d_law_stream, d_law_same, d_law_values, d_law_params_hold, d_law_errors_hold, d_law_made_errors, d_law]
def fa : List He.Fa := [.glo "_law_cell", .glo "_law_numbers", .glo "_law_between", .glo "_law_shown", .glo "_law_family", .glo "_law_stream", .glo "_law_same", .glo "_law_values", .glo "_law_params_hold", .glo "_law_errors_hold", .glo "_law_made_errors", .glo "law", .free "ValueError", .free "abs", .free "bool", .free "int", .free "isinstance", .free "len", .free "min", .free "range", .free "str", .free "tuple", .glo "Params", .cls "Params", .mkr "Params", .noat "Params" "deposit", .noat "Params" "fee_base", .noat "Params" "fee_weight", .noat "Params" "fee_step", .noat "Params" "pledge_rate", .noat "Params" "coin_base", .noat "Params" "epoch_length", .noat "Params" "share", .noat "Params" "depth", .noat "Params" "most_steps", .glo "KeptError", .glo "ShapeError", .glo "StateError", .glo "RuleError", .glo "ChainError", .glo "PoolError", .glo "RecordError", .glo "WalletError", .glo "ScriptError", .glo "BadNumber", .glo "TooMany", .glo "NoSpends", .glo "Repeated", .glo "BadName", .glo "BadText", .glo "BadOutput", .glo "BadMint", .glo "BadFee", .glo "BadInterval", .glo "BadData", .glo "BadDraw", .glo "Present", .glo "Absent", .glo "NoPot", .glo "NoMark", .glo "Reused", .glo "OutsideInterval", .glo "UnknownOutput", .glo "NotSigned", .glo "NotJoined", .glo "TooMuch", .glo "AlreadyJoined", .glo "RewardLeft", .glo "BadLock", .glo "MissingData", .glo "NeedlessData", .glo "TooCostly", .glo "FeeTooLow", .glo "NeedlessPledge", .glo "BadPledge", .glo "PledgeTooSmall", .glo "Unbalanced", .glo "WrongClaim", .glo "BadBlockNumber", .glo "KnownBlock", .glo "BarredBlock", .glo "UnknownParent", .glo "TooManyTransactions", .glo "TooDeep", .glo "BadBlock", .glo "BadSlot", .glo "AlreadyPending", .glo "PoolFull", .glo "BadNotation", .glo "BadRecord", .glo "BadLine", .glo "NotEnough", .glo "NoPledge", .glo "ScriptsRefuse"]
abbrev R : PySem.W.OpenRow := PySem.W.OpenLaw.row PySem.Challenge.rw_keptcoin_k42_parameters_and_errors
def ex (K : PySem.W.Frag) : Bool := efB K
abbrev hk : PySem.W.Hook := He.hookX 4 fa fn [] [] ex
def ob (s : PySem.W.SharedT) : He.AlX := He.obsX 4 fa fn [] [] ex (HandSHeadRun.getT s)
theorem ob_eq (s : PySem.W.SharedT) : ob s = hk.obs s.abs := He.obsX_eq (HandSHeadRun.getT_eq s)
theorem run (w : World) : HandSHeadRun.RunEq R (PySem.W.view R.prog [75]) hk ob 50000 [("Params" : PySem.Str), ("KeptError" : PySem.Str), ("ShapeError" : PySem.Str), ("StateError" : PySem.Str), ("RuleError" : PySem.Str), ("ChainError" : PySem.Str), ("PoolError" : PySem.Str), ("RecordError" : PySem.Str), ("WalletError" : PySem.Str), ("ScriptError" : PySem.Str), ("BadNumber" : PySem.Str), ("TooMany" : PySem.Str), ("NoSpends" : PySem.Str), ("Repeated" : PySem.Str), ("BadName" : PySem.Str), ("BadText" : PySem.Str), ("BadOutput" : PySem.Str), ("BadMint" : PySem.Str), ("BadFee" : PySem.Str), ("BadInterval" : PySem.Str), ("BadData" : PySem.Str), ("BadDraw" : PySem.Str), ("Present" : PySem.Str), ("Absent" : PySem.Str), ("NoPot" : PySem.Str), ("NoMark" : PySem.Str), ("Reused" : PySem.Str), ("OutsideInterval" : PySem.Str), ("UnknownOutput" : PySem.Str), ("NotSigned" : PySem.Str), ("NotJoined" : PySem.Str), ("TooMuch" : PySem.Str), ("AlreadyJoined" : PySem.Str), ("RewardLeft" : PySem.Str), ("BadLock" : PySem.Str), ("MissingData" : PySem.Str), ("NeedlessData" : PySem.Str), ("TooCostly" : PySem.Str), ("FeeTooLow" : PySem.Str), ("NeedlessPledge" : PySem.Str), ("BadPledge" : PySem.Str), ("PledgeTooSmall" : PySem.Str), ("Unbalanced" : PySem.Str), ("WrongClaim" : PySem.Str), ("BadBlockNumber" : PySem.Str), ("KnownBlock" : PySem.Str), ("BarredBlock" : PySem.Str), ("UnknownParent" : PySem.Str), ("TooManyTransactions" : PySem.Str), ("TooDeep" : PySem.Str), ("BadBlock" : PySem.Str), ("BadSlot" : PySem.Str), ("AlreadyPending" : PySem.Str), ("PoolFull" : PySem.Str), ("BadNotation" : PySem.Str), ("BadRecord" : PySem.Str), ("BadLine" : PySem.Str), ("NotEnough" : PySem.Str), ("NoPledge" : PySem.Str), ("ScriptsRefuse" : PySem.Str), ("_law_cell" : PySem.Str), ("_law_numbers" : PySem.Str), ("_law_stream" : PySem.Str), ("_law_count" : PySem.Str), ("_law_between" : PySem.Str), ("_law_same" : PySem.Str), ("_law_values" : PySem.Str), ("_law_shown" : PySem.Str), ("_law_params_hold" : PySem.Str), ("_law_family" : PySem.Str), ("_law_errors_hold" : PySem.Str), ("_law_made_errors" : PySem.Str)] w := by
  intro os
  kernel_rfl
end NK42

set_option Elab.async false
set_option linter.all false
set_option maxRecDepth 100000
/-! Reading rules: each reading of the hand layer as one step towards what follows. -/
namespace Rd
open PySem PySem.Spec PyProof.Rows L2

/-! ### heaps -/
theorem same_new {H : Hp} {p : Addr} {o : HO} (h : H p = none) : Same H (upd H p o) := fun b x e => by
  rw [upd_ne (ne_of_none e h)]
  exact e
/-- an object that H does not know may change -/
theorem same_mut {H H' : Hp} {p : Addr} {o : HO} (e : Same H H') (h : H p = none) : Same H (upd H' p o) := fun a u ha => by
  rw [upd_ne (ne_of_none ha h)]
  exact e a u ha
theorem same_tup {K : PySem.W.Frag} {H H' : Hp} {a : Addr} {xs : List V} (e : Same H H') (h : SqT K H a xs) : SqT K H' a xs := by
  rcases h with (h | ⟨o, h⟩) | h
  · exact .inl (.inl (e _ _ h))
  · exact .inl (.inr ⟨o, e _ _ h⟩)
  · exact .inr h
theorem nl {K : PySem.W.Frag} {H : Hp} {p a : Addr} {o : HO} {xs : List V} (hp : H p = none) (h : SqL K H a xs) : SqL K (upd H p o) a xs := (same_new hp).seq h
theorem nt {K : PySem.W.Frag} {H : Hp} {p a : Addr} {o : HO} {xs : List V} (hp : H p = none) (h : SqT K H a xs) : SqT K (upd H p o) a xs := same_tup (same_new hp) h
theorem nh {H : Hp} {p a : Addr} {o u : HO} (hp : H p = none) (h : H a = some u) : upd H p o a = some u := same_new hp _ _ h
theorem slT {K : PySem.W.Frag} {H : Hp} {p : Addr} {xs : List V} : SqT K (upd H p (.tup xs)) p xs := SqT.of upd_same
theorem slL {K : PySem.W.Frag} {H : Hp} {p : Addr} {xs : List V} : SqL K (upd H p (.lst xs)) p xs := SqL.of upd_same
theorem small {n : Nat} (h : n ≤ 100000) : n ≤ sizeLine := Nat.le_trans h (by decide)
theorem smallT {n : Nat} (h : n < 100000) : n < sizeLine := Nat.lt_of_lt_of_le h (by decide)

theorem ul {K : PySem.W.Frag} {H : Hp} {p a : Addr} {o : HO} {xs : List V} (hp : a ≠ p) (h : SqL K H a xs) : SqL K (upd H p o) a xs := by
  rcases h with (h | ⟨u, h⟩) | h
  · exact .inl (.inl ((upd_ne hp).trans h))
  · exact .inl (.inr ⟨u, (upd_ne hp).trans h⟩)
  · exact .inr h
theorem ut {K : PySem.W.Frag} {H : Hp} {p a : Addr} {o : HO} {xs : List V} (hp : a ≠ p) (h : SqT K H a xs) : SqT K (upd H p o) a xs := by
  rcases h with (h | ⟨u, h⟩) | h
  · exact .inl (.inl ((upd_ne hp).trans h))
  · exact .inl (.inr ⟨u, (upd_ne hp).trans h⟩)
  · exact .inr h
theorem uh {H : Hp} {p a : Addr} {o u : HO} (hp : a ≠ p) (h : H a = some u) : upd H p o a = some u := (upd_ne hp).trans h
/-! ### expressions -/
section
variable {σ : L2.St} {H : Hp} {Q : VK} {ta tb te tc : TE} {K : PySem.W.Frag}
theorem var {i : Nat} {v : V} (h : σ[i]? = some (some v)) (k : Q v H) : tVar i σ H Q := ⟨v, h, k⟩
theorem cst {v : V} (k : Q v H) : tC v σ H Q := k
theorem op {r : R2} (k : ta σ H fun x H1 => tb σ H1 fun y H2 => r x y H2 Q) : tOp r ta tb σ H Q := k
theorem un {r : V → Hp → VK → Prop} (k : ta σ H fun x H1 => r x H1 Q) : tUn r ta σ H Q := k
theorem opI0 {g : Int → Int → V} {i j : Int} (k : Q (g i j) H) : rI0 g (.int i) (.int j) H Q := ⟨i, j, rfl, rfl, k⟩
theorem opI {C : Int → Int → Prop} {g : Int → Int → V} {i j : Int} (c : C i j) (k : Q (g i j) H) : rI C g (.int i) (.int j) H Q := ⟨i, j, rfl, rfl, c, k⟩
theorem opU {g : Int → V} {i : Int} (k : Q (g i) H) : rU g (.int i) H Q := ⟨i, rfl, k⟩
theorem eqI {i j : Int} (k : Q (.bl (decide (i = j))) H) : rEq (.int i) (.int j) H Q := ⟨rfl, by
  have e : decide (V.int i = V.int j) = decide (i = j) := by simp
  rw [e]; exact k⟩
theorem neI {i j : Int} (k : Q (.bl (!decide (i = j))) H) : rNe (.int i) (.int j) H Q := ⟨rfl, by
  have e : decide (V.int i = V.int j) = decide (i = j) := by simp
  rw [e]; exact k⟩
theorem eqS {i j : Str} (k : Q (.bl (decide (i = j))) H) : rEq (.str i) (.str j) H Q := ⟨rfl, by
  have e : decide (V.str i = V.str j) = decide (i = j) := by simp
  rw [e]; exact k⟩
theorem neS {i j : Str} (k : Q (.bl (!decide (i = j))) H) : rNe (.str i) (.str j) H Q := ⟨rfl, by
  have e : decide (V.str i = V.str j) = decide (i = j) := by simp
  rw [e]; exact k⟩
theorem eqB {i j : Bool} (k : Q (.bl (decide (i = j))) H) : rEq (.bl i) (.bl j) H Q := ⟨rfl, by
  have e : decide (V.bl i = V.bl j) = decide (i = j) := by simp
  rw [e]; exact k⟩
theorem neB {i j : Bool} (k : Q (.bl (!decide (i = j))) H) : rNe (.bl i) (.bl j) H Q := ⟨rfl, by
  have e : decide (V.bl i = V.bl j) = decide (i = j) := by simp
  rw [e]; exact k⟩
theorem chain {r r' : R2} (k : ta σ H fun x H1 => tb σ H1 fun y H2 => r x y H2 fun z H3 => ∃ k, z = .bl k ∧ (if k = true then tc σ H3 fun w' H4 => r' y w' H4 Q else Q (.bl false) H3)) : tChain r r' ta tb tc σ H Q := k
theorem bl {b : Bool} {P : Bool → Prop} (k : P b) : ∃ c, V.bl b = V.bl c ∧ P c := ⟨b, rfl, k⟩
theorem andV (k : ta σ H fun x H1 => ∃ c, x = .bl c ∧ if c = true then tb σ H1 Q else Q (.bl false) H1) : tAndV ta tb σ H Q := k
theorem orV (k : ta σ H fun x H1 => ∃ c, x = .bl c ∧ if c = true then Q (.bl true) H1 else tb σ H1 Q) : tOrV ta tb σ H Q := k
theorem notV (k : ta σ H fun x H1 => ∃ c, x = .bl c ∧ Q (.bl (!c)) H1) : tNotV ta σ H Q := k
theorem ifE {t : TT} (k : t σ H fun c H1 => if c = true then ta σ H1 Q else tb σ H1 Q) : tIf t ta tb σ H Q := k
theorem nil {Q : List V → Hp → Prop} (k : Q [] H) : tNil σ H Q := k
theorem cons {tr : TA} {Q : List V → Hp → Prop} (k : ta σ H fun x H1 => tr σ H1 fun xs H2 => Q (x :: xs) H2) : tCons ta tr σ H Q := k
theorem callN {sp : Sp} {E : XK} {t : TA} (k : t σ H fun vs H1 => sp vs H1 Q E) : tCall sp [] E t σ H Q := by
  unfold tCall
  simp only [List.append_nil]
  exact k
theorem cb {r : List V → Hp → VK → Prop} {t : TA} (k : t σ H fun vs H1 => r vs H1 Q) : tCB r t σ H Q := k
theorem tup {t : TA} (k : t σ H fun xs H1 => xs.length ≤ sizeLine ∧ ∀ p, H1 p = none → Q (.ref p) (upd H1 p (.tup xs))) : tTup t σ H Q := k
theorem lst {t : TA} (k : t σ H fun xs H1 => xs.length ≤ sizeLine ∧ ∀ p, H1 p = none → Q (.ref p) (upd H1 p (.lst xs))) : tLst t σ H Q := k
theorem ixL {p : Addr} {xs : List V} {i : Int} {v : V} (h : SqL K H p xs) (a : atI xs i = some v) (k : Q v H) : rIxL K (.ref p) (.int i) H Q := ⟨p, xs, i, v, rfl, rfl, h, a, k⟩
theorem ixT {p : Addr} {xs : List V} {i : Int} {v : V} (h : SqT K H p xs) (a : atI xs i = some v) (k : Q v H) : rIxT K (.ref p) (.int i) H Q := ⟨p, xs, i, v, rfl, rfl, h, a, k⟩
theorem sl {r : V → Option Int → Option Int → Hp → VK → Prop} {tl th : TO} (k : te σ H fun x H1 => tl σ H1 fun lo H2 => th σ H2 fun hi H3 => r x lo hi H3 Q) : tSl r te tl th σ H Q := k
/-! built-ins whose readings are written out: each by a name -/
def LenK (K : PySem.W.Frag) (xs : List V) (H : Hp) (Q : VK) : Prop := ∃ p ys, xs = [.ref p] ∧ (SqL K H p ys ∨ SqT K H p ys) ∧ Q (.int ys.length) H
def LenSK (xs : List V) (H : Hp) (Q : VK) : Prop := ∃ z : Str, xs = [.str z] ∧ z.length ≤ sizeLine ∧ Q (.int z.length) H
def IntK (xs : List V) (H : Hp) (Q : VK) : Prop := (∃ i, xs = [.int i] ∧ Q (.int i) H) ∨ ∃ k, xs = [.bl k] ∧ Q (.int (if k then 1 else 0)) H
def AbsK (xs : List V) (H : Hp) (Q : VK) : Prop := ∃ i, xs = [.int i] ∧ Q (.int (if i < 0 then -i else i)) H
def StrIK (xs : List V) (H : Hp) (Q : VK) : Prop := ∃ i, xs = [.int i] ∧ i.natAbs.log2 < 1920 ∧ Q (.str (toString i)) H
def LstK (K : PySem.W.Frag) (xs : List V) (H : Hp) (Q : VK) : Prop := ∃ p ys, xs = [.ref p] ∧ (SqL K H p ys ∨ SqT K H p ys) ∧ ∀ l, H l = none → Q (.ref l) (upd H l (.lst ys))
def TupK (K : PySem.W.Frag) (xs : List V) (H : Hp) (Q : VK) : Prop := ∃ p ys, xs = [.ref p] ∧ ((SqL K H p ys ∧ ∀ l, H l = none → Q (.ref l) (upd H l (.tup ys))) ∨ (SqT K H p ys ∧ Q (.ref p) H))
def Max2K (xs : List V) (H : Hp) (Q : VK) : Prop := ∃ i j, xs = [.int i, .int j] ∧ Q (.int (if j > i then j else i)) H
def Min2K (xs : List V) (H : Hp) (Q : VK) : Prop := ∃ i j, xs = [.int i, .int j] ∧ Q (.int (if j < i then j else i)) H
theorem cbLen {t : TA} (k : t σ H fun vs H1 => LenK K vs H1 Q) : tCB (fun xs H Q => ∃ p ys, xs = [V.ref p] ∧ (SqL K H p ys ∨ SqT K H p ys) ∧ Q (.int ys.length) H) t σ H Q := k
theorem cbLenS {t : TA} (k : t σ H fun vs H1 => LenSK vs H1 Q) : tCB (fun xs H Q => ∃ z, xs = [V.str z] ∧ z.length ≤ sizeLine ∧ Q (.int z.length) H) t σ H Q := k
theorem cbInt {t : TA} (k : t σ H fun vs H1 => IntK vs H1 Q) : tCB (fun xs H Q => (∃ i, xs = [V.int i] ∧ Q (.int i) H) ∨ ∃ k, xs = [V.bl k] ∧ Q (.int (if k then 1 else 0)) H) t σ H Q := k
theorem cbAbs {t : TA} (k : t σ H fun vs H1 => AbsK vs H1 Q) : tCB (fun xs H Q => ∃ i, xs = [V.int i] ∧ Q (.int (if i < 0 then -i else i)) H) t σ H Q := k
theorem cbStrI {t : TA} (k : t σ H fun vs H1 => StrIK vs H1 Q) : tCB (fun xs H Q => ∃ i, xs = [V.int i] ∧ i.natAbs.log2 < 1920 ∧ Q (.str (toString i)) H) t σ H Q := k
theorem cbLst {t : TA} (k : t σ H fun vs H1 => LstK K vs H1 Q) : tCB (fun xs H Q => ∃ p ys, xs = [V.ref p] ∧ (SqL K H p ys ∨ SqT K H p ys) ∧ ∀ l, H l = none → Q (.ref l) (upd H l (.lst ys))) t σ H Q := k
theorem cbTup {t : TA} (k : t σ H fun vs H1 => TupK K vs H1 Q) : tCB (fun xs H Q => ∃ p ys, xs = [V.ref p] ∧ ((SqL K H p ys ∧ ∀ l, H l = none → Q (.ref l) (upd H l (.tup ys))) ∨ (SqT K H p ys ∧ Q (.ref p) H))) t σ H Q := k
theorem cbMax2 {t : TA} (k : t σ H fun vs H1 => Max2K vs H1 Q) : tCB (fun xs H Q => ∃ i j, xs = [V.int i, V.int j] ∧ Q (.int (if j > i then j else i)) H) t σ H Q := k
theorem cbMin2 {t : TA} (k : t σ H fun vs H1 => Min2K vs H1 Q) : tCB (fun xs H Q => ∃ i j, xs = [V.int i, V.int j] ∧ Q (.int (if j < i then j else i)) H) t σ H Q := k
def IsNK (x y : V) (H : Hp) (Q : VK) : Prop := y = .non ∧ Q (.bl (decide (x = .non))) H
def NotNK (x y : V) (H : Hp) (Q : VK) : Prop := y = .non ∧ Q (.bl (!decide (x = .non))) H
def AddSK (x y : V) (H : Hp) (Q : VK) : Prop := ∃ i j, x = .str i ∧ y = .str j ∧ i.length + j.length ≤ sizeLine ∧ Q (.str (i ++ j)) H
theorem opIsN (k : ta σ H fun x H1 => tb σ H1 fun y H2 => IsNK x y H2 Q) : tOp (fun x y H Q => y = V.non ∧ Q (.bl (decide (x = .non))) H) ta tb σ H Q := k
theorem opNotN (k : ta σ H fun x H1 => tb σ H1 fun y H2 => NotNK x y H2 Q) : tOp (fun x y H Q => y = V.non ∧ Q (.bl (!decide (x = .non))) H) ta tb σ H Q := k
theorem opAddS (k : ta σ H fun x H1 => tb σ H1 fun y H2 => AddSK x y H2 Q) : tOp (fun x y H Q => ∃ i j, x = V.str i ∧ y = V.str j ∧ i.length + j.length ≤ sizeLine ∧ Q (.str (i ++ j)) H) ta tb σ H Q := k
theorem addS {i j : Str} (h : i.length + j.length ≤ 100000) (k : Q (.str (i ++ j)) H) : AddSK (.str i) (.str j) H Q := ⟨i, j, rfl, rfl, small h, k⟩
theorem isN' {x : V} (k : Q (.bl (decide (x = .non))) H) : IsNK x .non H Q := ⟨rfl, k⟩
theorem notN' {x : V} (k : Q (.bl (!decide (x = .non))) H) : NotNK x .non H Q := ⟨rfl, k⟩
theorem lenS {z : Str} (h : z.length ≤ 100000) (k : Q (.int z.length) H) : LenSK [.str z] H Q := ⟨z, rfl, small h, k⟩
theorem intB {b : Bool} (k : Q (.int (if b then 1 else 0)) H) : IntK [.bl b] H Q := .inr ⟨b, rfl, k⟩
theorem lstL {p : Addr} {ys : List V} (h : SqL K H p ys) (k : ∀ l, H l = none → Q (.ref l) (upd H l (.lst ys))) : LstK K [.ref p] H Q := ⟨p, ys, rfl, .inl h, k⟩
theorem lstT {p : Addr} {ys : List V} (h : SqT K H p ys) (k : ∀ l, H l = none → Q (.ref l) (upd H l (.lst ys))) : LstK K [.ref p] H Q := ⟨p, ys, rfl, .inr h, k⟩
theorem tupL {p : Addr} {ys : List V} (h : SqL K H p ys) (k : ∀ l, H l = none → Q (.ref l) (upd H l (.tup ys))) : TupK K [.ref p] H Q := ⟨p, ys, rfl, .inl ⟨h, k⟩⟩
theorem tupT {p : Addr} {ys : List V} (h : SqT K H p ys) (k : Q (.ref p) H) : TupK K [.ref p] H Q := ⟨p, ys, rfl, .inr ⟨h, k⟩⟩
theorem max2 {i j : Int} (k : ∀ z : Int, i ≤ z → j ≤ z → (z = i ∨ z = j) → Q (.int z) H) : Max2K [.int i, .int j] H Q := ⟨i, j, rfl, k _ (by split <;> omega) (by split <;> omega) (by split <;> omega)⟩
theorem min2 {i j : Int} (k : ∀ z : Int, z ≤ i → z ≤ j → (z = i ∨ z = j) → Q (.int z) H) : Min2K [.int i, .int j] H Q := ⟨i, j, rfl, k _ (by split <;> omega) (by split <;> omega) (by split <;> omega)⟩
theorem lenL {p : Addr} {ys : List V} {n : Nat} (h : SqL K H p ys) (e : ys.length = n) (k : Q (.int n) H) : LenK K [.ref p] H Q := ⟨p, ys, rfl, .inl h, by rw [e]; exact k⟩
theorem lenT {p : Addr} {ys : List V} {n : Nat} (h : SqT K H p ys) (e : ys.length = n) (k : Q (.int n) H) : LenK K [.ref p] H Q := ⟨p, ys, rfl, .inr h, by rw [e]; exact k⟩
theorem int1 {i : Int} (k : Q (.int i) H) : IntK [.int i] H Q := .inl ⟨i, rfl, k⟩
theorem abs1 {i : Int} (k : ∀ z : Int, 0 ≤ z → (z = i ∨ z = -i) → Q (.int z) H) : AbsK [.int i] H Q := ⟨i, rfl, k _ (by split <;> omega) (by split <;> omega)⟩
theorem len {xs : List V} {P : Prop} (h : xs.length ≤ 100000) (k : P) : xs.length ≤ sizeLine ∧ P := ⟨small h, k⟩
theorem pw {a e z : Int} (c : CPow a e) (h : a ^ e.toNat = z) (k : Q (.int z) H) : rI CPow (fun i j => .int (i ^ j.toNat)) (.int a) (.int e) H Q := ⟨a, e, rfl, rfl, c, by subst h; exact k⟩
theorem isi {x c : V} {t u : Value} {b : Bool} (hc : ClsV c u) (ht : TyX K H x t) (e : PySem.W.kitOne K t u = some b) (k : Q (.bl b) H) : rIsi K [x, c] H Q := ⟨x, c, t, u, b, rfl, hc, ht, e, k⟩
/-- a new value of a kind at the end of a derivation -/
theorem fresh {P : Addr → Hp → Prop} {o : HO} (k : ∀ p H', H p = none → H' = upd H p o → P p H') : ∀ p, H p = none → P p (upd H p o) := fun p hp => k p _ hp rfl
end

/-! ### tests, statements -/
section
variable {σ : L2.St} {H : Hp} {n b c : L2.St → Hp → Prop} {r : VK} {ta te : TE} {t u : TS} {D : Ends} {tc td : TT}
theorem tst {Q : Bool → Hp → Prop} (k : te σ H fun x H' => ∃ c, x = .bl c ∧ Q c H') : tTest te σ H Q := k
theorem tB_ {Q : Bool → Hp → Prop} (k : te σ H fun x H' => ∃ c, x = .bl c ∧ Q c H') : tB te σ H Q := k
theorem and_ {Q : Bool → Hp → Prop} (k : tc σ H fun c H1 => if c = true then td σ H1 Q else Q false H1) : tAnd tc td σ H Q := k
theorem or_ {Q : Bool → Hp → Prop} (k : tc σ H fun c H1 => if c = true then Q true H1 else td σ H1 Q) : tOr tc td σ H Q := k
theorem not_ {Q : Bool → Hp → Prop} (k : tc σ H fun c H1 => Q (!c) H1) : tNot tc σ H Q := k
theorem seq (k : t ⟨u ⟨n, r, b, c⟩, r, b, c⟩ σ H) : tSeq t u ⟨n, r, b, c⟩ σ H := k
theorem asg {i : Nat} (k : te σ H fun x H1 => n (σ.set i (some x)) H1) : tAsg te (gName i) ⟨n, r, b, c⟩ σ H := k
theorem asgS {to ti : TE} {ts : TSet} (k : te σ H fun x H1 => to σ H1 fun o H2 => ti σ H2 fun i H3 => ts o i x H3 fun H4 => n σ H4) : tAsg te (gSub to ti ts) ⟨n, r, b, c⟩ σ H := k
theorem ret (k : te σ H r) : tRet te ⟨n, r, b, c⟩ σ H := k
theorem retN (k : r .non H) : tRetN ⟨n, r, b, c⟩ σ H := k
theorem drop (k : te σ H fun _ H1 => n σ H1) : tDrop te ⟨n, r, b, c⟩ σ H := k
theorem next (k : n σ H) : tNext ⟨n, r, b, c⟩ σ H := k
theorem brk (k : b σ H) : tBreak ⟨n, r, b, c⟩ σ H := k
theorem cont (k : c σ H) : tCont ⟨n, r, b, c⟩ σ H := k
theorem ifS (k : tc σ H fun x H1 => if x = true then t D σ H1 else u D σ H1) : tIfS tc t u D σ H := k
theorem aug {i : Nat} {ti : TIp} {x : V} (h : σ[i]? = some (some x)) (k : te σ H fun y H1 => ti x y H1 fun z H2 => n (σ.set i (some z)) H2) : tAug i te ti ⟨n, r, b, c⟩ σ H := ⟨x, h, k⟩
theorem augI {f : Int → Int → Int} {i j : Int} {Q : VK} (k : Q (.int (f i j)) H) : ipI f (.int i) (.int j) H Q := ⟨i, j, rfl, rfl, k⟩
theorem iteT {A B : Prop} (h : A) : if true = true then A else B := by rw [if_pos rfl]; exact h
theorem iteF {A B : Prop} (h : B) : if false = true then A else B := by rw [if_neg Bool.false_ne_true]; exact h
theorem iteD {p : Prop} [Decidable p] {A B : Prop} (h1 : p → A) (h2 : ¬ p → B) : if decide p = true then A else B := by
  by_cases h : p
  · rw [decide_eq_true h]; exact iteT (h1 h)
  · rw [decide_eq_false h]; exact iteF (h2 h)
theorem iteN {p : Prop} [Decidable p] {A B : Prop} (h1 : ¬ p → A) (h2 : p → B) : if (!decide p) = true then A else B := by
  by_cases h : p
  · rw [decide_eq_true h]; exact iteF (h2 h)
  · rw [decide_eq_false h]; exact iteT (h1 h)
theorem iteB {x : Bool} {A B : Prop} (h1 : x = true → A) (h2 : x = false → B) : if x = true then A else B := by
  cases x
  · exact iteF (h2 rfl)
  · exact iteT (h1 rfl)
/-- xs.append(v) -/
theorem app {K : PySem.W.Frag} {to : TE} {t : TA} {Q : VK} (k : to σ H fun x H1 => tyV K "list" x H1 ∧ t σ H1 fun xs H2 => rAppend x xs H2 Q) : tBM K "list" rAppend to t σ H Q := k
theorem tyL {K : PySem.W.Frag} {p : Addr} {xs : List V} {P : Prop} (h : H p = some (.lst xs)) (k : P) : tyV K "list" (.ref p) H ∧ P := ⟨.inl ⟨rfl, _, SqL.of h⟩, k⟩
theorem appd {l : Addr} {xs : List V} {v : V} {Q : VK} (h : H l = some (.lst xs)) (hz : xs.length < 100000) (k : Q .non (upd H l (.lst (xs ++ [v])))) : rAppend (.ref l) [v] H Q := ⟨l, xs, v, rfl, rfl, h, smallT hz, k⟩
theorem setL {p : Addr} {xs : List V} {i : Int} {j : Nat} {v : V} {Q : Hp → Prop} (h : H p = some (.lst xs)) (e : ixN xs.length i = some j) (k : Q (upd H p (.lst (xs.set j v)))) : rSetL (.ref p) (.int i) v H Q := ⟨p, xs, i, j, rfl, rfl, h, e, k⟩
theorem ixN_nat {n j : Nat} (hj : j < n) : ixN n (j : Int) = some j := by
  unfold ixN
  rw [if_pos (by omega), if_pos (by omega)]
  simp
theorem ixN_lit {n : Nat} {i : Int} (h0 : 0 ≤ i) (h : i < n) : ixN n i = some i.toNat := by
  have := @ixN_nat n i.toNat (by omega)
  rwa [Int.toNat_of_nonneg h0] at this
theorem atI_of {α : Type} {xs : List α} {i : Int} {v : α} (h0 : 0 ≤ i) (h : xs[i.toNat]? = some v) : atI xs i = some v := by
  have e := atI_nat (xs := xs) (j := i.toNat) h
  rwa [Int.toNat_of_nonneg h0] at e

theorem atI_ints {ns : List Int} {i : Int} (h0 : 0 ≤ i) (h : i < (ns.length : Int)) : atI (ns.map V.int) i = some (.int (ns.getD i.toNat 0)) := atI_of h0 (by
  have h1 : i.toNat < ns.length := by omega
  rw [List.getElem?_map, List.getD_eq_getElem?_getD, List.getElem?_eq_getElem h1]
  rfl)
theorem getD_bd {ns : List Int} {i : Nat} {lo hi : Int} (hb : ∀ x ∈ ns, lo ≤ x ∧ x < hi) (h : i < ns.length) : lo ≤ ns.getD i 0 ∧ ns.getD i 0 < hi := by
  rw [List.getD_eq_getElem?_getD, List.getElem?_eq_getElem h]
  exact hb _ (List.getElem_mem h)
theorem bd_app {ns : List Int} {x lo hi : Int} (hb : ∀ x ∈ ns, lo ≤ x ∧ x < hi) (hx : lo ≤ x ∧ x < hi) : ∀ y ∈ ns ++ [x], lo ≤ y ∧ y < hi := fun y hy => by
  rcases List.mem_append.mp hy with h | h
  · exact hb y h
  · rw [List.mem_singleton.mp h]; exact hx
theorem cxK {CX : CXT} {P : Program} {w : World} {K : PySem.W.Frag} {mg : Str → Option Value} {base : Heap} {N : List Str} {q : Str} {sc : Scope} {f : Addr} {cdv : Value} {A : Around} {outer : List Env} {s : Shared} {H : Hp} {E : XK} : (cxOf CX P w K mg base N q sc f cdv A outer s H E).K = K := rfl

theorem finT {p : Prop} [Decidable p] {Q : VK} {H : Hp} (k : Q (.bl true) H) (hp : p) : Q (.bl (decide p)) H := by rw [decide_eq_true hp]; exact k
theorem pushInts {H' : Hp} {p : Addr} {nums : List Int} {x : Int} : upd H' p (.lst (nums.map V.int ++ [.int x])) p = some (.lst ((nums ++ [x]).map V.int)) := by rw [upd_same, List.map_append]; rfl

/-! ### loops -/
/-- what a for asks of what it walks -/
def ForJ (g : TG) (tb : TS) (D : Ends) (σ : L2.St) (J : It) (H1 : Hp) : Prop := ∃ W : Nat → Nat → L2.St → Hp → Prop, (∃ m, W 0 m σ H1) ∧ ∀ i m σ H, W i m σ H →
  (J.stop i H ∧ D.nx σ H) ∨ (J.go i H ∧ ∃ N : L2.St → Hp → Prop, (∀ σ' H', N σ' H' → ∃ m', m' < m ∧ W (i + 1) m' σ' H') ∧ ∀ x H', J.yld i H x H' → g x σ H' fun σ2 H2 => tb { D with nx := N, ct := N, bk := D.nx } σ2 H2)
theorem for_ {wi : TI} {g : TG} {tb : TS} (k : wi σ H fun J H1 => ForJ g tb D σ J H1) : tFor wi g tb D σ H := k
theorem iR1 {tl : TA} {R : It → Hp → Prop} (k : tl σ H fun vs H1 => ∃ j : Int, vs = [.int j] ∧ -(2 ^ 62) ≤ j ∧ j < 2 ^ 62 ∧ R (Itr 0 j.toNat) H1) : iRng1 tl σ H R := k
theorem iR2 {tl : TA} {R : It → Hp → Prop} (k : tl σ H fun vs H1 => ∃ i j : Int, vs = [.int i, .int j] ∧ (-(2 ^ 62) ≤ i ∧ i < 2 ^ 62 ∧ -(2 ^ 62) ≤ j ∧ j < 2 ^ 62) ∧ R (Itr i (j - i).toNat) H1) : iRng2 tl σ H R := k
theorem iL {K : PySem.W.Frag} {tl : TE} {R : It → Hp → Prop} (k : tl σ H fun x H1 => ∃ a, x = .ref a ∧ (∃ xs, SqL K H1 a xs) ∧ R (Itl K a) H1) : iList K tl σ H R := k
theorem iT {K : PySem.W.Frag} {tl : TE} {R : It → Hp → Prop} (k : tl σ H fun x H1 => ∃ a, x = .ref a ∧ (∃ xs, SqT K H1 a xs) ∧ R (Itt K a) H1) : iTup K tl σ H R := k
/-- for name in range(m), the argument known -/
theorem rng1 {m : Int} {tb : TS} {j : Nat} (Pv : Nat → L2.St → Hp → Prop) (hb : -1000000 ≤ m ∧ m ≤ 1000000) (h0 : Pv 0 σ H)
    (hs : ∀ (i : Nat) (σ' : L2.St) (H' : Hp), (i : Int) < m → Pv i σ' H' → tb ⟨Pv (i + 1), r, n, Pv (i + 1)⟩ (σ'.set j (some (.int (i : Int)))) H') (hd : ∀ σ' H', Pv m.toNat σ' H' → n σ' H') :
    ∃ q : Int, [V.int m] = [V.int q] ∧ -(2 ^ 62) ≤ q ∧ q < 2 ^ 62 ∧ ForJ (gName j) tb ⟨n, r, b, c⟩ σ (Itr 0 q.toNat) H := by
  obtain ⟨hb1, hb2⟩ := hb
  have p62 : (2 : Int) ^ 62 = 4611686018427387904 := by decide
  refine ⟨m, rfl, by omega, by omega, for_range (lo := 0) (n := m.toNat) Pv h0 (fun i σ' H' hi p => ?_) hd⟩
  have e0 : (0 : Int) + (i : Int) = (i : Int) := Int.zero_add _
  show tb _ (σ'.set j (some (.int ((0 : Int) + (i : Int))))) H'
  rw [e0]
  exact hs i σ' H' (by omega) p
theorem rng2 {lo m : Int} {tb : TS} {j : Nat} (Pv : Nat → L2.St → Hp → Prop) (hb : -1000000 ≤ lo ∧ lo ≤ 1000000 ∧ -1000000 ≤ m ∧ m ≤ 1000000) (h0 : Pv 0 σ H)
    (hs : ∀ (i : Nat) (σ' : L2.St) (H' : Hp), lo + (i : Int) < m → Pv i σ' H' → tb ⟨Pv (i + 1), r, n, Pv (i + 1)⟩ (σ'.set j (some (.int (lo + (i : Int))))) H') (hd : ∀ σ' H', Pv (m - lo).toNat σ' H' → n σ' H') :
    ∃ p q : Int, [V.int lo, V.int m] = [V.int p, V.int q] ∧ (-(2 ^ 62) ≤ p ∧ p < 2 ^ 62 ∧ -(2 ^ 62) ≤ q ∧ q < 2 ^ 62) ∧ ForJ (gName j) tb ⟨n, r, b, c⟩ σ (Itr p (q - p).toNat) H := by
  obtain ⟨hb1, hb2, hb3, hb4⟩ := hb
  have p62 : (2 : Int) ^ 62 = 4611686018427387904 := by decide
  refine ⟨lo, m, rfl, ⟨by omega, by omega, by omega, by omega⟩, for_range (lo := lo) (n := (m - lo).toNat) Pv h0 (fun i σ' H' hi p => ?_) hd⟩
  exact hs i σ' H' (by omega) p
/-- for .. in a list, a tuple -/
theorem forL {K : PySem.W.Frag} {a : Addr} {xs : List V} {g : TG} {tb : TS} (Pv : Nat → L2.St → Hp → Prop) (h : SqL K H a xs) (h0 : Pv 0 σ H) (hl : ∀ i σ H, i ≤ xs.length → Pv i σ H → SqL K H a xs)
    (hs : ∀ (i : Nat) (x : V) (σ' : L2.St) (H' : Hp), xs[i]? = some x → Pv i σ' H' → g x σ' H' fun σ2 H2 => tb ⟨Pv (i + 1), r, n, Pv (i + 1)⟩ σ2 H2) (hd : ∀ σ' H', Pv xs.length σ' H' → n σ' H') :
    ∃ p, V.ref a = V.ref p ∧ (∃ ys, SqL K H p ys) ∧ ForJ g tb ⟨n, r, b, c⟩ σ (Itl K p) H := ⟨a, rfl, ⟨_, h⟩, for_list Pv h0 hl hs hd⟩
theorem forT {K : PySem.W.Frag} {a : Addr} {xs : List V} {g : TG} {tb : TS} (Pv : Nat → L2.St → Hp → Prop) (h : SqT K H a xs) (h0 : Pv 0 σ H) (hl : ∀ i σ H, i ≤ xs.length → Pv i σ H → SqT K H a xs)
    (hs : ∀ (i : Nat) (x : V) (σ' : L2.St) (H' : Hp), xs[i]? = some x → Pv i σ' H' → g x σ' H' fun σ2 H2 => tb ⟨Pv (i + 1), r, n, Pv (i + 1)⟩ σ2 H2) (hd : ∀ σ' H', Pv xs.length σ' H' → n σ' H') :
    ∃ p, V.ref a = V.ref p ∧ (∃ ys, SqT K H p ys) ∧ ForJ g tb ⟨n, r, b, c⟩ σ (Itt K p) H := ⟨a, rfl, ⟨_, h⟩, for_tup Pv h0 hl hs hd⟩
/-- what a list comprehension asks of what it walks -/
def LcJ (g : TG) (tt : TT) (te : TE) (vs : List Nat) (σ : L2.St) (Q : VK) (J : It) (H1 : Hp) : Prop := ∀ D, H1 D = none → ∃ W : Nat → Nat → Hp → Prop, (∃ m, W 0 m (upd H1 D (.lst []))) ∧ ∀ i m H, W i m H →
  (J.stop i H ∧ Q (.ref D) H) ∨ (J.go i H ∧ ∃ Nx : Hp → Prop, (∀ H', Nx H' → ∃ m', m' < m ∧ W (i + 1) m' H') ∧ ∀ x H', J.yld i H x H' → g x (wipe σ vs) H' fun σ2 H2 => wipe σ2 vs = wipe σ vs ∧ tt σ2 H2 fun b H3 =>
    if b = true then te σ2 H3 fun y H4 => ∃ acc, H4 D = some (.lst acc) ∧ acc.length < sizeLine ∧ Nx (upd H4 D (.lst (acc ++ [y]))) else Nx H3)
theorem lc_ {wi : TI} {g : TG} {tt : TT} {te : TE} {vs : List Nat} {Q : VK} (k : wi σ H fun J H1 => LcJ g tt te vs σ Q J H1) : tLc wi g tt te vs σ H Q := k
theorem itrLc {lo : Int} {k : Nat} {g : TG} {tt : TT} {te : TE} {vs : List Nat} {Q : VK} {D : Addr} (Pv : Nat → Hp → Prop) (h0 : Pv 0 (upd H D (.lst [])))
    (hs : ∀ i H, i < k → Pv i H → g (.int (lo + i)) (wipe σ vs) H fun σ2 H2 => wipe σ2 vs = wipe σ vs ∧ tt σ2 H2 fun b H3 =>
      if b = true then te σ2 H3 fun y H4 => ∃ acc, H4 D = some (.lst acc) ∧ acc.length < sizeLine ∧ Pv (i + 1) (upd H4 D (.lst (acc ++ [y]))) else Pv (i + 1) H3) (hd : ∀ H, Pv k H → Q (.ref D) H) :
    ∃ W : Nat → Nat → Hp → Prop, (∃ m, W 0 m (upd H D (.lst []))) ∧ ∀ i m H, W i m H →
      ((Itr lo k).stop i H ∧ Q (.ref D) H) ∨ ((Itr lo k).go i H ∧ ∃ Nx : Hp → Prop, (∀ H', Nx H' → ∃ m', m' < m ∧ W (i + 1) m' H') ∧ ∀ x H', (Itr lo k).yld i H x H' → g x (wipe σ vs) H' fun σ2 H2 => wipe σ2 vs = wipe σ vs ∧ tt σ2 H2 fun b H3 =>
        if b = true then te σ2 H3 fun y H4 => ∃ acc, H4 D = some (.lst acc) ∧ acc.length < sizeLine ∧ Nx (upd H4 D (.lst (acc ++ [y]))) else Nx H3) := by
  refine ⟨fun i m H => m = k - i ∧ i ≤ k ∧ Pv i H, ⟨k, by simp, Nat.zero_le _, h0⟩, ?_⟩
  rintro i m H ⟨rfl, hi, p⟩
  by_cases hlt : i < k
  · refine .inr ⟨hlt, Pv (i + 1), fun H' p' => ⟨k - (i + 1), by omega, rfl, hlt, p'⟩, fun x H' y => ?_⟩
    obtain ⟨e, rfl⟩ := y
    subst e
    exact hs i _ hlt p
  · have e : i = k := by omega
    subst e
    exact .inl ⟨Nat.le_refl _, hd H p⟩
/-- the end of a comprehension's turn: what is made so far, and the invariant -/
def LcE (H : Hp) (D : Addr) (i : Nat) (Pv : Addr → Nat → List V → Hp → Prop) : VK := fun y H4 => ∃ acc, H4 D = some (.lst acc) ∧ acc.length < sizeLine ∧
  ∃ ac, Same H (upd H4 D (.lst (acc ++ [y]))) ∧ ac.length = i + 1 ∧ upd H4 D (.lst (acc ++ [y])) D = some (.lst ac) ∧ Pv D (i + 1) ac (upd H4 D (.lst (acc ++ [y])))
theorem lcE {H H4 : Hp} {D : Addr} {i : Nat} {Pv : Addr → Nat → List V → Hp → Prop} {acc : List V} {y : V} (hD : H D = none) (h : H4 D = some (.lst acc)) (s : Same H H4) (e : acc.length = i) (hi : i < 100000) (k : Pv D (i + 1) (acc ++ [y]) (upd H4 D (.lst (acc ++ [y])))) : LcE H D i Pv y H4 :=
  ⟨acc, h, smallT (by omega), acc ++ [y], same_mut s hD, by simp [e], upd_same, k⟩
/-- [.. for name in range(m)] without a test: Pv i acc H: acc what is made -/
theorem lcR1 {m : Int} {j : Nat} {te : TE} {Q : VK} (Pv : Addr → Nat → List V → Hp → Prop) (hb : -100000 ≤ m ∧ m ≤ 100000) (h0 : ∀ D H', H D = none → Same H H' → H' D = some (.lst []) → Pv D 0 [] H')
    (hs : ∀ (i : Nat) (acc : List V) (D : Addr) (H' : Hp), H D = none → Same H H' → (i : Int) < m → acc.length = i → H' D = some (.lst acc) → Pv D i acc H' → te (σ.set j (some (.int (i : Int)))) H' (LcE H D i Pv))
    (hd : ∀ D acc H', H D = none → Same H H' → H' D = some (.lst acc) → acc.length = m.toNat → Pv D m.toNat acc H' → Q (.ref D) H') :
    ∃ q : Int, [V.int m] = [V.int q] ∧ -(2 ^ 62) ≤ q ∧ q < 2 ^ 62 ∧ LcJ (gName j) tYes te [j] σ Q (Itr 0 q.toNat) H := by
  obtain ⟨hb1, hb2⟩ := hb
  have p62 : (2 : Int) ^ 62 = 4611686018427387904 := by decide
  refine ⟨m, rfl, by omega, by omega, fun D hD => ?_⟩
  refine itrLc (fun i H' => ∃ acc, Same H H' ∧ acc.length = i ∧ H' D = some (.lst acc) ∧ Pv D i acc H') ⟨[], same_new hD, rfl, upd_same, h0 D _ hD (same_new hD) upd_same⟩ ?_ ?_
  · rintro i H' hi ⟨acc, s, e, hD', p⟩
    have e0 : (0 : Int) + (i : Int) = (i : Int) := Int.zero_add _
    rw [e0]
    refine ⟨show wipe ((wipe σ [j]).set j (some (.int (i : Int)))) [j] = wipe σ [j] by simp [wipe], ?_⟩
    show te ((wipe σ [j]).set j (some (.int (i : Int)))) H' (LcE H D i Pv)
    have ew : (wipe σ [j]).set j (some (.int (i : Int))) = σ.set j (some (.int (i : Int))) := by simp [wipe]
    rw [ew]
    exact hs i acc D H' hD s (by omega) e hD' p
  · rintro H' ⟨acc, s, e, hD', p⟩
    exact hd D acc H' hD s hD' e p
/-- [.. for name in a list] without a test -/
theorem lcL {K : PySem.W.Frag} {a : Addr} {xs : List V} {j : Nat} {te : TE} {Q : VK} (Pv : Addr → Nat → List V → Hp → Prop) (h : SqL K H a xs) (hl : xs.length ≤ 100000) (h0 : ∀ D H', H D = none → Same H H' → H' D = some (.lst []) → Pv D 0 [] H')
    (hs : ∀ (i : Nat) (x : V) (acc : List V) (D : Addr) (H' : Hp), H D = none → Same H H' → xs[i]? = some x → acc.length = i → H' D = some (.lst acc) → Pv D i acc H' → te (σ.set j (some x)) H' (LcE H D i Pv))
    (hd : ∀ D acc H', H D = none → Same H H' → H' D = some (.lst acc) → acc.length = xs.length → Pv D xs.length acc H' → Q (.ref D) H') :
    ∃ p, V.ref a = V.ref p ∧ (∃ ys, SqL K H p ys) ∧ LcJ (gName j) tYes te [j] σ Q (Itl K p) H := by
  refine ⟨a, rfl, ⟨_, h⟩, fun D hD => ?_⟩
  refine lc_list (xs := xs) (fun i H' => ∃ acc, Same H H' ∧ acc.length = i ∧ H' D = some (.lst acc) ∧ Pv D i acc H') ⟨[], same_new hD, rfl, upd_same, h0 D _ hD (same_new hD) upd_same⟩ (fun i H' _ ⟨acc, s, _⟩ => s.seq h) ?_ ?_
  · rintro i x H' hi ⟨acc, s, e, hD', p⟩
    refine ⟨show wipe ((wipe σ [j]).set j (some x)) [j] = wipe σ [j] by simp [wipe], ?_⟩
    show te ((wipe σ [j]).set j (some x)) H' (LcE H D i Pv)
    have ew : (wipe σ [j]).set j (some x) = σ.set j (some x) := by simp [wipe]
    rw [ew]
    exact hs i x acc D H' hD s hi e hD' p
  · rintro H' ⟨acc, s, e, hD', p⟩
    exact hd D acc H' hD s hD' e p
end
section
variable {X : Cx}
/-- // by a divisor of either sign below 2 ^ 9000 -/
def CDivX (_ j : Int) : Prop := j ≠ 0 ∧ j.natAbs.log2 < 9000
theorem op_fdivX : OpR X (binaryOp .FloorDiv) (rI CDivX fun i j => .int (i.fdiv j)) := L2.opI fun i j _ _ _ _ _ hc q =>
  floordiv_int hc.1 q (.inl (PyProof.noPylong_of_log2 hc.2))
end
theorem cdivX' {i j : Int} (h : j ≠ 0) (hb : -(2 ^ 64) < j ∧ j < 2 ^ 64) : CDivX i j := ⟨h, Nat.lt_of_lt_of_le (PySem.Flt.log2_lt_of (k := 64) (by decide) (by omega)) (by decide)⟩
theorem kb_int_int : kitB "int" "int" = some true := by decide +kernel
theorem kb_int_bool : kitB "int" "bool" = some false := by decide +kernel
theorem kb_int_str : kitB "int" "str" = some false := by decide +kernel
theorem kb_int_tuple : kitB "int" "tuple" = some false := by decide +kernel
theorem kb_int_list : kitB "int" "list" = some false := by decide +kernel
theorem kb_int_dict : kitB "int" "dict" = some false := by decide +kernel
theorem kb_bool_int : kitB "bool" "int" = some true := by decide +kernel
theorem kb_bool_bool : kitB "bool" "bool" = some true := by decide +kernel
theorem kb_bool_str : kitB "bool" "str" = some false := by decide +kernel
theorem kb_bool_tuple : kitB "bool" "tuple" = some false := by decide +kernel
theorem kb_bool_list : kitB "bool" "list" = some false := by decide +kernel
theorem kb_bool_dict : kitB "bool" "dict" = some false := by decide +kernel
theorem kb_str_int : kitB "str" "int" = some false := by decide +kernel
theorem kb_str_bool : kitB "str" "bool" = some false := by decide +kernel
theorem kb_str_str : kitB "str" "str" = some true := by decide +kernel
theorem kb_str_tuple : kitB "str" "tuple" = some false := by decide +kernel
theorem kb_str_list : kitB "str" "list" = some false := by decide +kernel
theorem kb_str_dict : kitB "str" "dict" = some false := by decide +kernel
theorem kb_tuple_int : kitB "tuple" "int" = some false := by decide +kernel
theorem kb_tuple_bool : kitB "tuple" "bool" = some false := by decide +kernel
theorem kb_tuple_str : kitB "tuple" "str" = some false := by decide +kernel
theorem kb_tuple_tuple : kitB "tuple" "tuple" = some true := by decide +kernel
theorem kb_tuple_list : kitB "tuple" "list" = some false := by decide +kernel
theorem kb_tuple_dict : kitB "tuple" "dict" = some false := by decide +kernel
theorem kb_list_int : kitB "list" "int" = some false := by decide +kernel
theorem kb_list_bool : kitB "list" "bool" = some false := by decide +kernel
theorem kb_list_str : kitB "list" "str" = some false := by decide +kernel
theorem kb_list_tuple : kitB "list" "tuple" = some false := by decide +kernel
theorem kb_list_list : kitB "list" "list" = some true := by decide +kernel
theorem kb_list_dict : kitB "list" "dict" = some false := by decide +kernel
theorem kb_NoneType_int : kitB "NoneType" "int" = some false := by decide +kernel
theorem kb_NoneType_bool : kitB "NoneType" "bool" = some false := by decide +kernel
theorem kb_NoneType_str : kitB "NoneType" "str" = some false := by decide +kernel
theorem kb_NoneType_tuple : kitB "NoneType" "tuple" = some false := by decide +kernel
theorem kb_NoneType_list : kitB "NoneType" "list" = some false := by decide +kernel
theorem kb_NoneType_dict : kitB "NoneType" "dict" = some false := by decide +kernel
theorem kb_dict_int : kitB "dict" "int" = some false := by decide +kernel
theorem kb_dict_bool : kitB "dict" "bool" = some false := by decide +kernel
theorem kb_dict_str : kitB "dict" "str" = some false := by decide +kernel
theorem kb_dict_tuple : kitB "dict" "tuple" = some false := by decide +kernel
theorem kb_dict_list : kitB "dict" "list" = some false := by decide +kernel
theorem kb_dict_dict : kitB "dict" "dict" = some true := by decide +kernel
section
variable {K : PySem.W.Frag} {H : Hp} {Q : VK} {b : String} {r : Bool}
theorem isiI {i : Int} (e : kitB "int" b = some r) (k : Q (.bl r) H) : rIsi K [.int i, .ty b] H Q := ⟨_, _, _, _, r, rfl, .ty b, .base (.int i), kit_ty e, k⟩
theorem isiB {i : Bool} (e : kitB "bool" b = some r) (k : Q (.bl r) H) : rIsi K [.bl i, .ty b] H Q := ⟨_, _, _, _, r, rfl, .ty b, .base (.bl i), kit_ty e, k⟩
theorem isiS {i : Str} (e : kitB "str" b = some r) (k : Q (.bl r) H) : rIsi K [.str i, .ty b] H Q := ⟨_, _, _, _, r, rfl, .ty b, .base (.str i), kit_ty e, k⟩
theorem isiN (e : kitB "NoneType" b = some r) (k : Q (.bl r) H) : rIsi K [.non, .ty b] H Q := ⟨_, _, _, _, r, rfl, .ty b, .base .non, kit_ty e, k⟩
theorem tyT {p : Addr} {xs : List V} (h : SqT K H p xs) : TyX K H (.ref p) (.type "tuple") := by
  rcases h with (h | ⟨o, h⟩) | h
  · exact .base (.tup h)
  · exact .fTuple h
  · obtain ⟨o, its, n, h1, h2, _⟩ := h
    exact .kTuple h1 h2
theorem tyL' {p : Addr} {xs : List V} (h : SqL K H p xs) : TyX K H (.ref p) (.type "list") := by
  rcases h with (h | ⟨o, h⟩) | h
  · exact .base (.lst h)
  · exact .base (.frz h)
  · obtain ⟨o, its, n, h1, h2, _⟩ := h
    exact .kList h1 h2
theorem isiT {p : Addr} {xs : List V} (h : SqT K H p xs) (e : kitB "tuple" b = some r) (k : Q (.bl r) H) : rIsi K [.ref p, .ty b] H Q := ⟨_, _, _, _, r, rfl, .ty b, tyT h, kit_ty e, k⟩
theorem isiL {p : Addr} {xs : List V} (h : SqL K H p xs) (e : kitB "list" b = some r) (k : Q (.bl r) H) : rIsi K [.ref p, .ty b] H Q := ⟨_, _, _, _, r, rfl, .ty b, tyL' h, kit_ty e, k⟩
theorem iteNT {A B : Prop} (h : B) : if (!true) = true then A else B := iteF h
theorem iteNF {A B : Prop} (h : A) : if (!false) = true then A else B := iteT h
end

/-! ### texts -/
/-- the text of these signs -/
def S (l : List Nat) : Str := ⟨l.toArray⟩
theorem S_len (l : List Nat) : (S l).length = l.length := by show l.toArray.size = l.length; simp
theorem S_tl (l : List Nat) : (S l).cps.toList = l := by show l.toArray.toList = l; simp
theorem S_inj {l m : List Nat} (h : S l = S m) : l = m := by have := congrArg (fun z : Str => z.cps.toList) h; simpa [S_tl] using this
theorem S_eq {l m : List Nat} : decide (S l = S m) = decide (l = m) := by
  by_cases h : l = m
  · rw [decide_eq_true h, decide_eq_true (by rw [h])]
  · rw [decide_eq_false h, decide_eq_false fun e => h (S_inj e)]
theorem S_app (l m : List Nat) : S l ++ S m = S (l ++ m) := by
  show (⟨l.toArray ++ m.toArray⟩ : Str) = ⟨(l ++ m).toArray⟩
  simp
theorem S_of (x : Str) : x = S x.cps.toList := by cases x; simp [S]
theorem S_one (c : Nat) : (⟨#[c]⟩ : Str) = S [c] := rfl
section
variable {σ : L2.St} {H : Hp} {Q : VK} {ta tb te : TE} {K : PySem.W.Frag}
theorem addS' {l m : List Nat} (h : l.length + m.length ≤ 100000) (k : Q (.str (S (l ++ m))) H) : AddSK (.str (S l)) (.str (S m)) H Q := ⟨_, _, rfl, rfl, small (by rw [S_len, S_len]; exact h), by rw [S_app]; exact k⟩
theorem lenS' {l : List Nat} (h : l.length ≤ 100000) (k : Q (.int l.length) H) : LenSK [.str (S l)] H Q := ⟨_, rfl, small (by rw [S_len]; exact h), by rw [S_len]; exact k⟩
theorem eqS' {l m : List Nat} (k : Q (.bl (decide (l = m))) H) : rEq (.str (S l)) (.str (S m)) H Q := eqS (by rw [S_eq]; exact k)
theorem neS' {l m : List Nat} (k : Q (.bl (!decide (l = m))) H) : rNe (.str (S l)) (.str (S m)) H Q := neS (by rw [S_eq]; exact k)
theorem ixS {l : List Nat} {i : Int} {c : Nat} (h : l.length ≤ 100000) (a : atI l i = some c) (k : Q (.str (S [c])) H) : rIxS (.str (S l)) (.int i) H Q := ⟨S l, i, c, rfl, rfl, small (by rw [S_len]; exact h), by rw [S_tl]; exact a, k⟩
def InSK (x y : V) (H : Hp) (Q : VK) : Prop := ∃ (c : Nat) (z : Str), x = .str ⟨#[c]⟩ ∧ y = .str z ∧ Q (.bl (decide (c ∈ z.cps.toList))) H
theorem opInS (k : ta σ H fun x H1 => tb σ H1 fun y H2 => InSK x y H2 Q) : tOp (fun x y H Q => ∃ (c : Nat) (z : Str), x = V.str ⟨#[c]⟩ ∧ y = V.str z ∧ Q (.bl (decide (c ∈ z.cps.toList))) H) ta tb σ H Q := k
theorem inS {c : Nat} {l : List Nat} (k : Q (.bl (decide (c ∈ l))) H) : InSK (.str (S [c])) (.str (S l)) H Q := ⟨c, S l, rfl, rfl, by rw [S_tl]; exact k⟩
theorem slS {l : List Nat} {a b : Nat} {i j : Int} (ha : i = a) (hb : j = b) (hl : l.length ≤ 100000) (hab : a ≤ l.length) (k : Q (.str (S ((l.drop a).take (b - a)))) H) : rSlS (.str (S l)) (some i) (some j) H Q := by
  subst ha hb
  refine ⟨S l, rfl, small (by rw [S_len]; exact hl), ?_⟩
  have e : cutS (S l) (some (a : Int)) (some (b : Int)) = S ((l.drop a).take (b - a)) := by
    unfold cutS
    rw [S_tl, S_len, HT.sIx_nat, HT.sIx_nat]
    show S _ = S _
    congr 1
    rw [Nat.min_eq_left hab]
    by_cases h : b ≤ l.length
    · rw [Nat.min_eq_left h]
    · rw [Nat.min_eq_right (by omega), List.take_of_length_le (by simp), List.take_of_length_le (by simp; omega)]
  rw [e]; exact k
def IntSK (xs : List V) (H : Hp) (Q : VK) : Prop := ∃ a n, xs = [.str a] ∧ PySem.intText? a = some n ∧ a.length ≤ 640 ∧ Q (.int n) H
theorem cbIntS {t : TA} (k : t σ H fun vs H1 => IntSK vs H1 Q) : tCB (fun xs H Q => ∃ a n, xs = [V.str a] ∧ PySem.intText? a = some n ∧ a.length ≤ 640 ∧ Q (.int n) H) t σ H Q := k
theorem intS {l : List Nat} {n : Int} (e : PySem.intText? (S l) = some n) (h : l.length ≤ 640) (k : Q (.int n) H) : IntSK [.str (S l)] H Q := ⟨_, n, rfl, e, by rw [S_len]; exact h, k⟩
theorem strI {i : Int} {l : List Nat} (h : i.natAbs.log2 < 1920) (e : (Str.ofString (toString i)) = S l) (k : Q (.str (S l)) H) : StrIK [.int i] H Q := ⟨i, rfl, h, by rw [e]; exact k⟩
/-- a text times a number -/
def MulSK (x y : V) (H : Hp) (Q : VK) : Prop := ∃ (z : Str) (n : Int), x = .str z ∧ y = .int n ∧ MulOk z n ∧ Q (.str (Txt.mul z n)) H
theorem op_mulS {X : Cx} : OpR X (binaryOp .Mult) MulSK := by
  intro pins s σ H x y v u Q I rx ry h
  obtain ⟨z, n, rfl, rfl, hc, q⟩ := h
  obtain ⟨t, rfl⟩ := rx
  obtain ⟨t', rfl⟩ := ry
  exact SB.mul hc fun t' k => ⟨.str (Txt.mul z n), H, I.tok _, ⟨_, rfl⟩, q⟩
theorem mulS1 {c : Nat} {n : Int} (h : 0 ≤ n ∧ n ≤ 100000) (k : Q (.str (S (List.replicate n.toNat c))) H) : MulSK (.str (S [c])) (.int n) H Q := by
  refine ⟨S [c], n, rfl, rfl, ⟨?_, ?_, ?_⟩, ?_⟩
  · have : ¬ n < -(2 ^ 63 : Int) := by omega
    have h2 : ¬ n ≥ 2 ^ 63 := by omega
    simp [this, h2]
    omega
  · intro h1 _
    show ¬ (((S [c]).length : Int) > (2 ^ 63 - 1) / n)
    have : ((S [c]).length : Int) = 1 := rfl
    rw [this]
    have h3 : (1 : Int) ≤ (2 ^ 63 - 1) / n := by
      rw [Int.le_ediv_iff_mul_le (by omega)]
      omega
    omega
  · intro h1 _
    have : (S [c]).length = 1 := rfl
    rw [this, Nat.one_mul]
    have : n.toNat ≤ sizeLine := small (by omega)
    exact decide_eq_false (by omega)
  · have e : Txt.mul (S [c]) n = S (List.replicate n.toNat c) := by
      unfold Txt.mul
      by_cases h1 : n < 1
      · rw [if_pos h1]
        have : n.toNat = 0 := by omega
        rw [this]; rfl
      · rw [if_neg h1]
        by_cases h2 : n = 1
        · subst h2; rfl
        · have : (n == 1 || (S [c]).length == 0) = false := by rw [beq_eq_false_iff_ne.mpr h2]; rfl
          rw [this]
          show (⟨(List.replicate n.toNat #[c]).foldl (· ++ ·) #[]⟩ : Str) = S (List.replicate n.toNat c)
          have e2 : ∀ (m : Nat) (acc : Array Nat), (List.replicate m #[c]).foldl (· ++ ·) acc = acc ++ (List.replicate m c).toArray := by
            intro m
            induction m with
            | zero => intro acc; simp
            | succ m ih =>
              intro acc
              rw [List.replicate_succ, List.foldl_cons, ih, List.replicate_succ]
              apply Array.toList_inj.mp
              simp
          rw [e2]
          simp [S]
    rw [e]; exact k
end
/-! ### more readings -/
section
variable {σ : L2.St} {H : Hp} {n b c : L2.St → Hp → Prop} {r : VK} {tc : TT} {tb : TS} {K : PySem.W.Frag}
/-- while: Pv m: m falls -/
theorem whl (Pv : Nat → L2.St → Hp → Prop) (h0 : ∃ m, Pv m σ H)
    (hs : ∀ m σ H, Pv m σ H → tc σ H fun x H1 => if x = true then ∃ N : L2.St → Hp → Prop, (∀ σ' H', N σ' H' → ∃ m', m' < m ∧ Pv m' σ' H') ∧ tb ⟨N, r, n, N⟩ σ H1 else n σ H1) : tWhile tc tb ⟨n, r, b, c⟩ σ H := ⟨Pv, h0, hs⟩
theorem whlN {Pv : Nat → L2.St → Hp → Prop} {m : Nat} (k : tb ⟨fun σ' H' => ∃ m', m' < m ∧ Pv m' σ' H', r, n, fun σ' H' => ∃ m', m' < m ∧ Pv m' σ' H'⟩ σ H) :
    ∃ N : L2.St → Hp → Prop, (∀ σ' H', N σ' H' → ∃ m', m' < m ∧ Pv m' σ' H') ∧ tb ⟨N, r, n, N⟩ σ H := ⟨_, fun _ _ h => h, k⟩
variable {Q : VK} {te : TE}
theorem revL (k : te σ H fun x H1 => ∃ a xs, x = .ref a ∧ SqL K H1 a xs ∧ ∀ p, H1 p = none → Q (.ref p) (upd H1 p (.lst xs.reverse))) : tRevL K te σ H Q := k
theorem revL' {a : Addr} {xs : List V} {P : List V → Prop} (h : SqL K H a xs) (k : P xs) : ∃ a' xs', V.ref a = V.ref a' ∧ SqL K H a' xs' ∧ P xs' := ⟨a, xs, rfl, h, k⟩
theorem slL' {a : Addr} {xs : List V} {lo hi : Option Int} (h : SqL K H a xs) (k : ∀ p, H p = none → Q (.ref p) (upd H p (.lst (cutV xs lo hi)))) : rSlL K (.ref a) lo hi H Q := ⟨a, xs, rfl, h, k⟩
theorem nopart {Q : Option Int → Hp → Prop} (k : Q none H) : tNoPart σ H Q := k
theorem part {te : TE} {Q : Option Int → Hp → Prop} (k : te σ H fun x H1 => ∃ i, x = .int i ∧ Q (some i) H1) : tPart te σ H Q := k
theorem part' {i : Int} {P : Int → Prop} (k : P i) : ∃ j, V.int i = V.int j ∧ P j := ⟨i, rfl, k⟩
theorem bm0 {T : String} {rr : V → List V → Hp → VK → Prop} {to : TE} (k : to σ H fun x H1 => tyV K T x H1 ∧ rr x [] H1 Q) : tBM0 K T rr to σ H Q := k
theorem pop {l : Addr} {xs : List V} {y : V} (h : H l = some (.lst xs)) (e : xs[xs.length - 1]? = some y) (k : Q y (upd H l (.lst xs.dropLast))) : rPop (.ref l) [] H Q := ⟨l, xs, y, rfl, rfl, h, e, k⟩
theorem catL {a b : Addr} {xs ys : List V} (ha : H a = some (.lst xs)) (hb : H b = some (.lst ys)) (hz : xs.length + ys.length ≤ 100000) (k : ∀ p, H p = none → Q (.ref p) (upd H p (.lst (xs ++ ys)))) : rCat (.ref a) (.ref b) H Q := ⟨a, b, xs, ys, rfl, rfl, ha, hb, small hz, k⟩
/-- a comprehension's turn whose heap changes -/
def LcF (D : Addr) (i : Nat) (Pv : Addr → Nat → List V → Hp → Prop) : VK := fun y H4 => ∃ acc, H4 D = some (.lst acc) ∧ acc.length < sizeLine ∧
  ∃ ac, ac.length = i + 1 ∧ upd H4 D (.lst (acc ++ [y])) D = some (.lst ac) ∧ Pv D (i + 1) ac (upd H4 D (.lst (acc ++ [y])))
theorem lcF {H4 : Hp} {D : Addr} {i : Nat} {Pv : Addr → Nat → List V → Hp → Prop} {acc : List V} {y : V} (h : H4 D = some (.lst acc)) (e : acc.length = i) (hi : i < 100000) (k : Pv D (i + 1) (acc ++ [y]) (upd H4 D (.lst (acc ++ [y])))) : LcF D i Pv y H4 :=
  ⟨acc, h, smallT (by omega), acc ++ [y], by simp [e], upd_same, k⟩
theorem lcR1F {m : Int} {j : Nat} (Pv : Addr → Nat → List V → Hp → Prop) (hb : -100000 ≤ m ∧ m ≤ 100000) (h0 : ∀ D, H D = none → Pv D 0 [] (upd H D (.lst [])))
    (hs : ∀ (i : Nat) (acc : List V) (D : Addr) (H' : Hp), H D = none → (i : Int) < m → acc.length = i → H' D = some (.lst acc) → Pv D i acc H' → te (σ.set j (some (.int (i : Int)))) H' (LcF D i Pv))
    (hd : ∀ D acc H', H D = none → H' D = some (.lst acc) → acc.length = m.toNat → Pv D m.toNat acc H' → Q (.ref D) H') :
    ∃ q : Int, [V.int m] = [V.int q] ∧ -(2 ^ 62) ≤ q ∧ q < 2 ^ 62 ∧ LcJ (gName j) tYes te [j] σ Q (Itr 0 q.toNat) H := by
  obtain ⟨hb1, hb2⟩ := hb
  have p62 : (2 : Int) ^ 62 = 4611686018427387904 := by decide
  refine ⟨m, rfl, by omega, by omega, fun D hD => ?_⟩
  refine itrLc (fun i H' => ∃ acc, acc.length = i ∧ H' D = some (.lst acc) ∧ Pv D i acc H') ⟨[], rfl, upd_same, h0 D hD⟩ ?_ ?_
  · rintro i H' hi ⟨acc, e, hD', p⟩
    have e0 : (0 : Int) + (i : Int) = (i : Int) := Int.zero_add _
    rw [e0]
    refine ⟨show wipe ((wipe σ [j]).set j (some (.int (i : Int)))) [j] = wipe σ [j] by simp [wipe], ?_⟩
    show te ((wipe σ [j]).set j (some (.int (i : Int)))) H' (LcF D i Pv)
    have ew : (wipe σ [j]).set j (some (.int (i : Int))) = σ.set j (some (.int (i : Int))) := by simp [wipe]
    rw [ew]
    exact hs i acc D H' hD (by omega) e hD' p
  · rintro H' ⟨acc, e, hD', p⟩
    exact hd D acc H' hD hD' e p
end
theorem cut_take {xs : List V} {m : Int} (h : 0 ≤ m) : cutV xs none (some m) = xs.take m.toNat := by
  unfold cutV
  obtain ⟨k, rfl⟩ : ∃ k : Nat, m = k := ⟨m.toNat, by omega⟩
  rw [HT.sIx_none, HT.sIx_nat, List.drop_zero, Nat.sub_zero, Int.toNat_natCast]
  by_cases h1 : k ≤ xs.length
  · rw [Nat.min_eq_left h1]
  · rw [Nat.min_eq_right (by omega), List.take_of_length_le (Nat.le_refl _), List.take_of_length_le (by omega)]
theorem atI_all {xs : List V} {p : V → Bool} {i : Int} (h : xs.all p = true) (h0 : 0 ≤ i) (h1 : i < (xs.length : Int)) : ∃ v, atI xs i = some v ∧ p v = true := by
  have h2 : i.toNat < xs.length := by omega
  exact ⟨xs[i.toNat], atI_of h0 (List.getElem?_eq_getElem h2), List.all_eq_true.mp h _ (List.getElem_mem h2)⟩
theorem ixLall {K : PySem.W.Frag} {H : Hp} {Q : VK} {l : Addr} {xs : List V} {i : Int} (p : V → Bool) (h : SqL K H l xs) (a : xs.all p = true) (h0 : 0 ≤ i) (h1 : i < (xs.length : Int)) (k : ∀ v, p v = true → Q v H) : rIxL K (.ref l) (.int i) H Q := by
  obtain ⟨v, e, q⟩ := atI_all a h0 h1
  exact ixL h e (k v q)
theorem ixSall {H : Hp} {Q : VK} {l : List Nat} {i : Int} (hl : l.length ≤ 100000) (h0 : 0 ≤ i) (h1 : i < (l.length : Int)) (k : ∀ c, c ∈ l → Q (.str (S [c])) H) : rIxS (.str (S l)) (.int i) H Q := by
  have h2 : i.toNat < l.length := by omega
  exact ixS hl (atI_of h0 (List.getElem?_eq_getElem h2)) (k _ (List.getElem_mem h2))
theorem dp_same {K : PySem.W.Frag} {H H' : Hp} (e : Same H H') : ∀ {x : V} {d : PyData}, Dp K H x d → Dp K H' x d
  | _, _, .non => .non
  | _, _, .bl b => .bl b
  | _, _, .int i => .int i
  | _, _, .str x => .str x
  | _, _, .lst h a => .lst (e.seq h) (go e a)
  | _, _, .tup h a => .tup (same_tup e h) (go e a)
where go {K : PySem.W.Frag} {H H' : Hp} (e : Same H H') : ∀ {xs : List V} {ds : List PyData}, DpAll K H xs ds → DpAll K H' xs ds
  | _, _, .nil => .nil
  | _, _, .cons h t => .cons (dp_same e h) (go e t)
theorem dpAll_len {K : PySem.W.Frag} {H : Hp} : ∀ {xs : List V} {ds : List PyData}, DpAll K H xs ds → xs.length = ds.length
  | _, _, .nil => rfl
  | _, _, .cons _ t => congrArg Nat.succ (dpAll_len t)
theorem dpAll_get {K : PySem.W.Frag} {H : Hp} : ∀ {xs : List V} {ds : List PyData}, DpAll K H xs ds → ∀ i, i < ds.length → ∃ x, xs[i]? = some x ∧ Dp K H x (ds.getD i .none)
  | _, _, .nil, i, h => absurd h (Nat.not_lt_zero i)
  | _, _, .cons h _, 0, _ => ⟨_, rfl, h⟩
  | _, _, .cons _ t, i + 1, hi => by
    obtain ⟨x, e, d⟩ := dpAll_get t i (Nat.lt_of_succ_lt_succ hi)
    exact ⟨x, e, d⟩
theorem depth_get : ∀ {ds : List PyData} {i : Nat}, i < ds.length → (ds.getD i .none).depth ≤ PyData.depthAll ds
  | [], i, h => absurd h (Nat.not_lt_zero i)
  | d :: ds, 0, _ => by simp only [PyData.depthAll]; exact Nat.le_max_left _ _
  | d :: ds, i + 1, h => by
    have := depth_get (ds := ds) (i := i) (Nat.lt_of_succ_lt_succ h)
    simp only [PyData.depthAll]
    exact Nat.le_trans this (Nat.le_max_right _ _)
theorem ixQL {K : PySem.W.Frag} {H : Hp} {Q : VK} {p : Addr} {xs : List V} {i : Int} {v : V} (h : SqL K H p xs) (a : atI xs i = some v) (k : Q v H) : rIx K (.ref p) (.int i) H Q := .inl (ixL h a k)
theorem ixQT {K : PySem.W.Frag} {H : Hp} {Q : VK} {p : Addr} {xs : List V} {i : Int} {v : V} (h : SqT K H p xs) (a : atI xs i = some v) (k : Q v H) : rIx K (.ref p) (.int i) H Q := .inr (.inl (ixT h a k))
theorem weight_get {ds : List PyData} {i : Nat} (h : i < ds.length) : (ds.getD i .none).weight ≤ PyData.weightAll ds := by
  refine PyData.weight_le_weightAll _ _ ?_
  rw [List.getD_eq_getElem?_getD, List.getElem?_eq_getElem h]
  exact List.getElem_mem h
theorem atI_last {α : Type} {xs : List α} {v : α} : atI (xs ++ [v]) (-1) = some v := by
  unfold atI ixN
  rw [if_neg (by decide), if_pos (by simp; omega)]
  show (xs ++ [v])[(-1 + ((xs ++ [v]).length : Int)).toNat]? = some v
  have : (-1 + ((xs ++ [v]).length : Int)).toNat = xs.length := by simp; omega
  rw [this]; simp
/-- two ways that come together: what holds where they meet -/
theorem join {σ : L2.St} {H : Hp} {t u : TS} {D : Ends} (J : L2.St → Hp → Prop) (h1 : ∀ N : L2.St → Hp → Prop, (∀ σ' H', J σ' H' → N σ' H') → t ⟨N, D.rt, D.bk, D.ct⟩ σ H) (h2 : ∀ σ' H', J σ' H' → u D σ' H') : tSeq t u D σ H := h1 _ h2
theorem ixLmem {K : PySem.W.Frag} {H : Hp} {Q : VK} {l : Addr} {xs : List V} {i : Int} (h : SqL K H l xs) (h0 : 0 ≤ i) (h1 : i < (xs.length : Int)) (k : ∀ v, v ∈ xs → Q v H) : rIxL K (.ref l) (.int i) H Q := by
  have h2 : i.toNat < xs.length := by omega
  exact ixL h (atI_of h0 (List.getElem?_eq_getElem h2)) (k _ (List.getElem_mem h2))
/-! ### a def that calls itself: nothing is asked with no call left -/
theorem none_left {P : Program} {w : World} {K : PySem.W.Frag} {mg : Str → Option Value} {base : Heap} {k : Nat} {f : Addr} {fd : FuncData} {ps : List Str} {sp : Sp} (no : ∀ vs H Q E, ¬ sp vs H Q E) : FnOk P w K mg base CX0 k f fd ps sp :=
  ⟨fun vs H Q E h => absurd h (no vs H Q E), fun A outer s H args us vs Q E _ _ _ _ h => absurd h (no vs H Q E)⟩
end Rd

set_option Elab.async false
set_option linter.all false
set_option maxRecDepth 100000
set_option maxHeartbeats 4000000
/-! Own operators of a class of one's own, by the text's defs. -/
namespace Bd
open PySem PySem.W PySem.Calls PyProof.Rows
section
variable {prog : Program} {w : World} {A : Around} {E : Value → Shared → Prop} {s : Shared} {K : Frag} {x y C L f : Addr} {h₀ : Heap} {m : Str → Option Value} {ox oy : Obj} {od od' : Option Obj}
/-- x op y, two instances of one class -/
theorem bin_one {op : Operator} {Q : Value → Shared → Prop} (F : Fr h₀ L s.heap m) (X₀ : K.In h₀) (I : InstAt s.heap x ox C od) (J : InstAt s.heap y oy C od') (hc : selfFirst K C = true)
    (hs : findIn K (.ref C) (PySem.dunder op.info.2) = some (some (.ref f))) (hf : isFn K (.ref f) = true)
    (h : wpAny (model prog w) A (call (.ref f) [.ref x, .ref y]) (PySem.W.CmpBack Q) E s) : wpAny (model prog w) A (binaryOp op (.ref x) (.ref y)) Q E s := by
  have X := X₀.keeps F.keep
  obtain ⟨cd, rest, hcd, hm⟩ := ksp_first hc
  rcases hi : op.info with ⟨sym, nm⟩
  rw [hi] at hs
  dsimp only at hs
  have one := ksp_try X I hs hf h
  obtain ⟨hh, g, d, tt, os⟩ := s
  have L1 : Looks (model prog w) hh (typeOf (.ref x)) (.ref C) := I.type
  have L2 : Looks (model prog w) hh (typeOf (.ref y)) (.ref C) := J.type
  have L3 : Looks (model prog w) hh (fillsNumberSlot (.ref C) nm) true := fills_K X hcd hm hs
  have heq : (Value.ref C == Value.ref C) = true := beq_self_eq_true _
  simp only [binaryOp, hi]
  refine wpAny_holding (wpAny_bind ?_)
  unfold binaryOp1
  refine wpAny_bind (L1.at (wpAny_bind (L2.at (wpAny_bind (L3.at ?_)))))
  simp only [heq, if_true]
  ksp_lk
  refine wpAny_mono one (fun r s' hr' => ?_) fun _ _ e => e
  obtain ⟨v, rfl, hq⟩ := hr'
  ksp_lk
  exact hq
end
end Bd
namespace Bd
open PySem PySem.Spec PyProof.Rows L2
theorem back_ep {X : Cx} {pins : List (Addr × Obj)} {σ : L2.St} {Q : VK} {u : Value} {s' : Shared} (h : EP X pins σ Q u s') : PySem.W.CmpBack (EP X pins σ Q) u s' := by
  cases u with
  | notImplemented =>
    obtain ⟨v, H', _, r, _⟩ := h
    cases v <;> first | (obtain ⟨_, r⟩ := r; exact nomatch r) | exact nomatch (show _ = _ from r)
  | _ => exact h
section
variable {X : Cx} {pins : List (Addr × Obj)} {σ : L2.St} {H : Hp} {s : Shared} {CT : CXT} {n : Nat} {C f : Addr} {fd : FuncData} {ps : List Str} {sp : Sp} {E : XK}
/-- a call of a def of one's own, by its value -/
theorem call_def {vs : List V} {us : List Value} {Q : VK} (F : FnOk X.prog X.w X.K X.mg X.base CT n f fd ps sp) (hb : Binds X.K fd ps []) (hx : Passes CT X E) (hr : Room n X.A) (I : Inv X pins σ H s) (r : Vals vs us) (hsp : sp vs H Q E) :
    wpAny (model X.prog X.w) X.A (call (.ref f) us) (EP X pins σ Q) X.xe s := by
  have hl := F.len _ _ _ _ hsp
  have hu : us.length = ps.length := by rw [← r.length]; exact hl
  refine wpAny_call (codeAny_mono (F.run X.A X.stack s H ⟨us, []⟩ us vs Q E hr I.env0 (by
    have := hb s us I.kIn (by simpa using hu)
    simpa using this) r hsp) fun z s' hq => ?_)
  cases z with
  | error e => exact hx pins σ H s e s' I hq
  | ok fl =>
    cases fl with
    | ret w => exact I.after hq
    | next => exact False.elim hq
    | brk => exact False.elim hq
    | cont => exact False.elim hq
/-- x op y, both of the class at C -/
def rOwn2 (C : Addr) (sp : Sp) (E : XK) : R2 := fun x y H Q => ∃ a b dx dy fs gs, x = .ref a ∧ y = .ref b ∧ H a = some (.ins C dx fs) ∧ H b = some (.ins C dy gs) ∧ sp [.ref a, .ref b] H Q E
theorem op_own {op : Operator} (F : FnOk X.prog X.w X.K X.mg X.base CT n f fd ps sp) (hc : PySem.W.selfFirst X.K C = true) (hs : PySem.W.findIn X.K (.ref C) (PySem.dunder op.info.2) = some (some (.ref f))) (hf : PySem.W.isFn X.K (.ref f) = true)
    (hb : Binds X.K fd ps []) (hx : Passes CT X E) (hr : Room n X.A) : OpR X (binaryOp op) (rOwn2 C sp E) := by
  intro pins s σ H x y v u Q I rx ry h
  obtain ⟨a, b, dx, dy, fs, gs, rfl, rfl, ha, hb', hsp⟩ := h
  obtain rfl : v = Value.ref a := rx
  obtain rfl : u = Value.ref b := ry
  obtain ⟨mA, J, _⟩ := ins_get I.hok ha
  obtain ⟨mB, J', _⟩ := ins_get I.hok hb'
  obtain ⟨od, J, _⟩ := J.look
  obtain ⟨od', J', _⟩ := J'.look
  obtain ⟨m, hF⟩ := I.fr
  refine bin_one hF I.ok.mod.kin J J' hc hs hf ?_
  exact wpAny_mono (call_def F hb hx hr I (vs := [.ref a, .ref b]) (.cons rfl (.cons rfl .nil)) hsp) (fun _ _ h => back_ep h) fun _ _ e => e
/-- -x -/
def rOwn1 (C : Addr) (sp : Sp) (E : XK) : V → Hp → VK → Prop := fun x H Q => ∃ a dx fs, x = .ref a ∧ H a = some (.ins C dx fs) ∧ sp [.ref a] H Q E
theorem un_own (F : FnOk X.prog X.w X.K X.mg X.base CT n f fd ps sp) (hs : PySem.W.findIn X.K (.ref C) "__neg__" = some (some (.ref f))) (hf : PySem.W.isFn X.K (.ref f) = true)
    (hb : Binds X.K fd ps []) (hx : Passes CT X E) (hr : Room n X.A) : UnR X (unaryOp .USub) (rOwn1 C sp E) := by
  intro pins s σ H x v Q I rx h
  obtain ⟨a, dx, fs, rfl, ha, hsp⟩ := h
  obtain rfl : v = Value.ref a := rx
  obtain ⟨mA, J, _⟩ := ins_get I.hok ha
  obtain ⟨od, J, _⟩ := J.look
  obtain ⟨m, hF⟩ := I.fr
  exact PySem.W.ksp_neg hF I.ok.mod.kin J hs hf (call_def F hb hx hr I (vs := [.ref a]) (.cons rfl .nil) hsp)
/-- x == y, both of the class at C, whatever __eq__ says -/
theorem op_eqOwn (F : FnOk X.prog X.w X.K X.mg X.base CT n f fd ps sp) (hs : PySem.W.findIn X.K (.ref C) "__eq__" = some (some (.ref f))) (hf : PySem.W.isFn X.K (.ref f) = true)
    (hb : Binds X.K fd ps []) (hx : Passes CT X E) (hr : Room n X.A) : OpR X (compareOp .Eq) (rOwn2 C sp E) := by
  intro pins s σ H x y v u Q I rx ry h
  obtain ⟨a, b, dx, dy, fs, gs, rfl, rfl, ha, hb', hsp⟩ := h
  obtain rfl : v = Value.ref a := rx
  obtain rfl : u = Value.ref b := ry
  obtain ⟨mA, J, _⟩ := ins_get I.hok ha
  obtain ⟨mB, J', _⟩ := ins_get I.hok hb'
  obtain ⟨od, J, _⟩ := J.look
  obtain ⟨od', J', _⟩ := J'.look
  obtain ⟨m, hF⟩ := I.fr
  show wpAny (model X.prog X.w) X.A (richCompare .Eq (.ref a) (.ref b)) _ _ _
  refine PySem.W.cmp_K (op := .Eq) (tb := .ref C) hr.units0 hF I.ok.mod.kin J J'.type (by simp [PySem.W.notFirst]) hs hf ?_
  exact wpAny_mono (call_def F hb hx hr I (vs := [.ref a, .ref b]) (.cons rfl (.cons rfl .nil)) hsp) (fun _ _ h => back_ep h) fun _ _ e => e
end
end Bd
namespace Bd
open PySem PySem.W PySem.Calls PyProof.Rows
/-- by the text, then by the number -/
def ltSI (p q : Str × Int) : Bool := if p.1 = q.1 then decide (p.2 < q.2) else decide (p.1.cps.toList < q.1.cps.toList)
theorem str_ext {x y : Str} (h : x.cps.toList = y.cps.toList) : x = y := by rw [Rd.S_of x, Rd.S_of y, h]
theorem ltSI_iff {p q : Str × Int} : ltSI p q = true ↔ p.1.cps.toList < q.1.cps.toList ∨ (p.1 = q.1 ∧ p.2 < q.2) := by
  unfold ltSI
  by_cases e : p.1 = q.1
  · rw [if_pos e, e]
    exact ⟨fun h => .inr ⟨rfl, of_decide_eq_true h⟩, fun h => h.elim (fun z => absurd z (List.lt_irrefl _)) fun z => decide_eq_true z.2⟩
  · rw [if_neg e]
    exact ⟨fun h => .inl (of_decide_eq_true h), fun h => h.elim decide_eq_true fun z => absurd z.1 e⟩
theorem ltSI_no {p q : Str × Int} : ltSI p q = false ↔ ¬ (p.1.cps.toList < q.1.cps.toList ∨ (p.1 = q.1 ∧ p.2 < q.2)) := by
  rw [← ltSI_iff]; simp
theorem swo_SI {α : Type} (k : α → Str × Int) : SrtO.Swo fun v u => ltSI (k v) (k u) := by
  refine ⟨fun x y h => ?_, fun x y z h1 h2 => ?_⟩
  · have a := ltSI_iff.mp h
    refine ltSI_no.mpr fun b => ?_
    rcases a with a | a
    · rcases b with b | b
      · exact List.lt_asymm a b
      · rw [b.1] at a; exact List.lt_irrefl _ a
    · rcases b with b | b
      · rw [a.1] at b; exact List.lt_irrefl _ b
      · omega
  · have a := ltSI_no.mp h1
    have b := ltSI_no.mp h2
    refine ltSI_no.mpr fun c => ?_
    rcases c with c | ⟨c1, c2⟩
    · have d : (k x).1.cps.toList ≤ (k y).1.cps.toList := List.not_lt.mp fun z => a (.inl z)
      have d2 : (k y).1.cps.toList ≤ (k z).1.cps.toList := List.not_lt.mp fun q => b (.inl q)
      exact List.not_lt.mpr (List.le_trans d d2) c
    · have d1 : (k x).1.cps.toList ≤ (k y).1.cps.toList := List.not_lt.mp fun z => a (.inl z)
      have d2 : (k y).1.cps.toList ≤ (k z).1.cps.toList := List.not_lt.mp fun z => b (.inl z)
      rw [c1] at d2
      have e : (k x).1 = (k y).1 := str_ext (List.le_antisymm d1 d2)
      refine a (.inr ⟨e.symm, ?_⟩)
      have e2 : ¬ (k z).2 < (k y).2 := fun z => b (.inr ⟨c1.trans e, z⟩)
      omega
/-- a pair of a text and a number -/
def IsSI (h : Heap) (v : Value) (p : Str × Int) : Prop := ∃ a o t u n, v = .ref a ∧ h.get? a = some o ∧ o.cls = .type "tuple" ∧ o.data = .seq #[.str p.1 t, .int p.2 u] n
theorem IsSI.keeps {h h' : Heap} {v : Value} {p : Str × Int} (x : IsSI h v p) (k : ∀ b o, h.get? b = some o → o.cls = .type "tuple" → h'.get? b = some o) : IsSI h' v p := by
  obtain ⟨a, o, t, u, n, e, ho, hc, hd⟩ := x
  exact ⟨a, o, t, u, n, e, k _ _ ho hc, hc, hd⟩
section
variable {prog : Program} {w : World} {A : Around} {s : Shared}
theorem si_cmp {vs : List Value} {k : Value → Str × Int} (hp : ∀ v ∈ vs, IsSI s.heap v (k v)) : SrtO.Cmp prog w A s (tuples' true) (fun p => p.1 ∈ vs) (SrtO.lt2 fun v u => ltSI (k v) (k u)) := by
  intro p q hm hm'
  have h1 := hp _ hm
  have h2 := hp _ hm'
  show wpAny (model prog w) A (keyLt' (tuples' true) p.1 q.1) (fun r s' => s' = s ∧ r = ltSI (k p.1) (k q.1)) (fun _ _ => False) s
  generalize k p.1 = x at h1 ⊢
  generalize k q.1 = y at h2 ⊢
  obtain ⟨a, o, t, u, n, e, ho, hc, hd⟩ := h1
  obtain ⟨a', o', t', u', n', e', ho', hc', hd'⟩ := h2
  rw [e, e']
  refine PySem.W.kat_lt ho hd ho' hd' ?_
  show PySem.W.KatLex prog w A true (decide (2 < 2)) _ [(.str x.1 t, .str y.1 t'), (.int x.2 u, .int y.2 u')] 0 s
  refine PySem.W.kat_cons (SeqAt.EqAt.str_str x.1 t y.1 t' prog w _ _ ?_)
  refine PySem.W.kat_go (fun e1 => ?_) (fun e1 => ?_)
  · have ex : x.1 = y.1 := by simpa using e1
    refine PySem.W.kat_yes (PySem.W.kat_cons (SeqAt.EqAt.int_int x.2 u y.2 u' prog w _ _ ?_))
    refine PySem.W.kat_go (fun e2 => ?_) (fun e2 => ?_)
    · have ey : x.2 = y.2 := by simpa using e2
      refine PySem.W.kat_yes (PySem.W.kat_nil ⟨rfl, ?_⟩)
      unfold ltSI
      rw [if_pos ex, ey]
      exact (decide_eq_false (Int.lt_irrefl _)).symm
    · refine PySem.W.kat_no (PySem.W.kat_one _ _ (PyProof.Rows.lt_int ?_))
      refine ⟨rfl, ?_⟩
      unfold ltSI
      rw [if_pos ex]
  · have ex : ¬ x.1 = y.1 := by simpa using e1
    refine PySem.W.kat_no (oneLt_str ⟨rfl, ?_⟩)
    unfold ltSI
    rw [if_neg ex]
theorem si_firsts {h : Heap} {k : Value → Str × Int} : ∀ {vs : List Value}, (∀ v ∈ vs, IsSI h v (k v)) → ∃ fs : List Value, PySem.W.KatTups h vs fs ∧ fs.length = vs.length ∧ ∀ f ∈ fs, ∃ x t, f = Value.str x t
  | [], _ => ⟨[], PySem.W.KatTups.nil, rfl, fun _ hm => by simp at hm⟩
  | v :: vs, hp => by
    obtain ⟨fs, h1, h2, h3⟩ := si_firsts (vs := vs) fun v' hm => hp v' (List.mem_cons_of_mem _ hm)
    obtain ⟨a, o, t, u, n, e, ho, hc, hd⟩ := hp v (List.mem_cons_self ..)
    subst e
    refine ⟨.str _ t :: fs, PySem.W.KatTups.cons ho hc hd rfl h1, by rw [List.length_cons, List.length_cons, h2], fun f hm => ?_⟩
    rcases List.mem_cons.mp hm with rfl | hm
    · exact ⟨_, _, rfl⟩
    · exact h3 f hm
theorem si_sortable {a : Addr} {vs : List Value} {k : Value → Str × Int} (h0 : 0 < vs.length) (hp : ∀ v ∈ vs, IsSI s.heap v (k v)) (ha : ∀ o, s.heap.get? a = some o → o.cls ≠ .type "tuple") :
    SrtO.SortableO prog w A s a vs fun v u => ltSI (k v) (k u) := by
  intro h' keep
  have hp' : ∀ v ∈ vs, IsSI h' v (k v) := fun v hm => (hp v hm).keeps fun b o e c => keep b o (fun z => by subst z; exact ha o e c) e
  obtain ⟨fs, h1, h2, h3⟩ := si_firsts hp'
  refine ⟨tuples' true, fun Q E hq => ?_, si_cmp hp'⟩
  refine PySem.W.kat_kind (T := .type "str") h1 (by omega) (fun f hm => ?_) (by rfl) ?_
  · obtain ⟨x, t, rfl⟩ := h3 f hm
    exact PySem.W.Looks.now
  · have e : (Value.type "str" != Value.type "tuple") = true := by first | decide +kernel | rfl | decide
    rw [e]
    exact hq
end
end Bd
namespace Bd
open PySem PySem.Spec PyProof.Rows L2
/-- the pair that a value stands for, read off the heap -/
def siOf (h : Heap) (v : Value) : Str × Int := match v with
  | .ref b => (match h.get? b with
    | some o => (match o.data with
      | .seq xs _ => (match xs.toList with
        | [.str x _, .int y _] => (x, y)
        | _ => (⟨#[]⟩, 0))
      | _ => (⟨#[]⟩, 0))
    | none => (⟨#[]⟩, 0))
  | _ => (⟨#[]⟩, 0)
theorem IsSI.of {h : Heap} {v : Value} {p : Str × Int} (x : IsSI h v p) : siOf h v = p := by
  obtain ⟨a, o, t, u, n, rfl, ho, hc, hd⟩ := x
  unfold siOf
  simp only [ho, hd]
/-- an asset as a dict's key -/
def eK (p : Str × Int) : List Key := [Sum.inr p.1, Sum.inl p.2]
/-- addresses of assets' tuples -/
def AsAt (H : Hp) (ps : List (Addr × (Str × Int))) : Prop := ∀ z ∈ ps, H z.1 = some (.tup [.str z.2.1, .int z.2.2])
theorem isSI_of {P : Program} {w : World} {H : Hp} {h : Heap} {b : Addr} {p : Str × Int} (ok : HOk P w H h) (e : H b = some (.tup [.str p.1, .int p.2])) : IsSI h (.ref b) p := by
  obtain ⟨_, its, r, o, ho, hc, n, hd⟩ := ok _ _ e
  obtain ⟨u1, u2, rfl, ri, rj⟩ := vals2 r
  obtain ⟨t1, rfl⟩ := ri
  obtain ⟨t2, rfl⟩ := rj
  exact ⟨b, o, t1, t2, n, rfl, ho, hc, hd⟩
theorem kt_as {H : Hp} : ∀ {m : List ((Str × Int) × V)} {ks : List (List Key × Addr × Value)}, KT H (m.map fun e => (eK e.1, e.2)) ks → ∃ ps : List (Addr × (Str × Int)), AsAt H ps ∧ ps.map (·.2) = m.map (·.1) ∧ ps.map (·.1) = ks.map fun x => x.2.1
  | [], _, r => by
    rw [List.map_nil] at r
    cases r
    exact ⟨[], fun _ h => absurd h List.not_mem_nil, rfl, rfl⟩
  | e :: m, _, r => by
    rw [List.map_cons] at r
    cases r with
    | @cons p q ps qs h t =>
      obtain ⟨ps', a1, a2, a3⟩ := kt_as t
      refine ⟨(q.2.1, e.1) :: ps', fun z hz => ?_, by rw [List.map_cons, List.map_cons, a2], by rw [List.map_cons, List.map_cons, a3]⟩
      rcases List.mem_cons.mp hz with rfl | hz
      · exact h.2.1
      · exact a1 z hz
section
variable {X : Cx}
/-- sorted(d), the keys of d pairs of a text and a number -/
def rSortedDT : List V → Hp → VK → Prop := fun xs H Q => ∃ (a : Addr) (m : List ((Str × Int) × V)), xs = [.ref a] ∧ Rd H a (.dT (m.map fun e => (eK e.1, e.2))) ∧
  ∀ (ps : List (Addr × (Str × Int))) (p : Addr), AsAt H ps → SrtO.Srtd ltSI (ps.map (·.2)) → (ps.map (·.2)).Perm (m.map (·.1)) → H p = none → Q (.ref p) (upd H p (.lst (ps.map fun z => V.ref z.1)))
theorem cr_sortedDT (hcalm : X.calm = true) : CallR X (.builtin "sorted") rSortedDT := by
  intro pins s σ H xs us Q I r q
  obtain ⟨a, m, rfl, hd, q⟩ := q
  obtain ⟨u, rfl, rx⟩ := vals1 r
  cases rx
  obtain ⟨z, hs, ks, pr, o, es, ep, ho, hx, hdt, he, hn⟩ := (show ObjOk X.prog X.w H s.heap a (.dT _) from hd.ok I.hok)
  have l1 : es.size = ks.length := size_of_entries he
  have l2 : (m.map fun e => (eK e.1, e.2)).length = ks.length := Paired.length pr
  have l3 : m.length = ks.length := by simpa using l2
  refine Calls.call_function_entry PyProof.Rows.kind_sorted PyProof.Rows.plain_sorted PyProof.Rows.entry_sorted (PyProof.Rows.args_sorted1 _) ?_
  unfold Builtin.«sorted»
  refine wpAny_bind (m := checkCount "sorted" 1 1 _) (wpAny_pure ?_)
  refine wpAny_bind (PySem.W.kdu_collect (A := X.A.in1) (kdl_raw hs hx hdt) (I.ok.hd hcalm) ho (by omega) fun h' tk acc hk it => ?_)
  have ea : acc.toList = (ks.map fun x => x.2.1).map Value.ref := by
    have hl : acc.toList.length = ks.length := by rw [Array.length_toList, it.1]; exact l1
    apply List.ext_getElem?
    intro j
    rw [List.map_map, List.getElem?_map]
    cases hj : acc.toList[j]? with
    | none =>
      have h1 := List.getElem?_eq_none_iff.mp hj
      rw [List.getElem?_eq_none (by omega)]
      rfl
    | some v =>
      obtain ⟨en, hen, hv⟩ := it.2 j v (by rw [← Array.getElem?_toList]; exact hj)
      have qe := entry_at he j
      rw [hen] at qe
      cases hb : ks[j]? with
      | none =>
        rw [hb] at qe
        exact nomatch (show some en = none from qe)
      | some b =>
        rw [hb] at qe
        have e2 : en = entryOfKey (tupleKind (mixKind X.prog X.w)) b := Option.some.inj qe
        rw [hv, e2]
        rfl
  have I1 : Inv X pins σ H { s with heap := h', toks := tk } := I.kept hk
  obtain ⟨ps0, a1, a2, a3⟩ := kt_as pr
  have eb : acc.toList = ps0.map fun z => Value.ref z.1 := by rw [ea, ← a3, List.map_map]; rfl
  have hal : acc.toList.length ≤ sizeLine := by
    rw [Array.length_toList, it.1]; omega
  refine wpAny_bind (wpAny_newList ?_ hal)
  have hoL : (h'.push (seqObj "list" acc.toList.toArray 0)).get? h'.objs.size = some (seqObj "list" acc.toList.toArray 0) := Heap.get?_push_size _ rfl
  have hsi : ∀ v ∈ acc.toList, IsSI (h'.push (seqObj "list" acc.toList.toArray 0)) v (siOf s.heap v) := fun v hv => by
    rw [eb] at hv
    obtain ⟨zz, hz, rfl⟩ := List.mem_map.mp hv
    have q := isSI_of I.hok (a1 zz hz)
    rw [q.of]
    exact (isSI_of I1.hok (a1 zz hz)).keeps fun b ob e _ => Heap.get?_push_of_some _ e
  show wpAny _ _ _ _ _ { s with heap := h'.push (seqObj "list" acc.toList.toArray 0), toks := tk }
  refine wpAny_bind (wpAny_holding (wpAny_call_entry PyProof.Rows.slot_list_sort ⟨_, hoL, rfl⟩ PyProof.Rows.entry_list_sort
    (SrtO.list_sort_ord (ltv := fun v u => ltSI (siOf s.heap v) (siOf s.heap u)) (s := { s with heap := h'.push (seqObj "list" acc.toList.toArray 0), toks := tk }) (swo_SI (siOf s.heap)) hoL hal (fun h2 => si_sortable (by omega) hsi fun ob e => by
      have e' := e.symm.trans hoL
      cases e'
      intro c
      exact absurd (Value.type.inj c) (by decide)) fun out h1 h2 => ⟨_, rfl, ?_⟩)
    (PyProof.Rows.args_list_sort _)))
  obtain ⟨ps, b1, b2⟩ := perm_lift (fun z : Addr × (Str × Int) => Value.ref z.1) h2.perm ps0 eb.symm
  have hAs : AsAt H ps := fun z hz => a1 z (b1.mem_iff.mp hz)
  have hk2 : ∀ z ∈ ps, siOf s.heap (Value.ref z.1) = z.2 := fun z hz => (isSI_of I.hok (hAs z hz)).of
  have hsr : SrtO.Srtd ltSI (ps.map (·.2)) := by
    rw [← b2] at h1
    have h1' := List.pairwise_map.mp h1
    refine List.pairwise_map.mpr (h1'.imp_of_mem fun {x y} hx hy hh => ?_)
    have hh' : ltSI (siOf s.heap (Value.ref y.1)) (siOf s.heap (Value.ref x.1)) = false := hh
    rw [hk2 x hx, hk2 y hy] at hh'
    exact hh'
  obtain ⟨e', he'⟩ := PyProof.Rows.sortedHeap_at (vs := acc.toList) (out := out.toArray) hoL
  have hlen : (ps.map fun z => V.ref z.1).length ≤ sizeLine := by
    rw [List.length_map, b1.length_eq]
    have : ps0.length = acc.toList.length := by rw [eb, List.length_map]
    omega
  refine wpAny_pure ⟨_, rfl, .ref h'.objs.size, upd H h'.objs.size (.lst (ps.map fun z => V.ref z.1)), I1.laid (t' := tk) (fun b u e => ?_) (Nat.le_refl _)
    (show ObjOk X.prog X.w _ _ _ (.lst _) from ⟨hlen, out, e', ?_, he'⟩), rfl, q ps _ hAs hsr ((b1.map _).trans (by rw [a2])) (I1.hok.fresh (Nat.le_refl _))⟩
  · have hb : b < h'.objs.size := Heap.lt_size e
    rw [PyProof.Rows.sortedHeap_old (Nat.ne_of_lt hb) (by rw [size_push']; exact Nat.lt_succ_of_lt hb)]
    exact Heap.get?_push_of_some _ e
  · rw [← b2]
    have := vals_refs (ps.map (·.1))
    rw [List.map_map, List.map_map] at this
    exact this
end
end Bd
namespace Bd
open PySem PySem.Spec PyProof.Rows
section
variable {prog : Program} {w : World} {A : Around} {E : Value → Shared → Prop} {s : Shared} {r d : Addr} {es : Array DictEntry} {ep : Nat}
theorem code_tuple_items {Q₁ : Value → Shared → Prop} (hh : A.handled = none) (hv : s.heap.IsItemsView r d) (hm : DT.Raw s.heap d es ep) (hn : es.size ≤ sizeLine)
    (h : ∀ (h' : Heap) (tk : Nat) (as : List Addr), (∀ b o, s.heap.get? b = some o → h'.get? b = some o) → s.heap.objs.size < h'.objs.size → as.length = es.size → DT.Made es s.heap.objs.size h' as →
      Q₁ (.ref h'.objs.size) { s with heap := h'.push { cls := .type "tuple", data := .seq (as.map Value.ref).toArray }, toks := tk }) :
    codeAny (model prog w) A (.call (.builtin "tuple.__new__") ⟨[.type "tuple", .ref r], []⟩) (wants Q₁ E) s := by
  refine codeAny_of_tree ?_
  show wpAny _ A.in1 (do checkBuiltinCall "tuple.__new__" ⟨[.type "tuple", .ref r], []⟩; again (.builtin "tuple.__new__" ⟨[.type "tuple", .ref r], []⟩)) _ _ s
  refine wpAny_bind (wpAny_of_eq (F.newCall_tuple_1 _) (wpAny_pure ⟨plainId_quiet F.plain_tuple_new _, codeAny_builtin F.entry_tuple_new ?_⟩))
  rw [Around.under_plainId F.plain_tuple_new _]
  have hsub := sub_tuple_self
  have hinit := init_tuple_lookup
  have hmh := madeHere_tuple
  have hTI : s.TypeIs (.ref r) "dict_items" := by
    obtain ⟨o, ho, hc, _⟩ := hv
    exact ⟨o, ho, hc⟩
  wp_walk using wpAny_typeOf hTI, DT.collectI (A := A.in1) (show A.in1.handled = none from hh) hv hm hn
  intro h' tk as hk hlt hl hG
  show wpAny _ _ (Builtin.Tuple.tupleExact (as.map Value.ref).toArray >>= fun v => ret v) _ _ _
  unfold Builtin.Tuple.tupleExact
  refine wpAny_bind (wpAny_newObj_type ?_ (by show (as.map Value.ref).toArray.size ≤ sizeLine; simp only [List.size_toArray, List.length_map]; omega))
  exact wpAny_pure (h h' tk as hk hlt hl hG)
theorem call_tuple_items {Q : Value → Shared → Prop} (hh : A.handled = none) (hv : s.heap.IsItemsView r d) (hm : DT.Raw s.heap d es ep) (hn : es.size ≤ sizeLine)
    (h : ∀ (h' : Heap) (tk : Nat) (as : List Addr), (∀ b o, s.heap.get? b = some o → h'.get? b = some o) → s.heap.objs.size < h'.objs.size → as.length = es.size → DT.Made es s.heap.objs.size h' as →
      Q (.ref h'.objs.size) { s with heap := h'.push { cls := .type "tuple", data := .seq (as.map Value.ref).toArray }, toks := tk }) :
    wpAny (model prog w) A (call (.type "tuple") [.ref r]) Q E s := by
  refine callType_codes (Q₁ := fun obj s₁ => s₁.TypeIs obj "tuple" ∧ Q obj s₁) F.called_tuple (F.typeCall_tuple_1 _) F.entry_object_init
    (code_tuple_items (A := A.in1) hh hv hm hn fun h' tk as hk hlt hl hG => ⟨⟨_, Heap.get?_push_size _ rfl, rfl⟩, h h' tk as hk hlt hl hG⟩) fun obj s₁ h₁ => ?_
  exact ⟨h₁.1, F.args_object_init_2 obj _, object_init_meets F.called_tuple.init.lookup F.called_tuple.made (by decide) prog w A.in1 _ s₁ ⟨h₁.1, rfl, h₁.2⟩⟩
end
end Bd
namespace Bd
open PySem PySem.Spec PyProof.Rows L2 L2.DX
section
variable {X : Cx}
/-- tuple(d.items()): a row of pairs (asset, value) -/
def rTupIt : List V → Hp → VK → Prop := fun vs H Q => ∃ (p a : Addr) (m : List ((Str × Int) × V)), vs = [.ref p] ∧ H p = some (itemsO p a) ∧ H a = some (.dT (m.map fun e => (eK e.1, e.2))) ∧
  ∀ (H' : Hp) (q : Addr) (zs : List (Addr × ((Str × Int) × V))), (∀ b o, H b = some o → H' b = some o) → H q = none → zs.map (·.2) = m → H' q = some (.tup (zs.map fun z => V.ref z.1)) →
    (∀ z ∈ zs, ∃ kq, H' z.1 = some (.tup [.ref kq, z.2.2]) ∧ H' kq = some (.tup [.str z.2.1.1, .int z.2.1.2])) → Q (.ref q) H'
theorem cr_tupIt (hc : X.calm = true) : CallR X (.type "tuple") rTupIt := by
  intro pins s σ H xs us Q I r h
  obtain ⟨p, a, m, rfl, hp, ha, q⟩ := h
  obtain ⟨u, rfl, ru⟩ := vals1 r
  obtain rfl : u = Value.ref p := ru
  have view : s.heap.IsItemsView p a := (show ObjOk X.prog X.w H s.heap p (itemsO p a) from I.hok p _ hp).1
  obtain ⟨z, hd, xs', rel, o, es, ep, ho, hx, hdat, hes, his, hn⟩ := dt_of I.hok ha
  have l1 : (m.map fun e => (eK e.1, e.2)).length = xs'.length := Paired.length rel
  rw [List.length_map] at l1 z
  have l2 : es.size = xs'.length := size_of_entries hes
  refine call_tuple_items (es := es) (ep := ep) (I.ok.hd hc) view ⟨o, ho, hx, hdat⟩ (by omega) fun h' tk as hk hlt hl hG => ?_
  have lam : as.length = m.length := by omega
  have nd : as.Nodup := List.Pairwise.imp (fun h => Nat.ne_of_lt h) hG.rise
  have hN : s.heap.objs.size < h'.objs.size := hlt
  generalize hh : h'.push { cls := .type "tuple", data := .seq (as.map Value.ref).toArray } = h2
  have ka : ∀ b o, h'.get? b = some o → h2.get? b = some o := fun b o e => by rw [← hh]; exact Heap.get?_push_of_some _ e
  have hob : h2.get? h'.objs.size = some { cls := .type "tuple", data := .seq (as.map Value.ref).toArray } := by rw [← hh]; exact Heap.get?_push_size _ rfl
  have I1 : Inv X pins σ H { s with heap := h2, toks := tk } := I.kept (t' := tk) fun b o e => ka _ _ (hk b o e)
  have hn0 : H h'.objs.size = none := I.hok.fresh (Nat.le_of_lt hN)
  have I2 : Inv X pins σ (upd H h'.objs.size (.tup (as.map V.ref))) { s with heap := h2, toks := tk } :=
    I1.take (h' := h2) (t' := tk) (fun b ob _ e => e) (I.fpOk (Nat.le_of_lt hN) hn0) ⟨by rw [List.length_map]; omega, as.map Value.ref, vals_refs as, ⟨_, hob, rfl, 0, rfl⟩⟩
  obtain ⟨H2, I3, g, qt⟩ := takeT (P := fun b vs => ∃ (j : Nat) (e : (Str × Int) × V) (kq : Addr), as[j]? = some b ∧ m[j]? = some e ∧ vs = [.ref kq, e.2] ∧ H kq = some (.tup [.str e.1.1, .int e.1.2])) I as _ I2 nd fun b hb => by
    obtain ⟨j, hj⟩ := List.mem_iff_getElem?.mp hb
    obtain ⟨en, he, hg⟩ := hG.pairs j b hj
    rw [entry_at hes j] at he
    cases hxj : xs'[j]? with
    | none =>
      rw [hxj] at he
      exact nomatch (show (none : Option DictEntry) = some en from he)
    | some x =>
      rw [hxj] at he
      have een : entryOfKey (tupleKind (mixKind X.prog X.w)) x = en := Option.some.inj he
      obtain ⟨e0, he0, r1, r2, r3⟩ := pget rel hxj
      rw [List.getElem?_map] at he0
      cases hkj : m[j]? with
      | none =>
        rw [hkj] at he0
        exact nomatch (show (none : Option (List L2.Key × V)) = some e0 from he0)
      | some e =>
        rw [hkj] at he0
        have ee : (eK e.1, e.2) = e0 := Option.some.inj he0
        rw [← ee] at r2 r3
        have hbl : s.heap.objs.size ≤ b := Nat.le_of_lt (hG.above b hb)
        have hbn : b ≠ h'.objs.size := Nat.ne_of_lt (Heap.lt_size hg)
        refine ⟨hbl, by rw [upd_ne hbn]; exact I.hok.fresh hbl, [.ref x.2.1, e.2], ⟨j, e, x.2.1, hj, hkj, rfl, r2⟩, fun H3 => ⟨by rw [sizeLine_eq]; show 2 ≤ 16777216; omega, [Value.ref x.2.1, x.2.2], .cons rfl (.cons r3 .nil), ⟨_, ka _ _ hg, rfl, 0, ?_⟩⟩⟩
        rw [← een]
        rfl
  have gr : ∀ b o, H b = some o → H2 b = some o := fun b o e => g b o (by rw [upd_ne (ne_of_none e hn0)]; exact e)
  refine ⟨.ref h'.objs.size, H2, I3, rfl, q H2 h'.objs.size (as.zip m) gr hn0 (List.map_snd_zip (by omega)) ?_ fun z' hz' => ?_⟩
  · have e1 : ((as.zip m).map fun z => V.ref z.1) = as.map V.ref := by
      have := List.map_fst_zip (l₁ := as) (l₂ := m) (by omega)
      conv => rhs; rw [← this]
      rw [List.map_map]; rfl
    rw [e1]
    exact g _ _ upd_same
  · obtain ⟨i, hi⟩ := List.mem_iff_getElem?.mp hz'
    obtain ⟨i1, i2⟩ := List.getElem?_zip_eq_some.mp hi
    obtain ⟨vs, ⟨j, e, kq, j1, j2, ev, hkq⟩, hH⟩ := qt z'.1 (List.mem_of_getElem? i1)
    have eij : i = j := (List.getElem?_inj (List.getElem?_eq_some_iff.mp i1).1 nd).mp (i1.trans j1.symm)
    subst eij
    have ee : e = z'.2 := Option.some.inj (j2.symm.trans i2)
    rw [ev, ee] at hH
    rw [ee] at hkq
    exact ⟨kq, hH, gr _ _ hkq⟩
end
end Bd
namespace Bd
open PySem PySem.Spec PyProof.Rows L2
section
/-- d[k] = v by a comprehension, keys tuples -/
theorem put_tup {X : Cx} {pins : List (Addr × Obj)} {σ : L2.St} {H : Hp} {s : Shared} {E : Value → Shared → Prop} {D b : Addr} {kvs : List (List Key × V)} {k : List Key} {v : V} {u r : Value} {Q : Unit → Shared → Prop} (hu : X.A.units + 1 < cLine) (I : Inv X pins σ H s)
    (hD : H D = some (.dT kvs)) (hb : H b = some (.tup (k.map kV))) (hz : kvs.length < sizeLine) (ru : u = Value.ref b) (rv : RelV v r) (h : ∀ s', Inv X pins σ (upd H D (.dT (putK kvs k v))) s' → Q () s') :
    wpAny (model X.prog X.w) X.A (dictSet D u r) Q E s := by
  subst ru
  obtain ⟨z, hd, xs, rel, dd⟩ := dt_of I.hok hD
  have hl : (putK kvs k v).length ≤ sizeLine := by have := length_putK kvs k v; omega
  refine wpAny_dictSet_heap (hsz := by rw [← Paired.length rel]; exact z) (show (tupleKind (mixKind X.prog X.w)).room X.A from (show X.A.units < cLine by omega)) (key_of I.hok hb) dd fun h' dd' hs => h _ ?_
  obtain ⟨q, es, ep, hq, h2, h3, h4, _, h5⟩ := dd'
  refine d_write I (by rw [hD]; exact True.intro) hs ⟨q, hq⟩ ⟨hl, hd, _, (rel.put k hb rv).keeps fun c ys ec => ?_, q, es, ep, hq, h2, h3, h4, h5⟩
  rw [upd_ne (ne_of ec hD (fun z => nomatch z))]
  exact ec
end
section
variable {X : Cx}
/-- what {k: v for ..} asks of what it walks, the keys tuples: D the new dict -/
def DcJ (g : TG) (tt : TT) (tk tv : TE) (vs : List Nat) (σ : L2.St) (Q : VK) (J : It) (H1 : Hp) : Prop := ∀ D, H1 D = none → ∃ W : Nat → Nat → Hp → Prop, (∃ m, W 0 m (upd H1 D (.dT []))) ∧ ∀ i m H, W i m H →
  (J.stop i H ∧ Q (.ref D) H) ∨ (J.go i H ∧ ∃ Nx : Hp → Prop, (∀ H', Nx H' → ∃ m', m' < m ∧ W (i + 1) m' H') ∧ ∀ x H', J.yld i H x H' → g x (wipe σ vs) H' fun σ2 H2 => wipe σ2 vs = wipe σ vs ∧ tt σ2 H2 fun t H3 =>
    if t = true then tk σ2 H3 fun y H4 => tv σ2 H4 fun z H5 => ∃ kvs k b, y = .ref b ∧ H5 b = some (.tup (k.map kV)) ∧ H5 D = some (.dT kvs) ∧ kvs.length < sizeLine ∧ Nx (upd H5 D (.dT (putK kvs k z))) else Nx H3)
def tDcT (wi : TI) (g : TG) (tt : TT) (tk tv : TE) (vs : List Nat) : TE := fun σ H Q => wi σ H fun J H1 => DcJ g tt tk tv vs σ Q J H1
theorem pe_dcT {kx vx tg iter : Expr} {ifs : List Expr} {scope : Scope} {own : List (Str × Nat)} {pos : Pos} {wi : TI} {g : TG} {tt : TT} {tk tv : TE} (hu : X.A.units + 1 < cLine) (hc : X.calm = true) (hN : X.N.Nodup) (hi : PI X tg iter wi) (ok : BlkOk X.N X.env.scope scope own)
    (hg : ∀ (s : Shared) (H : Hp) (C : Addr) (cl : List (Str × Addr)) (fp : List Addr), PG (X.blk s H scope (compEnvC scope cl C X.env) fp) tg g) (ht : ∀ (s : Shared) (H : Hp) (C : Addr) (cl : List (Str × Addr)) (fp : List Addr), PTs (X.blk s H scope (compEnvC scope cl C X.env) fp) ifs tt)
    (hk : ∀ (s : Shared) (H : Hp) (C : Addr) (cl : List (Str × Addr)) (fp : List Addr), PE (X.blk s H scope (compEnvC scope cl C X.env) fp) kx tk)
    (he : ∀ (s : Shared) (H : Hp) (C : Addr) (cl : List (Str × Addr)) (fp : List Addr), PE (X.blk s H scope (compEnvC scope cl C X.env) fp) vx tv) (hs : ∀ x, foldedSetIterable iter X.env x = pure x := by intro _; rfl) :
    PE X (.DictComp kx vx [⟨tg, iter, ifs, 0⟩] scope pos) (tDcT wi g tt tk tv (own.map (·.2))) := by
  refine ⟨fun pins s σ H Q I h => ?_⟩
  rw [arm_eval_DictComp]
  have free : ∀ y ∈ scope.names, y.2 = .free → ∃ c, X.env.cells.lookup y.1 = some c := fun y hy e => by
    rcases ok.free y hy e with k | k
    · exact I.ok.has _ (.inl k)
    · exact I.ok.has _ (.inr k)
  refine wpAny_comprehension_free rfl hs (closure_ok free) ok.kind (fun y hy e => by rw [ok.uniq y hy, e]) (thn (hi.run pins s σ H _ I h) fun xv s1 hx => thn hx fun itv s2 h2 => ?_)
  obtain ⟨it, fp, tn, J, H2, rfl, I2, T, st2, f2, q⟩ := h2
  -- the dict that is made, at D
  obtain ⟨D, hD⟩ : ∃ D : Addr, D = s2.heap.objs.size := ⟨_, rfl⟩
  have D0 : H2 D = none := I2.hok.fresh (Nat.le_of_eq hD.symm)
  obtain ⟨W, ⟨m0, w0⟩, turn⟩ := q D D0
  refine wpAny_newObj_type (newEnv_comp ?_)
  rw [← hD]
  obtain ⟨s3, e3⟩ : ∃ s3 : Shared, s3 = { s2 with heap := s2.heap.push { cls := .type "dict", data := .dict #[] } } := ⟨_, rfl⟩
  have p3 : ∀ b o, s2.heap.get? b = some o → s3.heap.get? b = some o := fun b o e => by rw [e3]; exact Heap.get?_push_of_some _ e
  have I3 : Inv X pins σ (upd H2 D (.dT [])) s3 := by
    rw [e3]
    exact I2.laid (t' := s2.toks) (fun b o e => Heap.get?_push_of_some _ e) (Nat.le_of_eq hD.symm) (by rw [hD]; exact dt_empty s2.heap I2.big)
  have f3 : ∀ b ∈ fp, FpOk X pins (upd H2 D (.dT [])) b ∧ b < s3.heap.objs.size := fun b hb => by
    obtain ⟨o, e, _⟩ := T.obj _ _ st2 b hb
    exact ⟨⟨by rw [upd_ne (by rw [hD]; exact Nat.ne_of_lt (Heap.lt_size e))]; exact (f2 b hb).1, (f2 b hb).2⟩, Heap.lt_size (p3 b o e)⟩
  have I4 := block_start I3 ok hN f3
  have pg := hg s3 (upd H2 D (.dT [])) s3.heap.objs.size (cellsFrom (s3.heap.objs.size + 1) scope.names (cloFrom X.env.cells scope.names [])) fp
  have pt := ht s3 (upd H2 D (.dT [])) s3.heap.objs.size (cellsFrom (s3.heap.objs.size + 1) scope.names (cloFrom X.env.cells scope.names [])) fp
  have pk := hk s3 (upd H2 D (.dT [])) s3.heap.objs.size (cellsFrom (s3.heap.objs.size + 1) scope.names (cloFrom X.env.cells scope.names [])) fp
  have pe := he s3 (upd H2 D (.dT [])) s3.heap.objs.size (cellsFrom (s3.heap.objs.size + 1) scope.names (cloFrom X.env.cells scope.names [])) fp
  rw [← e3]
  show codeAny _ _ (.compStart (.DictComp kx vx [⟨tg, iter, ifs, 0⟩] scope pos) 0 (.ref it) (.ref D) (compEnvC scope (cellsFrom (s3.heap.objs.size + 1) scope.names (cloFrom X.env.cells scope.names [])) s3.heap.objs.size X.env))
    (compPost (model X.prog X.w) X.A X.xe none (EP X pins σ Q) (.ref D) s3.heap.objs.size) { s3 with heap := pushCells (s3.heap.push { cls := .type "dict", data := .dict #[] }) scope.names }
  have nf : ∀ b ∈ fp, (upd H2 D (.dT [])) b = none := fun b hb => (f3 b hb).1.1
  have t4 : tn 0 (pushCells (s3.heap.push { cls := .type "dict", data := .dict #[] }) scope.names) := T.keep _ _ _ st2 fun b _ o e => pushCells_keeps _ _ _ _ (Heap.get?_push_of_some _ (p3 b o e))
  generalize hce : compEnvC scope (cellsFrom (s3.heap.objs.size + 1) scope.names (cloFrom X.env.cells scope.names [])) s3.heap.objs.size X.env = ce at I4 pg pt pk pe ⊢
  have cL : ce.locals = s3.heap.objs.size := by rw [← hce]; rfl
  generalize upd H2 D (.dT []) = H3 at I3 f3 I4 pg pt pk pe nf w0
  generalize hs4 : ({ s3 with heap := pushCells (s3.heap.push { cls := .type "dict", data := .dict #[] }) scope.names } : Shared) = s4 at I4 ⊢
  have t4' : tn 0 s4.heap := by rw [← hs4]; exact t4
  -- the iterator's objects stand outside of the block
  have outer : ∀ {σ' : L2.St} {H' : Hp} {s' : Shared}, Inv (X.blk s3 H3 scope ce fp) [] σ' H' s' → (∀ b ∈ fp, H' b = none) → ∀ b ∈ fp, FpOk (X.blk s3 H3 scope ce fp) [] H' b := fun {σ' H' s'} J n b hb =>
    ⟨n b hb, (J.ok.exf b hb).1, J.ok.exfs b hb, .inl hb, fun x c e => (J.ok.exf b hb).2 x c e, fun p hp => absurd (show p ∈ ([] : List (Addr × Obj)) ++ [] from hp) (by simp)⟩
  have loop : codeAny (model X.prog X.w) X.A (.compLoop (.DictComp kx vx [⟨tg, iter, ifs, 0⟩] scope pos) 0 (.ref it) (.ref D) ce) (compPost (model X.prog X.w) X.A X.xe none (EP X pins σ Q) (.ref D) s3.heap.objs.size) s4 := by
    refine compLoop_anyD (fun n s' => ∃ i H', Inv (X.blk s3 H3 scope ce fp) [] (wipe σ (own.map (·.2))) H' s' ∧ tn i s'.heap ∧ (∀ b ∈ fp, H' b = none) ∧ W i n H') ?_ m0 ⟨0, H3, I4, t4', nf, w0⟩
    rintro n s5 ⟨i, H5, I5, t5, n5, w5⟩
    rcases turn i n H5 w5 with ⟨stop, fin⟩ | ⟨go, Nx, hNx, step⟩
    · -- the walk is at its end: the def goes on
      refine thnF (T.done (X.blk s3 H3 scope ce fp) rfl rfl rfl hc i [] s5 _ H5 (fun _ _ => False) I5 (outer I5 n5) t5 stop) fun r s6 ⟨hr, I6⟩ => ?_
      subst hr
      have I7 : Inv X pins σ H5 s6 := I3.call' (ch := fp) I6.os I6.base I6.hok I6.bare fun b hb => ⟨(f3 b hb).1.2.2.2.1, (f3 b hb).1.2.1, (f3 b hb).1.2.2.2.2.1, (f3 b hb).1.2.2.2.2.2⟩
      have nC : H5 s3.heap.objs.size = none := by rw [← cL]; exact I6.free
      obtain ⟨m, hn, _⟩ := I6.loc
      have hn' : s6.heap.Ns s3.heap.objs.size m := by rw [← cL]; exact hn
      obtain ⟨g0, g1, g2, g3, g4, g5⟩ := I3.fpOk (Nat.le_refl _) nC
      exact ⟨m, hn', fun h'' sb => ⟨.ref D, H5, I7.turned (t' := s6.toks) (fun b o hb e => (sb.2 b hb).trans e) g0 g1 g3 g4 g5, rfl, fin⟩⟩
    · -- one more turn
      refine thnF (T.item (X.blk s3 H3 scope ce fp) rfl rfl rfl hc i [] s5 _ H5 (fun _ _ => False) I5 (outer I5 n5) t5 go) fun r s6 ⟨u, hr, h6⟩ => ?_
      subst hr
      refine thnF h6 fun _ s7 ⟨x, H7, I7, r7, y7, t7, n7⟩ => ?_
      have I7' := I7.pinned (outer I7 n7) (T.obj _ _ t7)
      refine thnF (pg.run _ s7 _ H7 x u _ I7' r7 (step x H7 y7)) fun _ s8 ⟨σ8, H8, I8, w8, q8⟩ => ?_
      refine thnF (pt.run _ s8 σ8 H8 _ I8 q8) fun b s9 ⟨H9, I9, q9⟩ => ?_
      have again : ∀ {s' : Shared} {H' : Hp}, Inv (X.blk s3 H3 scope ce fp) ([] ++ pinsAt fp s7.heap) σ8 H' s' → Nx H' → ∃ m, m < n ∧ ∃ i H', Inv (X.blk s3 H3 scope ce fp) [] (wipe σ (own.map (·.2))) H' s' ∧ tn i s'.heap ∧ (∀ b ∈ fp, H' b = none) ∧ W i m H' := by
        intro s' H' J nx
        obtain ⟨m', hm, w'⟩ := hNx H' nx
        have stay : ∀ b ∈ fp, ∀ o, s7.heap.get? b = some o → s'.heap.get? b = some o ∧ H' b = none := fun b hb o e => by
          have z := J.pin (b, o) (List.mem_append_right _ (List.mem_append_right _ (mem_pinsAt hb e)))
          exact ⟨z.1, z.2.1⟩
        refine ⟨m', hm, i + 1, H', (J.unpinned (pins := [])).weak (by rw [← w8, wipe_length]) (fun j v e => ?_), T.keep _ _ _ t7 fun b hb o e => (stay b hb o e).1, fun b hb => ?_, w'⟩
        · rw [← w8] at e; exact (wipe_some e).1
        · obtain ⟨o, e, _⟩ := T.obj _ _ t7 b hb
          exact (stay b hb o e).2
      cases b with
      | false =>
        simp only [Bool.false_eq_true, if_false] at q9 ⊢
        exact again I9 q9
      | true =>
        simp only [if_true] at q9 ⊢
        refine thnF (pk.run _ s9 σ8 H9 _ I9 q9) fun ky s10 ⟨yk, H10, I10, r10, q10⟩ => ?_
        refine thnF (pe.run _ s10 σ8 H10 _ I10 q10) fun vv s11 ⟨yv, H11, I11, r11, kvs, k, kb, ek, hkb, hD11, hz11, nx⟩ => ?_
        subst ek
        exact put_tup (X := X.blk s3 H3 scope ce fp) hu I11 hD11 hkb hz11 r10 r11 fun s12 I12 => again I12 nx
  exact codeAny_compStart_dict loop (T.self X.A 0 _ _ _ t4' loop)
end
end Bd
namespace Bd
open PySem PySem.Spec PyProof.Rows L2
/-- a list or a tuple is walked -/
def iLt (K : PySem.W.Frag) (tl : TE) : TI := fun σ H R => iList K tl σ H R ∨ iTup K tl σ H R
theorem pi_lt {X : Cx} {tg l : Expr} {tl : TE} (hl : PE X l tl) : PI X tg l (iLt X.K tl) := ⟨fun pins s σ H R I h => h.elim ((pi_list hl).run pins s σ H R I) ((pi_tup hl).run pins s σ H R I)⟩
end Bd

set_option Elab.async false
set_option linter.all false
set_option maxRecDepth 100000
set_option maxHeartbeats 4000000
/-! Bundles: sums of rows, normal forms. -/
namespace Bd
open PySem PySem.Spec PyProof.Rows L2
abbrev Ast := Str × Int
theorem ltSI_anti {p q : Ast} (h1 : ltSI p q = false) (h2 : ltSI q p = false) : p = q := by
  have a := ltSI_no.mp h1
  have b := ltSI_no.mp h2
  have c1 : q.1.cps.toList ≤ p.1.cps.toList := List.not_lt.mp fun z => a (.inl z)
  have c2 : p.1.cps.toList ≤ q.1.cps.toList := List.not_lt.mp fun z => b (.inl z)
  have e : p.1 = q.1 := str_ext (List.le_antisymm c2 c1)
  have d1 : ¬ p.2 < q.2 := fun z => a (.inr ⟨e, z⟩)
  have d2 : ¬ q.2 < p.2 := fun z => b (.inr ⟨e.symm, z⟩)
  exact Prod.ext e (by omega)
/-- the sum of the quantities of an asset -/
def tot : List (Ast × Int) → Ast → Int
  | [], _ => 0
  | e :: r, p => (if e.1 = p then e.2 else 0) + tot r p
theorem tot_append : ∀ (R S : List (Ast × Int)) (p : Ast), tot (R ++ S) p = tot R p + tot S p
  | [], S, p => by simp [tot]
  | e :: R, S, p => by rw [List.cons_append]; simp only [tot]; rw [tot_append R S p]; omega
theorem tot_neg : ∀ (R : List (Ast × Int)) (p : Ast), tot (R.map fun e => (e.1, -e.2)) p = - tot R p
  | [], p => by simp [tot]
  | e :: R, p => by
    rw [List.map_cons]; simp only [tot]; rw [tot_neg R p]
    split <;> omega
theorem tot_none {p : Ast} : ∀ {N : List (Ast × Int)}, p ∉ N.map (·.1) → tot N p = 0
  | [], _ => rfl
  | e :: N, h => by
    simp only [tot]
    rw [if_neg fun z => h (by rw [List.map_cons, z]; exact List.mem_cons_self ..), tot_none fun z => h (by rw [List.map_cons]; exact List.mem_cons_of_mem _ z)]
    omega
theorem tot_at {e : Ast × Int} : ∀ {N : List (Ast × Int)}, (N.map (·.1)).Nodup → e ∈ N → tot N e.1 = e.2
  | [], _, h => absurd h List.not_mem_nil
  | f :: N, hn, h => by
    rw [List.map_cons, List.nodup_cons] at hn
    simp only [tot]
    rcases List.mem_cons.mp h with rfl | h
    · rw [if_pos rfl, tot_none hn.1]; omega
    · rw [if_neg fun z => hn.1 (by rw [z]; exact List.mem_map_of_mem (f := (·.1)) h), tot_at hn.2 h]; omega
/-- rows in normal form -/
structure Nrm (N : List (Ast × Int)) : Prop where
  srt : N.Pairwise fun a b => ltSI b.1 a.1 = false
  nd : (N.map (·.1)).Nodup
  nz : ∀ e ∈ N, e.2 ≠ 0
theorem Nrm.nil : Nrm [] := ⟨List.Pairwise.nil, List.nodup_nil, fun _ h => absurd h List.not_mem_nil⟩
theorem Nrm.tail {e : Ast × Int} {N : List (Ast × Int)} (h : Nrm (e :: N)) : Nrm N := ⟨(List.pairwise_cons.mp h.srt).2, by have := h.nd; rw [List.map_cons, List.nodup_cons] at this; exact this.2, fun x hx => h.nz x (List.mem_cons_of_mem _ hx)⟩
theorem Nrm.key {N : List (Ast × Int)} (h : Nrm N) (p : Ast) : p ∈ N.map (·.1) ↔ tot N p ≠ 0 := by
  constructor
  · intro m
    obtain ⟨e, he, rfl⟩ := List.mem_map.mp m
    rw [tot_at h.nd he]; exact h.nz e he
  · intro m
    rcases Classical.em (p ∈ N.map (·.1)) with z | z
    · exact z
    · exact absurd (tot_none z) m
/-- one normal form for one sum -/
theorem Nrm.uniq : ∀ {N M : List (Ast × Int)}, Nrm N → Nrm M → (∀ p, tot N p = tot M p) → N = M
  | [], [], _, _, _ => rfl
  | [], e :: M, _, hm, h => absurd (h e.1) (by
      rw [tot_at hm.nd (List.mem_cons_self ..)]
      exact fun z => hm.nz e (List.mem_cons_self ..) z.symm)
  | e :: N, [], hn, _, h => absurd (h e.1) (by
      rw [tot_at hn.nd (List.mem_cons_self ..)]
      exact fun z => hn.nz e (List.mem_cons_self ..) z)
  | e :: N, f :: M, hn, hm, h => by
    have k1 : e.1 ∈ (f :: M).map (·.1) := (hm.key _).mpr (by rw [← h]; exact (hn.key _).mp (by rw [List.map_cons]; exact List.mem_cons_self ..))
    have k2 : f.1 ∈ (e :: N).map (·.1) := (hn.key _).mpr (by rw [h]; exact (hm.key _).mp (by rw [List.map_cons]; exact List.mem_cons_self ..))
    have e1 : e.1 = f.1 := by
      rw [List.map_cons] at k1 k2
      rcases List.mem_cons.mp k1 with z | z
      · exact z
      · rcases List.mem_cons.mp k2 with y | y
        · exact y.symm
        · obtain ⟨g, hg, eg⟩ := List.mem_map.mp z
          obtain ⟨g2, hg2, eg2⟩ := List.mem_map.mp y
          have q1 := (List.pairwise_cons.mp hm.srt).1 g hg
          have q2 := (List.pairwise_cons.mp hn.srt).1 g2 hg2
          rw [eg] at q1
          rw [eg2] at q2
          exact ltSI_anti q1 q2
    have e2 : e.2 = f.2 := by
      have a := tot_at hn.nd (List.mem_cons_self (a := e) (l := N))
      have b := tot_at hm.nd (List.mem_cons_self (a := f) (l := M))
      rw [h, e1] at a
      omega
    have ef : e = f := Prod.ext e1 e2
    subst ef
    rw [Nrm.uniq hn.tail hm.tail fun p => by
      have := h p
      simp only [tot] at this
      omega]
/-! ### dicts of sums -/
def eD (m : List (Ast × V)) : List (List Key × V) := m.map fun e => (eK e.1, e.2)
theorem eK_inj {p q : Ast} (h : eK p = eK q) : p = q := by
  have h1 := (List.cons.inj h).1
  have h2 := (List.cons.inj (List.cons.inj h).2).1
  exact Prod.ext (Sum.inr.inj h1) (Sum.inl.inj h2)
theorem valV_eD (p : Ast) : ∀ m : List (Ast × V), valV (eD m) (eK p) = valV m p
  | [] => rfl
  | e :: m => by
    by_cases h : e.1 = p
    · rw [valV_pos h, show eD (e :: m) = (eK e.1, e.2) :: eD m from rfl, valV_pos (p := (eK e.1, e.2)) (by rw [h])]
    · rw [valV_neg h, show eD (e :: m) = (eK e.1, e.2) :: eD m from rfl, valV_neg (p := (eK e.1, e.2)) (fun z => h (eK_inj z)), valV_eD p m]
theorem putK_eD (m : List (Ast × V)) (p : Ast) (v : V) : putK (eD m) (eK p) v = eD (putK m p v) := by
  unfold putK
  rw [valV_any, valV_any, valV_eD]
  split
  · unfold eD
    rw [List.map_map, List.map_map]
    refine List.map_congr_left fun e _ => ?_
    show (if eK e.1 = eK p then (eK e.1, v) else (eK e.1, e.2)) = _
    by_cases h : e.1 = p
    · rw [if_pos (by rw [h])]
      show _ = (fun e : Ast × V => (eK e.1, e.2)) (if e.1 = p then (e.1, v) else e)
      rw [if_pos h]
    · rw [if_neg fun z => h (eK_inj z)]
      show _ = (fun e : Ast × V => (eK e.1, e.2)) (if e.1 = p then (e.1, v) else e)
      rw [if_neg h]
  · unfold eD; rw [List.map_append]; rfl
theorem valV_key {m : List (Ast × V)} {p : Ast} : (valV m p).isSome = true ↔ p ∈ m.map (·.1) := by
  rw [← valV_any, List.any_eq_true]
  constructor
  · rintro ⟨e, he, h⟩
    rw [← of_decide_eq_true h]; exact List.mem_map_of_mem (f := (·.1)) he
  · intro h
    obtain ⟨e, he, h⟩ := List.mem_map.mp h
    exact ⟨e, he, decide_eq_true h⟩
theorem nodup_putK {m : List (Ast × V)} {p : Ast} {v : V} (h : (m.map (·.1)).Nodup) : ((putK m p v).map (·.1)).Nodup := by
  unfold putK
  split
  · rw [List.map_map]
    have : ((fun x : Ast × V => x.1) ∘ fun kv => if kv.1 = p then (kv.1, v) else kv) = fun x => x.1 := by
      funext x; show (if x.1 = p then (x.1, v) else x).1 = x.1; split <;> rfl
    rw [this]; exact h
  · rename_i hn
    rw [List.map_append, List.nodup_append]
    refine ⟨h, by simp, fun a ha b hb => ?_⟩
    have e : b = p := by simpa using hb
    rw [e]
    intro z
    rw [z] at ha
    rw [valV_any] at hn
    exact hn (valV_key.mpr ha)
/-- the sums so far -/
structure Sums (m : List (Ast × V)) (R : List (Ast × Int)) : Prop where
  nd : (m.map (·.1)).Nodup
  val : ∀ p, valV m p = if p ∈ R.map (·.1) then some (.int (tot R p)) else none
theorem Sums.nil : Sums [] [] := ⟨List.nodup_nil, fun p => rfl⟩
theorem Sums.get {m : List (Ast × V)} {R : List (Ast × Int)} (h : Sums m R) (p : Ast) : (valV m p).getD (.int 0) = .int (tot R p) := by
  rw [h.val]
  split
  · rfl
  · rename_i z; rw [tot_none z]; rfl
theorem Sums.put {m : List (Ast × V)} {R : List (Ast × Int)} (h : Sums m R) (e : Ast × Int) : Sums (putK m e.1 (.int (tot R e.1 + e.2))) (R ++ [e]) := by
  refine ⟨nodup_putK h.nd, fun p => ?_⟩
  rw [valV_put, h.val, tot_append]
  simp only [tot, List.map_append, List.map_cons, List.map_nil, List.mem_append, List.mem_singleton]
  by_cases q : p = e.1
  · subst q
    simp
  · have q' : ¬ e.1 = p := fun z => q z.symm
    rw [if_neg q, if_neg q']
    by_cases y : p ∈ R.map (·.1)
    · have y' : p ∈ R.map (·.1) ∨ p = e.1 := .inl y
      rw [if_pos y, if_pos y']; simp
    · have y' : ¬ (p ∈ R.map (·.1) ∨ p = e.1) := fun z => z.elim y q
      rw [if_neg y, if_neg y']
theorem Sums.keys {m : List (Ast × V)} {R : List (Ast × Int)} (h : Sums m R) (p : Ast) : p ∈ m.map (·.1) ↔ p ∈ R.map (·.1) := by
  rw [← valV_key, h.val]
  split <;> simp [*]
/-- what the sorted keys give -/
def nfOf (R : List (Ast × Int)) (S : List Ast) : List (Ast × Int) := (S.filter fun p => decide (tot R p ≠ 0)).map fun p => (p, tot R p)
theorem nf_nrm {R : List (Ast × Int)} {S : List Ast} (hs : SrtO.Srtd ltSI S) (hn : S.Nodup) : Nrm (nfOf R S) := by
  refine ⟨?_, ?_, ?_⟩
  · exact List.pairwise_map.mpr (List.Pairwise.filter _ hs)
  · unfold nfOf; rw [List.map_map]
    have : ((fun x : Ast × Int => x.1) ∘ fun p => (p, tot R p)) = id := rfl
    rw [this, List.map_id]
    exact List.Pairwise.filter _ hn
  · intro e he
    obtain ⟨p, hp, rfl⟩ := List.mem_map.mp he
    exact of_decide_eq_true (List.mem_filter.mp hp).2
theorem nf_tot {R : List (Ast × Int)} {S : List Ast} (hs : SrtO.Srtd ltSI S) (hn : S.Nodup) (hk : ∀ p, p ∈ R.map (·.1) → p ∈ S) (p : Ast) : tot (nfOf R S) p = tot R p := by
  by_cases h : tot R p = 0
  · rw [h]
    refine tot_none fun z => ?_
    obtain ⟨e, he, rfl⟩ := List.mem_map.mp z
    obtain ⟨q, hq, rfl⟩ := List.mem_map.mp he
    exact of_decide_eq_true (List.mem_filter.mp hq).2 h
  · have m : p ∈ S := hk p (by
      rcases Classical.em (p ∈ R.map (·.1)) with z | z
      · exact z
      · exact absurd (tot_none z) h)
    exact tot_at (nf_nrm hs hn).nd (e := (p, tot R p)) (List.mem_map.mpr ⟨p, List.mem_filter.mpr ⟨m, decide_eq_true h⟩, rfl⟩)
end Bd
namespace Bd
open PySem PySem.Spec PyProof.Rows L2
/-- rows as they stand in the heap -/
inductive RowL (H : Hp) : List V → List (Ast × Int) → Prop
  | nil : RowL H [] []
  | cons {z kq : Addr} {xs : List V} {p : Ast} {q : Int} {R : List (Ast × Int)} (h1 : H z = some (.tup [.ref kq, .int q])) (h2 : H kq = some (.tup [.str p.1, .int p.2])) (r : RowL H xs R) : RowL H (.ref z :: xs) ((p, q) :: R)
theorem RowL.keepT {H H' : Hp} (e : ∀ q t, H q = some (.tup t) → H' q = some (.tup t)) {xs : List V} {R : List (Ast × Int)} (h : RowL H xs R) : RowL H' xs R := by
  induction h with
  | nil => exact .nil
  | cons h1 h2 _ ih => exact .cons (e _ _ h1) (e _ _ h2) ih
theorem RowL.keep {H H' : Hp} (e : Same H H') {xs : List V} {R : List (Ast × Int)} (h : RowL H xs R) : RowL H' xs R := h.keepT fun _ _ => e _ _
theorem RowL.len {H : Hp} {xs : List V} {R : List (Ast × Int)} (h : RowL H xs R) : xs.length = R.length := by
  induction h with
  | nil => rfl
  | cons _ _ _ ih => exact congrArg Nat.succ ih
theorem RowL.append {H : Hp} {xs ys : List V} {R S : List (Ast × Int)} (h : RowL H xs R) (k : RowL H ys S) : RowL H (xs ++ ys) (R ++ S) := by
  induction h with
  | nil => exact k
  | cons h1 h2 _ ih => exact .cons h1 h2 ih
theorem RowL.get {H : Hp} {xs : List V} {R : List (Ast × Int)} (h : RowL H xs R) : ∀ {i : Nat} {x : V}, xs[i]? = some x → ∃ z kq p q, x = V.ref z ∧ R[i]? = some (p, q) ∧ H z = some (.tup [.ref kq, .int q]) ∧ H kq = some (.tup [.str p.1, .int p.2]) := by
  induction h with
  | nil => intro i x e; cases e
  | @cons z kq xs p q R h1 h2 _ ih =>
    intro i x e
    cases i with
    | zero => cases e; exact ⟨z, kq, p, q, rfl, rfl, h1, h2⟩
    | succ i => exact ih e
def encR (e : Ast × Int) : PyData := .tuple [.tuple [.str e.1.1, .int e.1.2], .int e.2]
theorem RowL.dp {K : PySem.W.Frag} {H : Hp} {xs : List V} {R : List (Ast × Int)} (h : RowL H xs R) : DpAll K H xs (R.map encR) := by
  induction h with
  | nil => exact .nil
  | cons h1 h2 _ ih => exact .cons (.tup (SqT.of h1) (.cons (.tup (SqT.of h2) (.cons (.str _) (.cons (.int _) .nil))) (.cons (.int _) .nil))) ih
theorem RowL.zs {H : Hp} : ∀ {zs : List (Addr × (Ast × V))} {R : List (Ast × Int)}, zs.map (·.2) = R.map (fun e => (e.1, V.int e.2)) →
    (∀ z ∈ zs, ∃ kq, H z.1 = some (.tup [.ref kq, z.2.2]) ∧ H kq = some (.tup [.str z.2.1.1, .int z.2.1.2])) → RowL H (zs.map fun z => V.ref z.1) R
  | [], [], _, _ => .nil
  | [], _ :: _, e, _ => by cases e
  | _ :: _, [], e, _ => by cases e
  | z :: zs, e :: R, h, k => by
    rw [List.map_cons, List.map_cons] at h
    have h1 := (List.cons.inj h).1
    obtain ⟨kq, a, b⟩ := k z (List.mem_cons_self ..)
    rw [h1] at a b
    exact .cons a b (RowL.zs (List.cons.inj h).2 fun y hy => k y (List.mem_cons_of_mem _ hy))
/-- the bundle at b has the rows N -/
def BdAt (K : PySem.W.Frag) (H : Hp) (b : Addr) (N : List (Ast × Int)) : Prop := ∃ dx r d xs, H b = some (.ins (He.ga K "Bundle") dx [("_quantities", .ref d), ("rows", .ref r)]) ∧ H r = some (.tup xs) ∧ RowL H xs N ∧ H d = some (.dT (eD (N.map fun e => (e.1, V.int e.2)))) ∧ Nrm N
theorem BdAt.nrm {K : PySem.W.Frag} {H : Hp} {b : Addr} {N : List (Ast × Int)} (h : BdAt K H b N) : Nrm N := by
  obtain ⟨_, _, _, _, _, _, _, _, h⟩ := h
  exact h
theorem Nrm.neg {N : List (Ast × Int)} (h : Nrm N) : Nrm (N.map fun e => (e.1, -e.2)) := by
  refine ⟨List.pairwise_map.mpr h.srt, ?_, ?_⟩
  · rw [List.map_map]; exact h.nd
  · intro e he
    obtain ⟨f, hf, rfl⟩ := List.mem_map.mp he
    have := h.nz f hf
    show -f.2 ≠ 0
    omega
theorem BdAt.keep {K : PySem.W.Frag} {H H' : Hp} {b : Addr} {N : List (Ast × Int)} (e : Same H H') (h : BdAt K H b N) : BdAt K H' b N := by
  obtain ⟨dx, r, d, xs, h1, h2, h3, h4, h5⟩ := h
  exact ⟨dx, r, d, xs, e _ _ h1, e _ _ h2, h3.keep e, e _ _ h4, h5⟩
/-- what is told of the class -/
structure BFacts (K : PySem.W.Frag) (mg : Str → Option Value) : Prop where
  m : mg "Bundle" = some (.ref (He.ga K "Bundle"))
  cls : Cls K (He.ga K "Bundle")
  n1 : NoAttr K (He.ga K "Bundle") "rows"
  n2 : NoAttr K (He.ga K "Bundle") "_quantities"
  mkr : Mk K (He.ga K "Bundle") (He.fAd K ("Bundle", some "__init__"))
  first : PySem.W.selfFirst K (He.ga K "Bundle") = true
  at_Bundle___add : PySem.W.findIn K (.ref (He.ga K "Bundle")) "__add__" = some (some (.ref (He.fAd K ("Bundle", some "__add__"))))
  fn_Bundle___add : PySem.W.isFn K (.ref (He.fAd K ("Bundle", some "__add__"))) = true
  at_Bundle___sub : PySem.W.findIn K (.ref (He.ga K "Bundle")) "__sub__" = some (some (.ref (He.fAd K ("Bundle", some "__sub__"))))
  fn_Bundle___sub : PySem.W.isFn K (.ref (He.fAd K ("Bundle", some "__sub__"))) = true
  at_Bundle___neg : PySem.W.findIn K (.ref (He.ga K "Bundle")) "__neg__" = some (some (.ref (He.fAd K ("Bundle", some "__neg__"))))
  fn_Bundle___neg : PySem.W.isFn K (.ref (He.fAd K ("Bundle", some "__neg__"))) = true
end Bd
namespace Rb
open PySem PySem.Spec PyProof.Rows L2 Bd
section
variable {K : PySem.W.Frag} {σ : L2.St} {H : Hp} {n b c : L2.St → Hp → Prop} {r : VK} {Q : VK} {td ty tv tx ta te : TE}
theorem dnewT (k : ∀ p, H p = none → Q (.ref p) (upd H p (.dT []))) : tDNewT σ H Q := k
theorem dget2 (k : td σ H fun x H1 => ∃ a, x = .ref a ∧ IsD H1 a ∧ ty σ H1 fun y H2 => tx σ H2 fun z H3 => ∃ o, DGet H3 a y o ∧ Q (o.getD z) H3) : tDGet2 td ty tx σ H Q := k
theorem dget (k : td σ H fun x H1 => ty σ H1 fun y H2 => ∃ a v, x = .ref a ∧ DGet H2 a y (some v) ∧ Q v H2) : tDGet td ty σ H Q := k
theorem isD {a : Addr} {kvs : List (List Key × V)} {P : Addr → Prop} (h : H a = some (.dT kvs)) (k : P a) : ∃ a', V.ref a = .ref a' ∧ IsD H a' ∧ P a' := ⟨a, rfl, .inr ⟨kvs, .inl h⟩, k⟩
theorem dgetO {a z : Addr} {m : List (Ast × V)} {p : Ast} {P : Option V → Prop} (h : H a = some (.dT (eD m))) (hz : H z = some (.tup [.str p.1, .int p.2])) (k : P (valV m p)) : ∃ o, DGet H a (.ref z) o ∧ P o :=
  ⟨_, DGet.t (k := eK p) h hz, by rw [valV_eD]; exact k⟩
theorem dgetS {a z : Addr} {m : List (Ast × V)} {p : Ast} {v : V} {P : V → Prop} (h : H a = some (.dT (eD m))) (hz : H z = some (.tup [.str p.1, .int p.2])) (e : valV m p = some v) (k : P v) : ∃ a' v', V.ref a = .ref a' ∧ DGet H a' (.ref z) (some v') ∧ P v' :=
  ⟨a, v, rfl, by rw [← e, ← valV_eD]; exact DGet.t (k := eK p) h hz, k⟩
theorem dput (k : tv σ H fun v H1 => td σ H1 fun x H2 => ty σ H2 fun y H3 => ∃ a H4, x = .ref a ∧ DPut H3 a y v H4 ∧ n σ H4) : sDPut td ty tv ⟨n, r, b, c⟩ σ H := k
theorem dputT {a z : Addr} {m : List (Ast × V)} {p : Ast} {v : V} {P : Hp → Prop} (h : H a = some (.dT (eD m))) (hz : H z = some (.tup [.str p.1, .int p.2])) (hl : m.length < 100000) (k : P (upd H a (.dT (eD (putK m p v))))) : ∃ a' H4, V.ref a = .ref a' ∧ DPut H a' (.ref z) v H4 ∧ P H4 :=
  ⟨a, _, rfl, DPut.t (k := eK p) h hz (Rd.smallT (by unfold eD; rw [List.length_map]; exact hl)), by rw [putK_eD]; exact k⟩
theorem pair2 {z : Addr} {x y : V} {i j : Nat} {Qd : L2.St → Hp → Prop} (h : SqT K H z [x, y]) (k : Qd ((σ.set i (some x)).set j (some y)) H) : gTup K 2 (gCons (gName i) (gCons (gName j) gNil)) (.ref z) σ H Qd :=
  ⟨z, _, rfl, h, rfl, x, [y], rfl, y, [], rfl, rfl, k⟩
/-- for .. in a list or a tuple, by its name -/
theorem forLt {i₀ : Nat} {H0 : Hp} {a : Addr} {xs : List V} {g : TG} {tb : TS} (Pv : Nat → L2.St → Hp → Prop) (hv : σ[i₀]? = some (some (.ref a))) (h : SqL K H0 a xs ∨ SqT K H0 a xs) (e0 : Same H0 H) (h0 : Pv 0 σ H)
    (hl : ∀ i σ H', i ≤ xs.length → Pv i σ H' → Same H0 H') (hs : ∀ (i : Nat) (x : V) (σ' : L2.St) (H' : Hp), xs[i]? = some x → Pv i σ' H' → g x σ' H' fun σ2 H2 => tb ⟨Pv (i + 1), r, n, Pv (i + 1)⟩ σ2 H2)
    (hd : ∀ σ' H', Pv xs.length σ' H' → n σ' H') : tFor (iLt K (tVar i₀)) g tb ⟨n, r, b, c⟩ σ H := by
  rcases h with h | h
  · exact .inl ⟨.ref a, hv, a, rfl, ⟨_, e0.seq h⟩, for_list Pv h0 (fun i σ' H' hi p => (hl i σ' H' hi p).seq h) hs hd⟩
  · exact .inr ⟨.ref a, hv, a, rfl, ⟨_, Rd.same_tup e0 h⟩, for_tup Pv h0 (fun i σ' H' hi p => Rd.same_tup (hl i σ' H' hi p) h) hs hd⟩
theorem fld {f : Str} (k : ta σ H fun x H1 => ∃ a C dx fs v, x = .ref a ∧ H1 a = some (.ins C dx fs) ∧ Cls K C ∧ NoAttr K C f ∧ fs.lookup f = some v ∧ Q v H1) : tFld K ta f σ H Q := k
theorem sfld {f : Str} (k : tv σ H fun y H1 => ta σ H1 fun x H2 => ∃ a C dx fs, x = .ref a ∧ H2 a = some (.ins C dx fs) ∧ Cls K C ∧ NoAttr K C f ∧ fs.length < 1000 ∧ n σ (upd H2 a (.ins C dx (putF f y fs)))) : sFld K ta tv f ⟨n, r, b, c⟩ σ H := k
theorem dcT {wi : TI} {g : TG} {tt : TT} {tk : TE} {vs : List Nat} (k : wi σ H fun J H1 => DcJ g tt tk tv vs σ Q J H1) : tDcT wi g tt tk tv vs σ H Q := k
/-- a dict comprehension over a list with a test -/
theorem dcL {a : Addr} {xs : List V} {g : TG} {tt : TT} {tk : TE} {vs : List Nat} {H1 : Hp} (Pv : Addr → Nat → Hp → Prop) (h : SqL K H1 a xs) (h0 : ∀ D, H1 D = none → Pv D 0 (upd H1 D (.dT [])))
    (hl : ∀ D i H, i ≤ xs.length → Pv D i H → SqL K H a xs)
    (hs : ∀ D i x H, H1 D = none → xs[i]? = some x → Pv D i H → g x (wipe σ vs) H fun σ2 H2 => wipe σ2 vs = wipe σ vs ∧ tt σ2 H2 fun t H3 =>
      if t = true then tk σ2 H3 fun y H4 => tv σ2 H4 fun z H5 => ∃ kvs k b, y = .ref b ∧ H5 b = some (.tup (k.map kV)) ∧ H5 D = some (.dT kvs) ∧ kvs.length < sizeLine ∧ Pv D (i + 1) (upd H5 D (.dT (putK kvs k z))) else Pv D (i + 1) H3)
    (hd : ∀ D H, H1 D = none → Pv D xs.length H → Q (.ref D) H) : ∃ p, V.ref a = .ref p ∧ (∃ ys, SqL K H1 p ys) ∧ DcJ g tt tk tv vs σ Q (Itl K p) H1 := by
  refine ⟨a, rfl, ⟨_, h⟩, fun D hD => ⟨fun i m H => m = xs.length - i ∧ i ≤ xs.length ∧ Pv D i H, ⟨xs.length, by simp, Nat.zero_le _, h0 D hD⟩, ?_⟩⟩
  rintro i m H ⟨rfl, hi, p⟩
  have q := hl D i H hi p
  by_cases hlt : i < xs.length
  · refine .inr ⟨⟨xs, xs[i], q, by simp [hlt]⟩, Pv D (i + 1), fun H' p' => ⟨xs.length - (i + 1), by omega, rfl, hlt, p'⟩, fun x H' y => ?_⟩
    obtain ⟨e, y⟩ := y
    subst e
    exact hs D i x _ hD (y xs q) p
  · have e : i = xs.length := by omega
    subst e
    exact .inl ⟨⟨xs, q, Nat.le_refl _⟩, hd D H hD p⟩
end
end Rb
namespace Bd
open PySem PySem.Spec PyProof.Rows L2
theorem nfOf_yes {R : List (Ast × Int)} {S : List Ast} {p : Ast} (h : tot R p ≠ 0) : nfOf R (S ++ [p]) = nfOf R S ++ [(p, tot R p)] := by
  unfold nfOf
  have e : List.filter (fun p => decide (tot R p ≠ 0)) [p] = [p] := by simp [h]
  rw [List.filter_append, List.map_append, e]
  rfl
theorem nfOf_no {R : List (Ast × Int)} {S : List Ast} {p : Ast} (h : tot R p = 0) : nfOf R (S ++ [p]) = nfOf R S := by
  unfold nfOf
  have e : List.filter (fun p => decide (tot R p ≠ 0)) [p] = [] := by simp [h]
  rw [List.filter_append, List.map_append, e]
  simp
theorem nfOf_mem {R : List (Ast × Int)} {S : List Ast} {p : Ast} (h : p ∈ (nfOf R S).map (·.1)) : p ∈ S := by
  obtain ⟨e, he, rfl⟩ := List.mem_map.mp h
  obtain ⟨q, hq, rfl⟩ := List.mem_map.mp he
  exact (List.mem_filter.mp hq).1
theorem nfOf_len (R : List (Ast × Int)) (S : List Ast) : (nfOf R S).length ≤ S.length := by
  unfold nfOf; rw [List.length_map]; exact List.length_filter_le _ _
/-- the next asset in order is put behind -/
theorem put_nf {R : List (Ast × Int)} {S : List Ast} {p : Ast} (h : tot R p ≠ 0) (hp : p ∉ S) : putK ((nfOf R S).map fun e => (e.1, V.int e.2)) p (.int (tot R p)) = (nfOf R (S ++ [p])).map fun e => (e.1, V.int e.2) := by
  rw [putK_new, nfOf_yes h, List.map_append]
  · rfl
  · cases q : valV ((nfOf R S).map fun e => (e.1, V.int e.2)) p with
    | none => rfl
    | some v =>
      have : p ∈ ((nfOf R S).map fun e => (e.1, V.int e.2)).map (·.1) := valV_key.mp (by rw [q]; rfl)
      rw [List.map_map] at this
      exact absurd (nfOf_mem this) hp
end Bd
namespace Rb
open PySem PySem.Spec PyProof.Rows L2 Bd
section
variable {K : PySem.W.Frag} {σ : L2.St} {H : Hp} {Q : VK} {E : XK}
theorem make {C : Addr} {sp : Sp} {dvs : List V} {t : TA} (k : t σ H fun vs H1 => ∀ x dx, H1 x = none → H1 dx = none → dx ≠ x → sp (.ref x :: (vs ++ dvs)) (upd (upd H1 dx (.own x)) x (.ins C dx [])) (fun v H2 => v = .non ∧ Q (.ref x) H2) E) : tMake C sp dvs E t σ H Q := k
theorem catA {a b : Addr} {xs ys : List V} (ha : SqT K H a xs) (hb : SqT K H b ys) (hl : xs.length + ys.length ≤ 100000) (k : ∀ p H', Same H H' → SqT K H' p (xs ++ ys) → Q (.ref p) H') : rCatA K (.ref a) (.ref b) H Q :=
  ⟨a, b, xs, ys, rfl, rfl, ha, hb, Rd.small hl, fun e => k b H (Same.refl H) (by rw [e]; exact hb), fun _ e => k a H (Same.refl H) (by rw [e, List.append_nil]; exact ha), fun _ _ p hp => k p _ (Rd.same_new hp) Rd.slT⟩
theorem own2 {C a b : Addr} {sp : Sp} (ha : ∃ dx fs, H a = some (.ins C dx fs)) (hb : ∃ dx fs, H b = some (.ins C dx fs)) (k : sp [.ref a, .ref b] H Q E) : rOwn2 C sp E (.ref a) (.ref b) H Q := by
  obtain ⟨dx, fs, ha⟩ := ha
  obtain ⟨dy, gs, hb⟩ := hb
  exact ⟨a, b, dx, dy, fs, gs, rfl, rfl, ha, hb, k⟩
theorem own1 {C a : Addr} {sp : Sp} (ha : ∃ dx fs, H a = some (.ins C dx fs)) (k : sp [.ref a] H Q E) : rOwn1 C sp E (.ref a) H Q := by
  obtain ⟨dx, fs, ha⟩ := ha
  exact ⟨a, dx, fs, rfl, ha, k⟩
theorem insOf {b : Addr} {N : List (Ast × Int)} (h : BdAt K H b N) : ∃ dx fs, H b = some (.ins (He.ga K "Bundle") dx fs) := by
  obtain ⟨dx, r, d, xs, h1, _⟩ := h
  exact ⟨dx, _, h1⟩
/-- b.rows where b's value is already there -/
theorem rowsP {P : V → Prop} {mg : Str → Option Value} {b : Addr} {N : List (Ast × Int)} (Bf : BFacts K mg) (h : BdAt K H b N) (k : ∀ r xs, H r = some (.tup xs) → RowL H xs N → P (.ref r)) :
    ∃ a C dx fs v, V.ref b = .ref a ∧ H a = some (.ins C dx fs) ∧ Cls K C ∧ NoAttr K C ("rows" : Str) ∧ fs.lookup ("rows" : Str) = some v ∧ P v := by
  obtain ⟨dx, r, d, xs, h1, h2, h3, h4, _⟩ := h
  exact ⟨b, _, dx, _, .ref r, rfl, h1, Bf.cls, Bf.n1, rfl, k r xs h2 h3⟩
end
end Rb
namespace Rb
open PySem PySem.Spec PyProof.Rows L2 Bd
section
variable {K : PySem.W.Frag} {σ : L2.St} {H : Hp} {Q : VK}
/-- [.. for target in a tuple] without a test -/
theorem lcT {a : Addr} {xs : List V} {g : TG} {te : TE} {vs : List Nat} (Pv : Addr → Nat → List V → Hp → Prop) (h : SqT K H a xs) (h0 : ∀ D H', H D = none → Same H H' → H' D = some (.lst []) → Pv D 0 [] H')
    (hs : ∀ (i : Nat) (x : V) (acc : List V) (D : Addr) (H' : Hp), H D = none → Same H H' → xs[i]? = some x → acc.length = i → H' D = some (.lst acc) → Pv D i acc H' → g x (wipe σ vs) H' fun σ2 H2 => wipe σ2 vs = wipe σ vs ∧ te σ2 H2 (Rd.LcE H D i Pv))
    (hd : ∀ D acc H', H D = none → Same H H' → H' D = some (.lst acc) → acc.length = xs.length → Pv D xs.length acc H' → Q (.ref D) H') :
    ∃ p, V.ref a = .ref p ∧ (∃ ys, SqT K H p ys) ∧ Rd.LcJ g tYes te vs σ Q (Itt K p) H := by
  refine ⟨a, rfl, ⟨_, h⟩, fun D hD => ?_⟩
  refine lc_tup (xs := xs) (fun i H' => ∃ acc, Same H H' ∧ acc.length = i ∧ H' D = some (.lst acc) ∧ Pv D i acc H') ⟨[], Rd.same_new hD, rfl, upd_same, h0 D _ hD (Rd.same_new hD) upd_same⟩ (fun i H' _ ⟨acc, s, _⟩ => Rd.same_tup s h) ?_ ?_
  · rintro i x H' hi ⟨acc, s, e, hD', p⟩
    exact hs i x acc D H' hD s hi e hD' p
  · rintro H' ⟨acc, s, e, hD', p⟩
    exact hd D acc H' hD s hD' e p
theorem lcL2 {a : Addr} {xs : List V} {g : TG} {te : TE} {vs : List Nat} (Pv : Addr → Nat → List V → Hp → Prop) (h : SqL K H a xs) (h0 : ∀ D H', H D = none → Same H H' → H' D = some (.lst []) → Pv D 0 [] H')
    (hs : ∀ (i : Nat) (x : V) (acc : List V) (D : Addr) (H' : Hp), H D = none → Same H H' → xs[i]? = some x → acc.length = i → H' D = some (.lst acc) → Pv D i acc H' → g x (wipe σ vs) H' fun σ2 H2 => wipe σ2 vs = wipe σ vs ∧ te σ2 H2 (Rd.LcE H D i Pv))
    (hd : ∀ D acc H', H D = none → Same H H' → H' D = some (.lst acc) → acc.length = xs.length → Pv D xs.length acc H' → Q (.ref D) H') :
    ∃ p, V.ref a = .ref p ∧ (∃ ys, SqL K H p ys) ∧ Rd.LcJ g tYes te vs σ Q (Itl K p) H := by
  refine ⟨a, rfl, ⟨_, h⟩, fun D hD => ?_⟩
  refine lc_list (xs := xs) (fun i H' => ∃ acc, Same H H' ∧ acc.length = i ∧ H' D = some (.lst acc) ∧ Pv D i acc H') ⟨[], Rd.same_new hD, rfl, upd_same, h0 D _ hD (Rd.same_new hD) upd_same⟩ (fun i H' _ ⟨acc, s, _⟩ => s.seq h) ?_ ?_
  · rintro i x H' hi ⟨acc, s, e, hD', p⟩
    exact hs i x acc D H' hD s hi e hD' p
  · rintro H' ⟨acc, s, e, hD', p⟩
    exact hd D acc H' hD s hD' e p
end
end Rb
namespace Bd
open PySem PySem.Spec PyProof.Rows L2
section
variable {X : Cx}
/-- sorted(xs), xs a list of assets -/
def rSortedSI (K : PySem.W.Frag) : List V → Hp → VK → Prop := fun xs H Q => ∃ (a : Addr) (ps0 : List (Addr × (Str × Int))), xs = [.ref a] ∧ SqL K H a (ps0.map fun z => V.ref z.1) ∧ AsAt H ps0 ∧
  ∀ (ps : List (Addr × (Str × Int))) (p : Addr), ps.Perm ps0 → SrtO.Srtd ltSI (ps.map (·.2)) → H p = none → Q (.ref p) (upd H p (.lst (ps.map fun z => V.ref z.1)))
theorem cr_sortedSI : CallR X (.builtin "sorted") (rSortedSI X.K) := by
  intro pins s σ H xs us Q I r q
  obtain ⟨a, ps0, rfl, hs, hA, q⟩ := q
  obtain ⟨its, rv, hl, hz⟩ := I.list hs
  obtain ⟨u, rfl, ru⟩ := vals1 r
  obtain rfl : u = Value.ref a := ru
  have eb : its = ps0.map fun z => Value.ref z.1 := by
    have h1 : ∀ {ps : List (Addr × (Str × Int))} {us : List Value}, Vals (ps.map fun z => V.ref z.1) us → us = ps.map fun z => Value.ref z.1 := by
      intro ps
      induction ps with
      | nil => intro us h; cases h; rfl
      | cons z ps ih =>
        intro us h
        rw [List.map_cons] at h
        cases h with
        | cons h t => rw [ih t, List.map_cons, show _ = Value.ref z.1 from h]
    exact h1 rv
  have hsi : ∀ v ∈ its, IsSI s.heap v (siOf s.heap v) := fun v hv => by
    rw [eb] at hv
    obtain ⟨zz, hz, rfl⟩ := List.mem_map.mp hv
    have q := isSI_of I.hok (hA zz hz)
    rw [q.of]; exact q
  refine SrtO.sorted_ord (ltv := fun v u => ltSI (siOf s.heap v) (siOf s.heap u)) (swo_SI (siOf s.heap)) hl.isList (by rw [← rv.length]; exact hz) (fun h2 h₁ a' ha' kk => ?_) fun out h1 h2 => ?_
  · refine si_sortable (s := { s with heap := h₁ }) (by omega) (fun v hm => (hsi v hm).keeps fun b o e _ => (kk b o e).2) fun o e => ?_
    have e' : some o = some (seqObj "list" its.toArray 0) := e.symm.trans ha'
    cases e'
    intro c
    exact absurd (Value.type.inj c) (by decide)
  · obtain ⟨ps, b1, b2⟩ := perm_lift (fun z : Addr × (Str × Int) => Value.ref z.1) h2.perm ps0 eb.symm
    have hk2 : ∀ z ∈ ps, siOf s.heap (Value.ref z.1) = z.2 := fun z hz => (isSI_of I.hok (hA z (b1.mem_iff.mp hz))).of
    have hsr : SrtO.Srtd ltSI (ps.map (·.2)) := by
      rw [← b2] at h1
      have h1' := List.pairwise_map.mp h1
      refine List.pairwise_map.mpr (h1'.imp_of_mem fun {x y} hx hy hh => ?_)
      have hh' : ltSI (siOf s.heap (Value.ref y.1)) (siOf s.heap (Value.ref x.1)) = false := hh
      rw [hk2 x hx, hk2 y hy] at hh'
      exact hh'
    have hd : s.heap.objs.size ≤ s.heap.objs.size + 1 := Nat.le_succ _
    obtain ⟨n, hn⟩ := sortedAll_at s.heap its out.toArray
    refine ⟨.ref (s.heap.objs.size + 1), upd H (s.heap.objs.size + 1) (.lst (ps.map fun z => V.ref z.1)), I.laid (t' := s.toks) (fun b o e => sortedAll_old e) hd ⟨?_, out, n, ?_, hn⟩, rfl, q ps _ b1 hsr (I.hok.fresh hd)⟩
    · rw [List.length_map] at hz ⊢; rw [b1.length_eq]; exact hz
    · rw [← b2]
      have := vals_refs (ps.map (·.1))
      rw [List.map_map, List.map_map] at this
      exact this
end
end Bd
namespace Rb
open PySem PySem.Spec PyProof.Rows L2 Bd
section
variable {X : Cx} {K : PySem.W.Frag}
theorem ix_listK (h : X.K = K) : IxR X (rIxL K) := h ▸ ix_list
theorem ix_tupK (h : X.K = K) : IxR X (rIxT K) := h ▸ ix_tup
theorem op_eqDK (h : X.K = K) (hu : X.A.units + 64 < cLine) : OpR X (compareOp .Eq) (rEqD K) := h ▸ op_eqD hu
end
end Rb
namespace Rb
theorem units65 {k : Nat} {A : PySem.Around} (hr : L2.Room k A) : A.units + 65 < PySem.cLine := by have := hr.un; omega
end Rb
namespace Bd
open PySem PySem.Spec PyProof.Rows L2
theorem encR_eqv (e : Ast × Int) : PyData.eqv (encR e) (encR e) = true := by simp [encR, PyData.eqv, PyData.eqvAll]
theorem encR_eqvAll : ∀ N : List (Ast × Int), PyData.eqvAll (N.map encR) (N.map encR) = true
  | [] => by simp [PyData.eqvAll]
  | e :: N => by simp [PyData.eqvAll, encR_eqv e, encR_eqvAll N]
def OkA (p : Ast) : Prop := PyData.strOk p.1 = true
def OkR (R : List (Ast × Int)) : Prop := ∀ e ∈ R, OkA e.1
theorem strOk_S {l : List Nat} (h : ∀ c ∈ l, c < 1114112) : PyData.strOk (Rd.S l) = true := by
  unfold PyData.strOk Rd.S
  simpa using h
theorem strOk_app {x y : Str} (h1 : PyData.strOk x = true) (h2 : PyData.strOk y = true) : PyData.strOk (x ++ y) = true := by
  rw [Rd.S_of x] at h1 ⊢
  rw [Rd.S_of y] at h2 ⊢
  rw [Rd.S_app]
  unfold PyData.strOk Rd.S at *
  simp only [List.all_toArray, List.all_append, Bool.and_eq_true] at *
  exact ⟨h1, h2⟩
theorem OkR.of_tot {R N : List (Ast × Int)} (h : OkR R) (hn : Nrm N) (ht : ∀ p, tot N p = tot R p) : OkR N := fun e he => by
  have h1 : e.1 ∈ R.map (·.1) := by
    rcases Classical.em (e.1 ∈ R.map (·.1)) with z | z
    · exact z
    · have := tot_at hn.nd he
      rw [ht, tot_none z] at this
      exact absurd this.symm (hn.nz e he)
  obtain ⟨f, hf, ef⟩ := List.mem_map.mp h1
  rw [← ef]; exact h f hf
theorem encR_lay : ∀ N : List (Ast × Int), OkR N → PyData.canLayAll0 (N.map encR) = true
  | [], _ => by simp [PyData.canLayAll0]
  | e :: N, h => by
    have h1 : PyData.strOk e.1.1 = true := h e (List.mem_cons_self ..)
    simp [PyData.canLayAll0, PyData.canLay0, encR, encR_lay N fun x hx => h x (List.mem_cons_of_mem _ hx), h1]
theorem encR_depth : ∀ N : List (Ast × Int), PyData.depthAll (N.map encR) ≤ 2
  | [] => by simp [PyData.depthAll]
  | e :: N => by
    have := encR_depth N
    simp only [List.map_cons, PyData.depthAll]
    refine Nat.max_le.mpr ⟨?_, this⟩
    simp [encR, PyData.depth, PyData.depthAll]
theorem encR_shaped {N : List (Ast × Int)} (h : OkR N) : SeqAt.shaped (.tuple (N.map encR)) = true := by
  have := encR_depth N
  unfold SeqAt.shaped
  simp only [PyData.canLay0, encR_lay N h, PyData.depth, Bool.true_and]
  exact decide_eq_true (by omega)
def encA (p : Ast) : PyData := .tuple [.str p.1, .int p.2]
theorem encA_eqv (p q : Ast) : PyData.eqv (encA p) (encA q) = decide (p = q) := by
  have : (p = q) ↔ (p.1 = q.1 ∧ p.2 = q.2) := ⟨fun h => by rw [h]; exact ⟨rfl, rfl⟩, fun h => Prod.ext h.1 h.2⟩
  simp only [encA, PyData.eqv, PyData.eqvAll, Bool.and_true]
  rw [Bool.eq_iff_iff]
  simp [this]
theorem encA_shaped {p : Ast} (h : OkA p) : SeqAt.shaped (encA p) = true := by
  have h' : PyData.strOk p.1 = true := h
  unfold SeqAt.shaped
  simp [encA, PyData.canLay0, PyData.canLayAll0, PyData.depth, PyData.depthAll, h']
theorem encA_lay : ∀ N : List Ast, (∀ p ∈ N, OkA p) → PyData.canLayAll0 (N.map encA) = true
  | [], _ => by simp [PyData.canLayAll0]
  | e :: N, h => by
    have h1 : PyData.strOk e.1 = true := h e (List.mem_cons_self ..)
    simp [PyData.canLayAll0, PyData.canLay0, encA, encA_lay N fun x hx => h x (List.mem_cons_of_mem _ hx), h1]
theorem encA_depth : ∀ N : List Ast, PyData.depthAll (N.map encA) ≤ 1
  | [] => by simp [PyData.depthAll]
  | e :: N => by
    have := encA_depth N
    simp only [List.map_cons, PyData.depthAll]
    refine Nat.max_le.mpr ⟨?_, this⟩
    simp [encA, PyData.depth, PyData.depthAll]
theorem encAs_shaped {N : List Ast} (h : ∀ p ∈ N, OkA p) : SeqAt.shaped (.list (N.map encA)) = true := by
  have := encA_depth N
  unfold SeqAt.shaped
  simp only [PyData.canLay0, encA_lay N h, PyData.depth, Bool.true_and]
  exact decide_eq_true (by omega)
theorem encA_any (N : List Ast) (p : Ast) : ((N.map encA).any fun z => PyData.eqv z (encA p)) = decide (p ∈ N) := by
  induction N with
  | nil => rfl
  | cons e N ih =>
    rw [List.map_cons, List.any_cons, ih, encA_eqv]
    by_cases h : e = p
    · subst h
      rw [decide_eq_true rfl, Bool.true_or]
      exact (decide_eq_true (List.mem_cons_self ..)).symm
    · rw [decide_eq_false h, Bool.false_or]
      by_cases y : p ∈ N
      · rw [decide_eq_true y, decide_eq_true (List.mem_cons_of_mem _ y)]
      · rw [decide_eq_false y, decide_eq_false fun z => (List.mem_cons.mp z).elim (fun q => h q.symm) y]
theorem asAt_dp {K : PySem.W.Frag} {H : Hp} : ∀ {ps : List (Addr × Ast)}, AsAt H ps → DpAll K H (ps.map fun z => V.ref z.1) ((ps.map (·.2)).map encA)
  | [], _ => .nil
  | z :: ps, h => .cons (.tup (SqT.of (h z (List.mem_cons_self ..))) (.cons (.str _) (.cons (.int _) .nil))) (asAt_dp fun y hy => h y (List.mem_cons_of_mem _ hy))
end Bd
namespace Bd
open PySem PySem.Spec PyProof.Rows L2
theorem tot_take {R : List (Ast × Int)} {i : Nat} {p' : Ast} {q : Int} (h : R[i]? = some (p', q)) (p : Ast) : tot (R.take (i + 1)) p = tot (R.take i) p + (if p' = p then q else 0) := by
  rw [List.take_add_one, h, tot_append]
  simp [tot]
end Bd
namespace Rb
open PySem PySem.Spec PyProof.Rows L2 Bd
section
variable {K : PySem.W.Frag} {σ : L2.St} {H : Hp} {Q : VK}
/-- [q for row in rows if row[0] == asset]: the quantities of one asset -/
theorem lcTest {a : Addr} {xs : List V} {g : TG} {tt : TT} {te : TE} {vs : List Nat} (Pv : Nat → List Int → Prop) (h : SqL K H a xs) (hz : xs.length ≤ 100000) (h0 : Pv 0 [])
    (hs : ∀ (i : Nat) (x : V) (qs : List Int) (D : Addr) (H' : Hp) (R : Hp → Prop), H D = none → Same H H' → xs[i]? = some x → qs.length ≤ i → H' D = some (.lst (qs.map V.int)) → Pv i qs → (∀ q, Pv (i + 1) (qs ++ [q]) → R (upd H' D (.lst (qs.map V.int ++ [.int q])))) → (Pv (i + 1) qs → R H') →
      g x (wipe σ vs) H' fun σ2 H2 => wipe σ2 vs = wipe σ vs ∧ tt σ2 H2 fun b H3 => if b = true then te σ2 H3 fun y H4 => ∃ acc, H4 D = some (.lst acc) ∧ acc.length < sizeLine ∧ R (upd H4 D (.lst (acc ++ [y]))) else R H3)
    (hd : ∀ D qs H', H D = none → Same H H' → H' D = some (.lst (qs.map V.int)) → Pv xs.length qs → Q (.ref D) H') :
    ∃ p, V.ref a = .ref p ∧ (∃ ys, SqL K H p ys) ∧ Rd.LcJ g tt te vs σ Q (Itl K p) H := by
  refine ⟨a, rfl, ⟨_, h⟩, fun D hD => ?_⟩
  refine lc_list (xs := xs) (fun i H' => ∃ qs : List Int, Same H H' ∧ qs.length ≤ i ∧ H' D = some (.lst (qs.map V.int)) ∧ Pv i qs) ⟨[], Rd.same_new hD, Nat.le_refl _, upd_same, h0⟩ (fun i H' _ ⟨_, s, _⟩ => s.seq h) ?_ ?_
  · rintro i x H' hi ⟨qs, s, e, hD', p⟩
    refine hs i x qs D H' _ hD s hi e hD' p (fun q pq => ⟨qs ++ [q], Rd.same_mut s hD, by rw [List.length_append]; simp; omega, by rw [upd_same, List.map_append]; rfl, pq⟩) fun p' => ⟨qs, s, by omega, hD', p'⟩
  · rintro H' ⟨qs, s, e, hD', p⟩
    exact hd D qs H' hD s hD' p
end
end Rb
namespace Bd
open PySem PySem.Spec PyProof.Rows L2
theorem nd_len : ∀ {A B : List Ast}, A.Nodup → (∀ x ∈ A, x ∈ B) → A.length ≤ B.length
  | [], _, _, _ => Nat.zero_le _
  | a :: A, B, h, s => by
    rw [List.nodup_cons] at h
    have ha := s a (List.mem_cons_self ..)
    have h2 := nd_len (A := A) (B := B.erase a) h.2 fun x hx => (List.mem_erase_of_ne fun e => h.1 (by rw [← e]; exact hx)).mpr (s x (List.mem_cons_of_mem _ hx))
    have h3 := List.length_erase_of_mem ha
    have h4 : 0 < B.length := List.length_pos_of_mem ha
    rw [List.length_cons]
    omega
theorem Nrm.len {N R : List (Ast × Int)} (h : Nrm N) (ht : ∀ p, tot N p = tot R p) : N.length ≤ R.length := by
  have := nd_len h.nd (B := R.map (·.1)) fun x hx => by
    rcases Classical.em (x ∈ R.map (·.1)) with z | z
    · exact z
    · exact absurd (by rw [ht, tot_none z]) ((h.key x).mp hx)
  simpa using this
theorem OkR.append {R S : List (Ast × Int)} (h : OkR R) (k : OkR S) : OkR (R ++ S) := fun e he => (List.mem_append.mp he).elim (h e) (k e)
theorem OkR.neg {R : List (Ast × Int)} (h : OkR R) : OkR (R.map fun e => (e.1, -e.2)) := fun e he => by
  obtain ⟨f, hf, rfl⟩ := List.mem_map.mp he
  exact h f hf
end Bd

set_option Elab.async false
set_option linter.all false
set_option maxRecDepth 100000
set_option maxHeartbeats 4000000
/-! x != y by the object's own __ne__, which asks an own __eq__. -/
namespace Bd
open PySem PySem.W PySem.Calls PyProof.Rows
section
variable {prog : Program} {w : World} {A : Around} {E : Value → Shared → Prop} {s : Shared} {K : Frag} {x y C L f : Addr} {h₀ : Heap} {m : Str → Option Value} {ox oy : Obj} {od od' : Option Obj}
theorem ne_check {M : Model} {rest : List Value} {Q : Unit → Shared → Prop} (X : K.In s.heap) (I : InstAt s.heap x ox C od) (hso : subIn K (.ref C) (.type "object") = some true) (ha : argsOk "object.__ne__" ⟨.ref x :: rest, []⟩) (hq : Q () s) :
    wpAny M A (checkBuiltinCall "object.__ne__" ⟨.ref x :: rest, []⟩) Q E s := by
  simp only [checkBuiltinCall, PySem.F.cmpKind_ne, PySem.F.cmpSplit_ne]
  refine wpAny_bind ?_
  unfold isInstance
  refine wpAny_bind (I.type.here ?_)
  refine (looks_subIn X hso).here ?_
  cases hsig : Manifest.signature? "object.__ne__" with
  | none => 
    repeat (first | exact hq | wp_step)
  | some sig =>
    simp only [argsOk, hsig] at ha
    have h2 : Bind.checkArgs "object.__ne__" sig ⟨.ref x :: rest, []⟩ = pure () := ha
    simp only [if_true]
    rw [h2]
    repeat (first | exact hq | exact wpAny_pure hq | wp_step)
theorem ne_entry {Q : Fin → Shared → Prop} (X : K.In s.heap) (I : InstAt s.heap x ox C od) (hu : A.units < cLine) (hs : findIn K (.ref C) "__eq__" = some (some (.ref f))) (hf : isFn K (.ref f) = true)
    (hcall : wpAny (model prog w) A (call (.ref f) [.ref x, .ref y]) (fun v s' => ∃ b, v = .bool b ∧ Q (.done (.ret (.bool (!b)))) s') E s) :
    wpAny (model prog w) A (Builtin.«object.__ne__» ⟨[.ref x, .ref y], []⟩) Q E s := by
  unfold Builtin.«object.__ne__»
  repeat (first
    | with_reducible refine wpAny_cRoomFor hu ?_
    | (refine wpAny_bind (m := callSpecialIfBound? (.ref x) (Str.ofString "__eq__") [.ref y])
        (ifBound_K X I hs hf (wpAny_mono hcall (fun r s' hr => by
          obtain ⟨b, rfl, hq⟩ := hr
          repeat (first | exact hq | exact wpAny_pure hq | exact wpAny_truthy_bool hq | (refine wpAny_bind (m := truthy (.bool _)) (wpAny_truthy_bool ?_)) | wp_step)) fun _ _ e => e)))
    | wp_step)
theorem ne_K {Q : Value → Shared → Prop} (hu : A.units + 1 < cLine) (F : Fr h₀ L s.heap m) (X₀ : K.In h₀) (I : InstAt s.heap x ox C od) (J : InstAt s.heap y oy C od')
    (hne : findIn K (.ref C) "__ne__" = some (some (.builtin "object.__ne__"))) (hso : subIn K (.ref C) (.type "object") = some true)
    (hs : findIn K (.ref C) "__eq__" = some (some (.ref f))) (hf : isFn K (.ref f) = true)
    (h : wpAny (model prog w) A.in1 (call (.ref f) [.ref x, .ref y]) (fun v s' => ∃ b, v = .bool b ∧ Q (.bool (!b)) s') E s) :
    wpAny (model prog w) A (richCompare .NotEq (.ref x) (.ref y)) Q E s := by
  have X := X₀.keeps F.keep
  have bd : bindSpecial (.builtin "object.__ne__") (.ref x) = pure (.builtin "object.__ne__", [.ref x]) := PySem.F.cmp_object.ne.bind _
  have cl : wpAny (model prog w) A (call (.builtin "object.__ne__") [.ref x, .ref y]) (fun v s' => ∃ b, v = .bool b ∧ Q (.bool b) s') E s := by
    refine wpAny_call (codeAny_call_builtin PySem.F.cmp_object.ne.plain PySem.F.cmpEntry_ne (ne_check X I hso (PySem.F.cmpArgs_ne _ _) (ne_entry (A := A.in1) X I hu hs hf (wpAny_mono h (fun v s' hv => ?_) fun _ _ e => e))))
    obtain ⟨b, rfl, hq⟩ := hv
    exact ⟨b, rfl, _, rfl, hq⟩
  have one : wpAny (model prog w) A (tryCompare (.ref x) "__ne__" (.ref y)) (fun r s' => ∃ v, r = some v ∧ Q v s') E s := by
    unfold tryCompare
    refine wpAny_bind (Q := _) ?_
    simp only [callSpecialIfBound?, bindSpecialIfBound?]
    refine wpAny_holding (wpAny_bind (wpAny_bind (wpAny_bind (I.type.here ((looks_findIn X hne).here ?_)))))
    simp only [bd]
    refine wpAny_bind (wpAny_askSetting (wpAny_ite ?_))
    have fin : wpAny (model prog w) A (call (.builtin "object.__ne__") ([.ref x] ++ [.ref y]) >>= fun v => pure (some v)) (fun r s' => wpAny (model prog w) A (match r with | some .notImplemented | none => pure none | some r => pure (some r)) (fun r s' => ∃ v, r = some v ∧ Q v s') E s') E s :=
      wpAny_bind (wpAny_mono cl (fun v s' h' => by
        obtain ⟨b, rfl, hq⟩ := h'
        exact wpAny_pure (wpAny_pure ⟨_, rfl, hq⟩)) fun _ _ h' => h')
    split
    · exact wpAny_bind (wpAny_pure (wpAny_pure fin))
    · exact wpAny_tryCatch (wpAny_bind (wpAny_pure (wpAny_pure fin)))
  unfold richCompare
  simp only [oneThing_ref]
  refine wpAny_holding (wpAny_bind (wpAny_cRoomFor (Nat.lt_of_succ_lt hu) ?_))
  rw [cmpInfo_NotEq]
  dsimp only
  refine wpAny_bind (I.type.here (wpAny_bind (J.type.here ?_)))
  rw [show (Value.ref C != Value.ref C) = false from by simp]
  simp only [Bool.false_eq_true, if_false]
  refine wpAny_bind (wpAny_pure ?_)
  simp only [Bool.false_eq_true, if_false]
  refine wpAny_bind (wpAny_mono one (fun r s' z => ?_) fun _ _ e => e)
  obtain ⟨v, rfl, hq⟩ := z
  exact wpAny_pure hq
end
end Bd
namespace Bd
open PySem PySem.Spec PyProof.Rows L2
section
variable {X : Cx} {pins : List (Addr × Obj)} {σ : L2.St} {H : Hp} {s : Shared} {CT : CXT} {n : Nat} {C f : Addr} {fd : FuncData} {ps : List Str} {sp : Sp} {E : XK}
theorem call_def1 {vs : List V} {us : List Value} {Q : VK} (F : FnOk X.prog X.w X.K X.mg X.base CT n f fd ps sp) (hb : Binds X.K fd ps []) (hx : Passes CT X E) (hr : Room n X.A.in1) (I : Inv X pins σ H s) (r : Vals vs us) (hsp : sp vs H Q E) :
    wpAny (model X.prog X.w) X.A.in1 (call (.ref f) us) (EP X pins σ Q) X.xe s := by
  have hl := F.len _ _ _ _ hsp
  have hu : us.length = ps.length := by rw [← r.length]; exact hl
  refine wpAny_call (codeAny_mono (F.run X.A.in1 X.stack s H ⟨us, []⟩ us vs Q E hr I.env0.in1 (by
    have := hb s us I.kIn (by simpa using hu)
    simpa using this) r hsp) fun z s' hq => ?_)
  cases z with
  | error e => exact hx pins σ H s e s' I hq
  | ok fl =>
    cases fl with
    | ret w => exact I.after hq
    | next => exact False.elim hq
    | brk => exact False.elim hq
    | cont => exact False.elim hq
/-- x != y, both of the class at C -/
def rNeOwn (C : Addr) (sp : Sp) (E : XK) : R2 := fun x y H Q => ∃ a b dx dy fs gs, x = .ref a ∧ y = .ref b ∧ H a = some (.ins C dx fs) ∧ H b = some (.ins C dy gs) ∧ sp [.ref a, .ref b] H (fun v H' => ∃ t, v = .bl t ∧ Q (.bl (!t)) H') E
theorem op_neOwn (F : FnOk X.prog X.w X.K X.mg X.base CT n f fd ps sp) (hne : PySem.W.findIn X.K (.ref C) "__ne__" = some (some (.builtin "object.__ne__"))) (hso : PySem.W.subIn X.K (.ref C) (.type "object") = some true)
    (hs : PySem.W.findIn X.K (.ref C) "__eq__" = some (some (.ref f))) (hf : PySem.W.isFn X.K (.ref f) = true)
    (hb : Binds X.K fd ps []) (hx : Passes CT X E) (hr : Room (n + 1) X.A) : OpR X (compareOp .NotEq) (rNeOwn C sp E) := by
  intro pins s σ H x y v u Q I rx ry h
  obtain ⟨a, b, dx, dy, fs, gs, rfl, rfl, ha, hb', hsp⟩ := h
  obtain rfl : v = Value.ref a := rx
  obtain rfl : u = Value.ref b := ry
  obtain ⟨mA, J, _⟩ := ins_get I.hok ha
  obtain ⟨mB, J', _⟩ := ins_get I.hok hb'
  obtain ⟨od, J, _⟩ := J.look
  obtain ⟨od', J', _⟩ := J'.look
  obtain ⟨m, hF⟩ := I.fr
  show wpAny (model X.prog X.w) X.A (richCompare .NotEq (.ref a) (.ref b)) _ _ _
  refine ne_K (by have := hr.un; omega) hF I.ok.mod.kin J J' hne hso hs hf ?_
  refine wpAny_mono (call_def1 F hb hx hr.in1 I (vs := [.ref a, .ref b]) (.cons rfl (.cons rfl .nil)) hsp) (fun z s' q => ?_) fun _ _ e => e
  obtain ⟨v, H', I', r, t, rfl, q⟩ := q
  exact ⟨t, r, .bl (!t), H', I', rfl, q⟩
end
end Bd
namespace Rb
open PySem PySem.Spec PyProof.Rows L2 Bd
section
variable {K : PySem.W.Frag} {H : Hp} {Q : VK} {E : XK}
theorem own3 {C a b : Addr} {sp : Sp} (ha : ∃ dx fs, H a = some (.ins C dx fs)) (hb : ∃ dx fs, H b = some (.ins C dx fs)) (k : sp [.ref a, .ref b] H (fun v H' => ∃ t, v = .bl t ∧ Q (.bl (!t)) H') E) : rNeOwn C sp E (.ref a) (.ref b) H Q := by
  obtain ⟨dx, fs, ha⟩ := ha
  obtain ⟨dy, gs, hb⟩ := hb
  exact ⟨a, b, dx, dy, fs, gs, rfl, rfl, ha, hb, k⟩
end
end Rb
namespace Bd
open PySem PySem.Spec PyProof.Rows L2
/-- an empty tuple that stands with the classes -/
def emptyT (K : PySem.W.Frag) (a : Addr) : Bool := match K.lookup a with
  | some o => decide (o.cls = .type "tuple") && (o.dict.isNone && (match o.data with
    | .seq its _ => its.isEmpty
    | _ => false))
  | none => false
theorem emptyT_ok {K : PySem.W.Frag} {a : Addr} (h : emptyT K a = true) (H : Hp) : SqT K H a [] := by
  unfold emptyT at h
  split at h
  · rename_i o e
    rw [Bool.and_eq_true, Bool.and_eq_true] at h
    obtain ⟨h1, h2, h3⟩ := h
    split at h3
    · rename_i its n hd
      have e0 : its = #[] := by simpa using h3
      subst e0
      exact .inr ⟨o, #[], n, e, of_decide_eq_true h1, hd, by decide, .nil⟩
    · cases h3
  · cases h
def clsN : Str := "__class__"
def exE (K : PySem.W.Frag) (C : Addr) : Bool :=
  He.eqO (PySem.W.findIn K (.ref C) "__class__") (some (some (.builtin "object.__class__"))) &&
  (decide (PySem.W.specialIn K (.builtin "object.__class__") "__get__" = some (some (.builtin "getset_descriptor.__get__"))) &&
  (decide (PySem.W.takesIn K (.builtin "object.__class__") = some true) &&
  (decide (PySem.W.mroIn K C (.type "object") = some true) &&
  (decide (PySem.W.kitOne K (.ref C) (.ref C) = some true) &&
  (He.eqO (PySem.W.findIn K (.ref C) "__ne__") (some (some (.builtin "object.__ne__"))) &&
  (decide (PySem.W.subIn K (.ref C) (.type "object") = some true)))))))
/-- more of what is told of the class -/
structure BQ (K : PySem.W.Frag) (mg : Str → Option Value) : Prop where
  b : BFacts K mg
  isc : C8.InsC K (He.ga K "Bundle")
  ne : PySem.W.findIn K (.ref (He.ga K "Bundle")) "__ne__" = some (some (.builtin "object.__ne__"))
  ob : PySem.W.subIn K (.ref (He.ga K "Bundle")) (.type "object") = some true
  at_Bundle___eq : PySem.W.findIn K (.ref (He.ga K "Bundle")) "__eq__" = some (some (.ref (He.fAd K ("Bundle", some "__eq__"))))
  fn_Bundle___eq : PySem.W.isFn K (.ref (He.fAd K ("Bundle", some "__eq__"))) = true
  dfl : ∀ H, SqT K H (He.dflAt ("Bundle", some "__init__") 0 K) []
theorem BQ.mk' {K : PySem.W.Frag} {mg : Str → Option Value} (b : BFacts K mg) (h : exE K (He.ga K "Bundle") = true) (ha : PySem.W.findIn K (.ref (He.ga K "Bundle")) "__eq__" = some (some (.ref (He.fAd K ("Bundle", some "__eq__")))))
    (hf : PySem.W.isFn K (.ref (He.fAd K ("Bundle", some "__eq__"))) = true) (hd : emptyT K (He.dflAt ("Bundle", some "__init__") 0 K) = true) : BQ K mg := by
  unfold exE at h
  simp only [Bool.and_eq_true] at h
  obtain ⟨h1, h2, h3, h4, h5, h6, h7⟩ := h
  exact ⟨b, ⟨b.cls, He.eqO_ok h1, of_decide_eq_true h2, of_decide_eq_true h3, of_decide_eq_true h4, of_decide_eq_true h5⟩, He.eqO_ok h6, of_decide_eq_true h7, ha, hf, emptyT_ok hd⟩
theorem cut_drop {xs : List V} {k : Nat} (h : k ≤ xs.length) : cutV xs (some (k : Int)) none = xs.drop k := by
  unfold cutV
  have e1 : HT.sIx xs.length 0 (some (k : Int)) = k := by rw [HT.sIx_nat]; exact Nat.min_eq_left h
  have e2 : HT.sIx xs.length xs.length none = xs.length := by simp [HT.sIx]
  rw [e1, e2]
  exact List.take_of_length_le (by rw [List.length_drop]; omega)
end Bd

set_option Elab.async false
set_option linter.all false
set_option maxRecDepth 100000
set_option maxHeartbeats 4000000
/-! The rows of a bundle that are above nothing. -/
namespace Bd
open PySem PySem.Spec PyProof.Rows L2
def posF (D : List (Ast × Int)) : List (Ast × Int) := D.filter fun e => decide (0 < e.2)
variable {D : List (Ast × Int)}
theorem posF_nrm (h : Nrm D) : Nrm (posF D) := ⟨List.Pairwise.filter _ h.srt, (List.filter_sublist.map _).nodup h.nd, fun e he => h.nz e (List.mem_filter.mp he).1⟩
theorem posF_tot (h : Nrm D) (p : Ast) : tot (posF D) p = if 0 < tot D p then tot D p else 0 := by
  by_cases m : p ∈ (posF D).map (·.1)
  · obtain ⟨e, he, rfl⟩ := List.mem_map.mp m
    have h1 := List.mem_filter.mp he
    have h2 := of_decide_eq_true h1.2
    rw [tot_at (posF_nrm h).nd he, tot_at h.nd h1.1, if_pos h2]
  · rw [tot_none m]
    split
    · rename_i q
      have : p ∈ D.map (·.1) := (h.key p).mpr (by omega)
      obtain ⟨e, he, rfl⟩ := List.mem_map.mp this
      rw [tot_at h.nd he] at q
      exact absurd (List.mem_map_of_mem (f := (·.1)) (List.mem_filter.mpr ⟨he, decide_eq_true q⟩)) m
    · rfl
theorem posF_take {i : Nat} {e : Ast × Int} (h : D[i]? = some e) : posF (D.take (i + 1)) = posF (D.take i) ++ (if 0 < e.2 then [e] else []) := by
  unfold posF
  rw [List.take_add_one, h, List.filter_append]
  by_cases q : 0 < e.2 <;> simp [q]
theorem posF_len (D : List (Ast × Int)) : (posF D).length ≤ D.length := List.length_filter_le _ _
theorem posF_ok (h : OkR D) : OkR (posF D) := fun e he => h e (List.mem_filter.mp he).1
theorem posF_nil (h : Nrm D) : posF D = [] ↔ ∀ p, tot D p ≤ 0 := by
  constructor
  · intro e p
    have := posF_tot h p
    rw [e, show tot [] p = 0 from rfl] at this
    split at this <;> omega
  · intro q
    refine List.filter_eq_nil_iff.mpr fun e he => ?_
    have := q e.1
    rw [tot_at h.nd he] at this
    simp; omega
theorem allPos {L N M : List (Ast × Int)} (nm : Nrm L) (ht : ∀ p, tot L p = tot N p - tot M p) : (L.map fun e => decide (e.2 > 0)).all id = true ↔ ∀ p, tot M p ≤ tot N p := by
  rw [List.all_eq_true]
  constructor
  · intro h p
    have := ht p
    by_cases m : p ∈ L.map (·.1)
    · obtain ⟨e, he, rfl⟩ := List.mem_map.mp m
      have h1 := of_decide_eq_true (h _ (List.mem_map_of_mem (f := fun e : Ast × Int => decide (e.2 > 0)) he))
      rw [tot_at nm.nd he] at this
      omega
    · rw [tot_none m] at this; omega
  · intro h b hb
    obtain ⟨e, he, rfl⟩ := List.mem_map.mp hb
    have h1 := ht e.1
    rw [tot_at nm.nd he] at h1
    have h2 := nm.nz e he
    have h3 := h e.1
    exact decide_eq_true (by omega)
end Bd
namespace Rb
open PySem PySem.Spec PyProof.Rows L2 Bd
section
variable {K : PySem.W.Frag} {σ : L2.St} {H : Hp} {Q : VK}
theorem asgG {te : TE} {g : TG} {n b c : L2.St → Hp → Prop} {r : VK} (k : te σ H fun x H1 => g x σ H1 n) : tAsg te g ⟨n, r, b, c⟩ σ H := k
/-- [.. for target in a tuple if ..] -/
theorem lcTestT {a : Addr} {xs : List V} {g : TG} {tt : TT} {te : TE} {vs : List Nat} (Pv : Addr → Nat → List V → Hp → Prop) (h : SqT K H a xs) (h0 : ∀ D H', H D = none → Same H H' → H' D = some (.lst []) → Pv D 0 [] H')
    (hs : ∀ (i : Nat) (x : V) (acc : List V) (D : Addr) (H' : Hp), H D = none → Same H H' → xs[i]? = some x → acc.length ≤ i → H' D = some (.lst acc) → Pv D i acc H' →
      g x (wipe σ vs) H' fun σ2 H2 => wipe σ2 vs = wipe σ vs ∧ tt σ2 H2 fun b H3 => if b = true then te σ2 H3 fun y H4 => ∃ acc, H4 D = some (.lst acc) ∧ acc.length < sizeLine ∧ (fun H5 => ∃ acc, Same H H5 ∧ acc.length ≤ i + 1 ∧ H5 D = some (.lst acc) ∧ Pv D (i + 1) acc H5) (upd H4 D (.lst (acc ++ [y])))
        else (fun H5 => ∃ acc, Same H H5 ∧ acc.length ≤ i + 1 ∧ H5 D = some (.lst acc) ∧ Pv D (i + 1) acc H5) H3)
    (hd : ∀ D acc H', H D = none → Same H H' → H' D = some (.lst acc) → acc.length ≤ xs.length → Pv D xs.length acc H' → Q (.ref D) H') :
    ∃ p, V.ref a = .ref p ∧ (∃ ys, SqT K H p ys) ∧ Rd.LcJ g tt te vs σ Q (Itt K p) H := by
  refine ⟨a, rfl, ⟨_, h⟩, fun D hD => ?_⟩
  refine lc_tup (xs := xs) (fun i H' => ∃ acc, Same H H' ∧ acc.length ≤ i ∧ H' D = some (.lst acc) ∧ Pv D i acc H') ⟨[], Rd.same_new hD, Nat.le_refl _, upd_same, h0 D _ hD (Rd.same_new hD) upd_same⟩ (fun i H' _ ⟨acc, s, _⟩ => Rd.same_tup s h) ?_ ?_
  · rintro i x H' hi ⟨acc, s, e, hD', p⟩
    exact hs i x acc D H' hD s hi e hD' p
  · rintro H' ⟨acc, s, e, hD', p⟩
    exact hd D acc H' hD s hD' e p
/-- one more row at the end of the list that is made -/
theorem rowE {H0 H' : Hp} {Dd t kq : Addr} {i : Nat} {acc : List V} {R : List (Ast × Int)} {p : Ast} {q : Int} (hD : H0 Dd = none) (hs : Same H0 H') (hDl : H' Dd = some (.lst acc)) (ht : H' t = none) (hl : acc.length ≤ i) (hi : i < 100000)
    (hrow : RowL H' acc R) (hk : H' kq = some (.tup [.str p.1, .int p.2])) (Pv : Addr → Nat → List V → Hp → Prop) (hp : ∀ acc' H5, RowL H5 acc' (R ++ [(p, q)]) → Pv Dd (i + 1) acc' H5) :
    ∃ acc', (upd H' t (.tup [.ref kq, .int q])) Dd = some (.lst acc') ∧ acc'.length < sizeLine ∧ (fun H5 => ∃ acc, Same H0 H5 ∧ acc.length ≤ i + 1 ∧ H5 Dd = some (.lst acc) ∧ Pv Dd (i + 1) acc H5) (upd (upd H' t (.tup [.ref kq, .int q])) Dd (.lst (acc' ++ [.ref t]))) := by
  have nDt : Dd ≠ t := fun y => by rw [← y, hDl] at ht; cases ht
  refine ⟨acc, (upd_ne nDt).trans hDl, Rd.smallT (by omega), acc ++ [.ref t], Rd.same_mut (hs.trans (Rd.same_new ht)) hD, by rw [List.length_append]; simp; omega, upd_same, hp _ _ ?_⟩
  refine (hrow.keepT fun y w hy => ?_).append (.cons (kq := kq) ?_ ?_ .nil)
  · exact (upd_ne fun e => by rw [e, hDl] at hy; cases hy).trans (Rd.same_new ht _ _ hy)
  · exact (upd_ne (Ne.symm nDt)).trans upd_same
  · exact (upd_ne fun e => by rw [e, hDl] at hk; cases hk).trans (Rd.same_new ht _ _ hk)
end
end Rb
namespace Rb
open PySem PySem.Spec PyProof.Rows L2 Bd
section
variable {K : PySem.W.Frag} {σ : L2.St} {H : Hp} {Q : VK} {E : XK}
theorem meth {C : Addr} {m : Str} {sp : Sp} {ta : TE} {t : TA} (k : ta σ H fun x H1 => ∃ a dx fs, x = .ref a ∧ H1 a = some (.ins C dx fs) ∧ fs.lookup m = none ∧ t σ H1 fun vs H2 => sp (x :: (vs ++ [])) H2 Q E) : tMeth C m sp [] E ta t σ H Q := k
theorem mth {b : Addr} {N : List (Ast × Int)} {R : Prop} (h : BdAt K H b N) (k : R) : ∃ a dx fs, V.ref b = .ref a ∧ H a = some (.ins (He.ga K "Bundle") dx fs) ∧ fs.lookup ("covers" : Str) = none ∧ R := by
  obtain ⟨dx, r, d, xs, h1, _⟩ := h
  exact ⟨b, dx, _, rfl, h1, rfl, k⟩
end
end Rb
namespace Bd
open PySem PySem.Spec PyProof.Rows L2
theorem encRl_shaped {N : List (Ast × Int)} (h : OkR N) : SeqAt.shaped (.list (N.map encR)) = true := by
  have := encR_depth N
  unfold SeqAt.shaped
  simp only [PyData.canLay0, encR_lay N h, PyData.depth, Bool.true_and]
  exact decide_eq_true (by omega)
theorem eqv_nil {N : List (Ast × Int)} {t : Bool} (h : t = true ↔ N = []) : PyData.eqv (.bool t) (.bool (PyData.eqv (.list (N.map encR)) (.list []))) = true := by
  cases N with
  | nil => rw [h.mpr rfl]; simp [PyData.eqv, PyData.eqvAll]
  | cons e N =>
    have : t = false := by cases t; rfl; exact absurd (h.mp rfl) (by simp)
    rw [this]; simp [PyData.eqv, PyData.eqvAll]
end Bd

set_option Elab.async false
set_option linter.all false
set_option maxRecDepth 100000
set_option maxHeartbeats 4000000
/-! xs.extend of a tuple; x == a tuple, by an own __eq__. -/
namespace Bd
open PySem PySem.SeqAt
open AutoSeq1 MeetsSeq MeetsSeq2 MeetsSeq3 SeqRoads2
theorem ext_tup (l : Addr) (items : Array Value) (n : Nat) (b : Addr) (o : Obj) (items2 : Array Value) (n2 : Nat) (hc : o.cls = .type "tuple") (hd : o.data = .seq items2 n2) (hs0 : ¬(!items.isEmpty && Builtin.List.listTooLong (items.size + items2.size)) = true) (hs1 : items.size ≤ sizeLine) (hs2 : items.size + items2.size ≤ sizeLine + 1) :
    Meets (Builtin.«list.extend» ⟨[.ref l, .ref b], []⟩) (fun _ R s => s.heap.get? l = some { cls := .type "list", dict := none, data := .seq items n, slots := #[] } ∧ s.heap.get? b = some o ∧ R (.ok (.ret Value.none)) { s with heap := s.heap.update l (Obj.mapSeq fun x => x ++ items2), toks := s.toks }) :=
  .of_wp fun prog w A R s h => by
    obtain ⟨oc, od, dt, sl⟩ := o
    cases hc
    cases hd
    obtain ⟨hp, g, d, tk, os⟩ := s; obtain ⟨hl, hb, h⟩ := h; have f1 := idx_int; have f2 := sub_tuple_tuple; have f3 := sub_list_list; have f4 := sub_tuple_list; have f5 := sub_list_tuple;
    have hz' : (items ++ items2).size ≤ sizeLine + 1 := by rw [Array.size_append]; exact hs2
    wp_walk using (wpAny_updateSeq hl rfl (hz := hs1) (_hz' := hz')), wpAny_loadPart' hl, wpAny_loadPart' hb; exact ⟨_, rfl, h⟩
end Bd
namespace Bd
open PySem PySem.Spec PyProof.Rows L2
section
variable {X : Cx}
/-- xs.extend(t), t a tuple of the heap -/
def rExtendT : V → List V → Hp → VK → Prop := fun x vs H Q => ∃ l b xs zs, x = .ref l ∧ vs = [.ref b] ∧ H l = some (.lst xs) ∧ H b = some (.tup zs) ∧ xs.length + zs.length ≤ sizeLine ∧ Q .non (upd H l (.lst (xs ++ zs)))
theorem mt_extendT : MtM X "list.extend" rExtendT := by
  intro pins s σ H x vs v us Q I rx rv h
  obtain ⟨l, b, xs, zs, rfl, rfl, hH, hB, hz, q⟩ := h
  cases rx
  obtain ⟨u, rfl, ru⟩ := rv.one
  cases ru
  obtain ⟨z, its, n, r, hl, e⟩ := I.lstM hH
  obtain ⟨_, its2, r2, o, ho, hc, n2, hd⟩ := (show ObjOk X.prog X.w H s.heap b (.tup zs) from I.hok b _ hB)
  have l2 := r2.length
  have hsz : its.toArray.size + its2.toArray.size ≤ sizeLine := by rw [List.size_toArray, List.size_toArray]; omega
  have hlong : ¬ (!its.toArray.isEmpty && Builtin.List.listTooLong (its.toArray.size + its2.toArray.size)) = true := by
    rw [notLongL hsz, Bool.and_false]
    exact Bool.false_ne_true
  refine call_meets F.slot_list_extend ⟨_, e, rfl⟩ F.entry_list_extend (F.args_list_extend_2 _ _)
    (ext_tup l its.toArray n b o its2.toArray n2 hc hd hlong (by rw [List.size_toArray]; omega) (by omega)) ⟨e, ho, ?_⟩
  refine ⟨.non, _, I.lset (its' := its ++ its2) hH e (by simp) (r.append r2) ?_, rfl, q⟩
  rw [List.length_append]
  omega
end
section
variable {X : Cx} {CT : CXT} {n : Nat} {C f : Addr} {fd : FuncData} {ps : List Str} {sp : Sp} {E : XK}
/-- x == t, x of the class at C, t a tuple of the heap -/
def rEqTup (C : Addr) (sp : Sp) (E : XK) : R2 := fun x y H Q => ∃ a b dx fs ys, x = .ref a ∧ y = .ref b ∧ H a = some (.ins C dx fs) ∧ H b = some (.tup ys) ∧ sp [.ref a, .ref b] H Q E
theorem op_eqTup (F : FnOk X.prog X.w X.K X.mg X.base CT n f fd ps sp) (hs : PySem.W.findIn X.K (.ref C) "__eq__" = some (some (.ref f))) (hf : PySem.W.isFn X.K (.ref f) = true) (hsub : PySem.W.subIn X.K (.type "tuple") (.ref C) = some false)
    (hb : Binds X.K fd ps []) (hx : Passes CT X E) (hr : Room n X.A) : OpR X (compareOp .Eq) (rEqTup C sp E) := by
  intro pins s σ H x y v u Q I rx ry h
  obtain ⟨a, b, dx, fs, ys, rfl, rfl, ha, hb', hsp⟩ := h
  obtain rfl : v = Value.ref a := rx
  obtain rfl : u = Value.ref b := ry
  obtain ⟨mA, J, _⟩ := ins_get I.hok ha
  obtain ⟨od, J, _⟩ := J.look
  obtain ⟨_, its, r, o, ho, hc, n, hd⟩ := (show ObjOk X.prog X.w H s.heap b (.tup ys) from I.hok b _ hb')
  obtain ⟨m, hF⟩ := I.fr
  show wpAny (model X.prog X.w) X.A (richCompare .Eq (.ref a) (.ref b)) _ _ _
  refine PySem.W.cmp_K (op := .Eq) (tb := .type "tuple") hr.units0 hF I.ok.mod.kin J (hc ▸ (PySem.W.Looks.ld ho).andThen .now) (by simp [PySem.W.notFirst, hsub]) hs hf ?_
  exact wpAny_mono (call_def F hb hx hr I (vs := [.ref a, .ref b]) (.cons rfl (.cons rfl .nil)) hsp) (fun _ _ h => back_ep h) fun _ _ e => e
end
end Bd
namespace Bd
open PySem PySem.Spec PyProof.Rows L2
theorem encR_eqv2 (e f : Ast × Int) : PyData.eqv (encR e) (encR f) = decide (e = f) := by
  have : (e = f) ↔ ((e.1.1 = f.1.1 ∧ e.1.2 = f.1.2) ∧ e.2 = f.2) := ⟨fun h => by rw [h]; exact ⟨⟨rfl, rfl⟩, rfl⟩, fun h => Prod.ext (Prod.ext h.1.1 h.1.2) h.2⟩
  simp only [encR, PyData.eqv, PyData.eqvAll, Bool.and_true]
  rw [Bool.eq_iff_iff]
  simp [this]
theorem encRs_eqv : ∀ (N M : List (Ast × Int)), PyData.eqv (.tuple (N.map encR)) (.tuple (M.map encR)) = decide (N = M)
  | [], [] => by simp [PyData.eqv, PyData.eqvAll]
  | [], f :: M => by simp [PyData.eqv, PyData.eqvAll]
  | e :: N, [] => by simp [PyData.eqv, PyData.eqvAll]
  | e :: N, f :: M => by
    have h := encRs_eqv N M
    simp only [PyData.eqv] at h ⊢
    simp only [List.map_cons, PyData.eqvAll, encR_eqv2, h]
    rw [Bool.eq_iff_iff]
    simp
end Bd
namespace Rb
open PySem PySem.Spec PyProof.Rows L2 Bd
theorem ext {K : PySem.W.Frag} {σ : L2.St} {H : Hp} {to : TE} {t : TA} {Q : VK} (k : to σ H fun x H1 => tyV K "list" x H1 ∧ t σ H1 fun xs H2 => rExtendT x xs H2 Q) : tBM K "list" rExtendT to t σ H Q := k
end Rb

set_option Elab.async false
set_option linter.all false
set_option maxRecDepth 100000
set_option maxHeartbeats 4000000
/-! iter of a tuple; for .. in an object of an own class, by its own __iter__ that gives a tuple's iterator. -/
namespace Bd
open PySem PySem.Spec PyProof.Rows L2
open Builtin Builtin.ObjectAttr
/-- at it an iterator over the tuple at t that has given nothing -/
def TtO (t it : Addr) : HO := .ext fun h => h.get? it = some { cls := .type "tuple_iterator", data := .fields #[.ref t, .int 0 0] }
theorem ttO_ok {P : Program} {w : World} {H : Hp} {h : Heap} {t it : Addr} (e : h.get? it = some { cls := .type "tuple_iterator", data := .fields #[.ref t, .int 0 0] }) : ObjOk P w H h it (TtO t it) := ⟨e, ⟨_, e⟩, fun _ _ q k => k _ q⟩
theorem call_iterTup {prog : Program} {w : World} {A : Around} {E : Value → Shared → Prop} {s : Shared} {t : Addr} {items : Array Value} {Q : Value → Shared → Prop} (ht : s.heap.IsTuple t items)
    (hQ : Q (.ref s.heap.objs.size) { s with heap := s.heap.push { cls := .type "tuple_iterator", data := .fields #[.ref t, .int 0 0] } }) : wpAny (model prog w) A (call (.builtin "iter") [.ref t]) Q E s := by
  refine PySem.Calls.call_function_entry (by decide +kernel) (by decide +kernel) PySem.W.kdk_entry_iter (PySem.W.kdk_args_iter _) ?_
  unfold PySem.Builtin.«iter»
  refine wpAny_bind (m := someArgs "iter" 1 2 _) (wpAny_of_eq (a := [Value.ref t]) (by first | rfl | kernel_rfl!) ?_)
  show wpAny _ _ (pyIter (.ref t) >>= _) _ _ _
  exact wpAny_bind (wpAny_pyIter_tuple ht (wpAny_pure ⟨_, rfl, hQ⟩))
def rIterT (K : PySem.W.Frag) : List V → Hp → VK → Prop := fun xs H Q => ∃ (t : Addr) (zs : List V), xs = [.ref t] ∧ SqT K H t zs ∧ ∀ it, H it = none → (∀ z o, H z = some o → z < it) → Q (.ref it) (upd H it (TtO t it))
/-- {}, and it is younger than the frame -/
def tDNewN (n : Nat) : TE := fun _ H Q => ∀ p, H p = none → n ≤ p → Q (.ref p) (upd H p (.dT []))
/-- list(xs), and it is younger than the frame -/
def rListN (K : PySem.W.Frag) (n : Nat) : List V → Hp → VK → Prop := fun xs H Q => ∃ p ys, xs = [.ref p] ∧ SqL K H p ys ∧ ∀ l, H l = none → n ≤ l → Q (.ref l) (upd H l (.lst ys))
section
variable {X : Cx}
theorem cr_iterT : CallR X (.builtin "iter") (rIterT X.K) := by
  intro pins s σ H xs us Q I r h
  obtain ⟨t, zs, rfl, hq, q⟩ := h
  obtain rfl := Vals.ref1 r
  obtain ⟨its, rv, p, hz⟩ := I.tuple hq
  refine call_iterTup (show s.heap.IsTuple t its.toArray from p) ?_
  refine ⟨.ref s.heap.objs.size, _, I.laid (t' := s.toks) (fun b u e => Heap.get?_push_of_some _ e) (Nat.le_refl _) (ttO_ok (Heap.get?_push_size _ rfl)), rfl, q _ (I.hok.fresh (Nat.le_refl _)) fun z o e => ?_⟩
  obtain ⟨u, hu⟩ := objOk_get (I.hok z o e)
  exact Heap.lt_size hu
theorem pe_dnewN {pos : Pos} : PE X (.Dict [] [] pos) (tDNewN X.s_0.heap.objs.size) := ⟨fun pins s σ H Q I h =>
  wpAny_Dict_empty ⟨.ref s.heap.objs.size, _, I.laid (a := s.heap.objs.size) (o := .dT []) (t' := s.toks) (fun _ _ q => Heap.get?_push_of_some _ q) (Nat.le_refl _) (dt_empty s.heap I.big), rfl, h _ (I.hok.fresh (Nat.le_refl _)) I.sz⟩⟩
theorem call_listN : CallR X (.type "list") (rListN X.K X.s_0.heap.objs.size) := by
  intro pins s σ H xs us Q I r h
  obtain ⟨p, ys, rfl, hq, q⟩ := h
  obtain ⟨u, rfl, rx⟩ := vals1 r
  cases rx
  obtain ⟨its, r', pl, hz⟩ := I.list hq
  have hlen := r'.length
  obtain ⟨o, ho, hc, n, hd⟩ := pl.isList
  refine call_list_seq p (.inl rfl) ho hc hd (fun h' c' kp e => ?_) (by simp only [List.size_toArray] <;> omega)
  exact ⟨.ref s.heap.objs.size, _, I.laid (t' := s.toks) kp (Nat.le_refl _) (show ObjOk X.prog X.w _ h' _ (.lst ys) from ⟨hz, its, c', r', e⟩), rfl, q _ (I.hok.fresh (Nat.le_refl _)) I.sz⟩
variable {pins : List (Addr × Obj)} {σ : L2.St} {H : Hp} {s : Shared} {CT : CXT} {n : Nat} {C f : Addr} {fd : FuncData} {ps : List Str} {sp : Sp} {E : XK} {tg e : Expr} {te : TE}
/-- e an object of the class at C, walked by its own __iter__ -/
def iOwn (K : PySem.W.Frag) (n : Nat) (C : Addr) (sp : Sp) (E : XK) (te : TE) : TI := fun σ H R => te σ H fun x H1 => ∃ a dx fs, x = .ref a ∧ H1 a = some (.ins C dx fs) ∧
  sp [.ref a] H1 (fun v H2 => ∃ it t xs, v = .ref it ∧ n ≤ it ∧ H2 it = some (TtO t it) ∧ SqT K H2 t xs ∧ R (Itt K t) (ItX.dropH H2 it)) E
theorem pi_own (F : FnOk X.prog X.w X.K X.mg X.base CT n f fd ps sp) (hs : PySem.W.findIn X.K (.ref C) "__iter__" = some (some (.ref f))) (hf : PySem.W.isFn X.K (.ref f) = true) (hb : Binds X.K fd ps []) (hx : Passes CT X E) (hr : Room n X.A) (he : PE X e te) :
    PI X tg e (iOwn X.K X.s_0.heap.objs.size C sp E te) := by
  refine ⟨fun pins s σ H R I h => ?_⟩
  refine thn (he.run pins s σ H _ I h) fun u s1 ⟨x, H1, I1, r1, a, dx, fs, ex, ea, hsp⟩ => ?_
  subst ex
  obtain rfl : u = Value.ref a := r1
  obtain ⟨mA, J, _⟩ := ins_get I1.hok ea
  obtain ⟨od, J, _⟩ := J.look
  obtain ⟨m, hF⟩ := I1.fr
  refine PySem.W.owit_iter hF I1.ok.mod.kin J hs hf ?_
  refine thn (call_def F hb hx hr I1 (vs := [.ref a]) (.cons rfl .nil) hsp) fun u s2 ⟨v, H2, I2, r2, it, t, xs, ev, hsz, hit, hq, hR⟩ => ?_
  subst ev
  obtain rfl : u = Value.ref it := r2
  have ho : s2.heap.get? it = some { cls := .type "tuple_iterator", data := .fields #[.ref t, .int 0 0] } := (I2.hok it _ hit).1
  have hT : s2.TypeIs (.ref it) "tuple_iterator" := ⟨_, ho, rfl⟩
  unfold PySem.W.OwitIt
  refine wpAny_specialOf (name := Str.ofString "__next__") hT slot_tupleiter_next.lookup ?_
  have hit' := hit
  unfold TtO at hit'
  refine ⟨it, [it], _, _, ItX.dropH H2 it, rfl, ItX.inv_drop I2 hit', turn_tuple t it, ⟨_, ho, rfl, rfl⟩, fun b hb => ?_, hR⟩
  have e : b = it := by simpa using hb
  rw [e]
  exact ItX.inv_fp I2 hit hsz
/-- e a list, a tuple, or an object of the class at C -/
def iAny (K : PySem.W.Frag) (n : Nat) (C : Addr) (sp : Sp) (E : XK) (te : TE) : TI := fun σ H R => iLt K te σ H R ∨ iOwn K n C sp E te σ H R
theorem pi_any (F : FnOk X.prog X.w X.K X.mg X.base CT n f fd ps sp) (hs : PySem.W.findIn X.K (.ref C) "__iter__" = some (some (.ref f))) (hf : PySem.W.isFn X.K (.ref f) = true) (hb : Binds X.K fd ps []) (hx : Passes CT X E) (hr : Room n X.A) (he : PE X e te) :
    PI X tg e (iAny X.K X.s_0.heap.objs.size C sp E te) := ⟨fun pins s σ H R I h => h.elim ((pi_lt he).run pins s σ H R I) ((pi_own F hs hf hb hx hr he).run pins s σ H R I)⟩
end
end Bd
namespace Rb
open PySem PySem.Spec PyProof.Rows L2
theorem op_neDK {X : Cx} {K : PySem.W.Frag} (h : X.K = K) (hu : X.A.units + 64 < cLine) : OpR X (compareOp .NotEq) (rNeD K) := h ▸ op_neD hu
end Rb

set_option Elab.async false
set_option linter.all false
set_option maxRecDepth 100000
set_option maxHeartbeats 4000000
/-! Errors of own classes as plain values: made, asked for their class, their field read. -/
namespace Bd
open PySem PySem.Spec PyProof.Rows L2
/-- the class says what an error class over ValueError must say, with fI as the __init__ that it has from its base -/
structure XC (K : PySem.W.Frag) (C fI : Addr) : Prop where
  o : OexC K C
  iC : PySem.W.findIn K (.ref C) "__init__" = some (some (.ref fI))
  tI : PySem.W.typeIn K (.ref fI) = some (.type "function")
  x : ExcC K C
  nw : PySem.W.findIn K (.ref C) "what" = some none
theorem oxB_ok {K : PySem.W.Frag} {C : Addr} (q : oxB K C = true) : ∃ nm q N bs bm sn sub ab col dd k0 k1 k2 k3 k5, K.lookup C = some (excClassObj nm q C N bs bm true sn sub ab col dd k0 k1 k2 k3 k5 "ValueError.__new__") ∧ PySem.HandSPX.refsVE bm = true := by
  unfold oxB at q
  split at q
  · rename_i dd cd sl ho
    split at q
    · rename_i C' bm k0 k1 k2 k3 n k5 hm hs
      simp only [Bool.and_eq_true, beq_iff_eq, Bool.not_eq_true'] at q
      obtain ⟨⟨⟨⟨rfl, rfl⟩, hdel⟩, hhd⟩, hve⟩ := q
      obtain ⟨nm, bs, mro, ns, qn, hd, sn, sub, ab, col, del⟩ := cd
      dsimp only at hm hdel hhd
      subst hm hdel hhd
      have hsl : sl = #[k0, k1, k2, k3, some (.builtin "ValueError.__new__"), k5] := by
        obtain ⟨l⟩ := sl
        simp only at hs
        rw [hs]
      subst hsl
      exact ⟨nm, qn, ns, bs, bm, sn, sub, ab, col, dd, k0, k1, k2, k3, k5, ho, hve⟩
    · cases q
  · cases q
theorem sp_class {K : PySem.W.Frag} : PySem.W.specialIn K (.builtin "object.__class__") "__get__" = some (some (.builtin "getset_descriptor.__get__")) := by kernel_rfl
theorem tk_class {K : PySem.W.Frag} : PySem.W.takesIn K (.builtin "object.__class__") = some true := by kernel_rfl
theorem xcB_ok {K : PySem.W.Frag} {C fI : Addr} (h : xcB K C fI = true) : XC K C fI := by
  unfold xcB at h
  simp only [Bool.and_eq_true, decide_eq_true_eq] at h
  obtain ⟨h1, h2, h3, h4, h5, h6, h7, h8, h9, h10, h11, h12, h13⟩ := h
  exact ⟨⟨oxB_ok h1, h2, h3, h4, h5⟩, h6, h7, ⟨h8, h9, h3, h10, h11, sp_class, tk_class, h12⟩, h13⟩
/-- an error of class C stands at a, with the field what -/
def ErrAt (H : Hp) (a C : Addr) (x : V) : Prop := ∃ d : Addr, H a = some (exo a C (some d)) ∧ H d = some (exd d [("what", x)])
section
variable {X : Cx} {CX : CXT} {k : Nat} {C fI : Addr} {fd : FuncData} {ps : List Str} {sp : Sp} {dvs : List V} {ds : List Value} {E : XK} {x : Str} {p pos : Pos} {e : Expr} {es : List Expr} {ta : TA}
def tMkE (C : Addr) (sp : Sp) (dvs : List V) (E : XK) (ta : TA) : TE := fun σ H Q => ta σ H fun vs H1 => vs.length ≤ 1000 ∧ ∀ a, H1 a = none → sp (.ref a :: (vs ++ dvs)) (upd H1 a (exo a C none)) (fun v H2 => v = .non ∧ Q (.ref a) H2) E
theorem run_mkE {pins : List (Addr × Obj)} {σ : L2.St} {H1 : Hp} {s1 : Shared} {Q : VK} {us : List Value} {vs : List V} (T : XC X.K C fI) (F1 : FnOk X.prog X.w X.K X.mg X.base CX k fI fd ps sp) (hr : Room (k + 1) X.A) (hb : Binds X.K fd ps ds) (hd : Vals dvs ds) (hx : Passes CX X E)
    (I1 : Inv X pins σ H1 s1) (r1 : Vals vs us) (hz : vs.length ≤ 1000)
    (q1 : ∀ a, H1 a = none → sp (.ref a :: (vs ++ dvs)) (upd H1 a (exo a C none)) (fun v H2 => v = .non ∧ Q (.ref a) H2) E) : wpAny (model X.prog X.w) X.A (call (.ref C) us) (EP X pins σ Q) X.xe s1 := by
  obtain ⟨nm, q, N, bs, bm, sn, sub, ab, col, dd, k0, k1, k2, k3, k5, hC, hbm⟩ := T.o.cls
  obtain ⟨hp, g, dr, tk, os⟩ := s1
  have hsz : hp.objs.size ≤ hp.objs.size + 1 := Nat.le_succ _
  have hn : H1 (hp.objs.size + 1) = none := I1.hok.fresh hsz
  have hq := q1 (hp.objs.size + 1) hn
  have kk : ∀ b o, hp.get? b = some o → ((hp.push (PySem.W.kdv_tup us)).push (PySem.HandSPX.excO C hp.objs.size)).get? b = some o := fun b o e => Heap.get?_push_of_some _ (Heap.get?_push_of_some _ e)
  have hget : ((hp.push (PySem.W.kdv_tup us)).push (PySem.HandSPX.excO C hp.objs.size)).get? (hp.objs.size + 1) = some (PySem.HandSPX.excO C hp.objs.size) := by heap_get
  have I2 : Inv X pins σ (upd H1 (hp.objs.size + 1) (exo (hp.objs.size + 1) C none)) ⟨(hp.push (PySem.W.kdv_tup us)).push (PySem.HandSPX.excO C hp.objs.size), g, dr, tk, os⟩ :=
    I1.laid (t' := tk) (a := hp.objs.size + 1) (o := exo (hp.objs.size + 1) C none) (h' := (hp.push (PySem.W.kdv_tup us)).push (PySem.HandSPX.excO C hp.objs.size)) kk hsz (exo_ok hget)
  have r2 : Vals (V.ref (hp.objs.size + 1) :: (vs ++ dvs)) (Value.ref (hp.objs.size + 1) :: (us ++ ds)) := .cons rfl (r1.append hd)
  have hl : (Value.ref (hp.objs.size + 1) :: us ++ ds).length = ps.length := by
    have e := r2.length
    rw [F1.len _ _ _ _ hq] at e
    exact e.symm
  have hus : us.length ≤ sizeLine := by
    rw [← Paired.length r1, sizeLine_eq]
    omega
  refine wpAny_call (PySem.HandSPX.call_own F.excBase_ValueError (fun Y => PySem.HandSPX.refsVE_contains Y bm hbm) (I1.kIn _ _ hC) (PySem.W.looks_findIn I1.kIn T.iC) (fun self => PySem.W.bind_fn I1.kIn self T.tI) hus
    (codeAny_mono (F1.run _ X.stack _ _ ⟨Value.ref (hp.objs.size + 1) :: us, []⟩ (Value.ref (hp.objs.size + 1) :: (us ++ ds)) _ _ E (hr.make C us []) (I2.env0.make C us []) (hb _ (Value.ref (hp.objs.size + 1) :: us) I2.kIn hl) r2 hq) fun r s' hq' => ?_))
  cases r with
  | error er => exact hx pins σ _ _ er s' I2 hq'
  | ok fl =>
    cases fl with
    | ret u =>
      obtain ⟨v, H', I3, rv, ev, q3⟩ := I2.after hq'
      subst ev
      exact ⟨rv, ⟨V.ref (hp.objs.size + 1), H', I3, rfl, q3⟩⟩
    | next => exact False.elim hq'
    | brk => exact False.elim hq'
    | cont => exact False.elim hq'
theorem pe_mkE (T : XC X.K C fI) (F1 : FnOk X.prog X.w X.K X.mg X.base CX k fI fd ps sp) (hr : Room (k + 1) X.A) (hg : Gl X x) (hm : X.mg x = some (.ref C)) (hb : Binds X.K fd ps ds) (hd : Vals dvs ds) (hx : Passes CX X E) (ha : PA X (e :: es) ta)
    (hdb : (x == ("__debug__" : Str)) = false := by decide) (he : starEach (e :: es) X.env = (false, eval e X.env) :: starEach es X.env := by rfl) (hpl : (backTo pos (starEach es X.env)).any (·.1) = false := by rfl) :
    PE X (.Call (.Name x p) (e :: es) [] pos) (tMkE C sp dvs E ta) := by
  refine ⟨fun pins s σ H Q I h => ?_⟩
  refine wpAny_Call_Name_kw (ld_glob I hg hm ?_ hdb)
  refine PySem.W.callWith_K (h₀ := X.base) I.ok.mod.kin T.o.kC (thn (ha.run pos pins s σ H _ I h) fun us s1 ⟨vs, H1, I1, r1, hz, q1⟩ => ⟨I1.kIn, ?_⟩) he hpl
  exact run_mkE T F1 hr hb hd hx I1 r1 hz q1
theorem pe_mkE0 (T : XC X.K C fI) (F1 : FnOk X.prog X.w X.K X.mg X.base CX k fI fd ps sp) (hr : Room (k + 1) X.A) (hg : Gl X x) (hm : X.mg x = some (.ref C)) (hb : Binds X.K fd ps ds) (hd : Vals dvs ds) (hx : Passes CX X E)
    (hdb : (x == ("__debug__" : Str)) = false := by decide) : PE X (.Call (.Name x p) [] [] pos) (tMkE C sp dvs E tNil) := by
  refine ⟨fun pins s σ H Q I h => ?_⟩
  refine wpAny_Call_Name_kw (ld_glob I hg hm ?_ hdb)
  obtain ⟨hz, q1⟩ := h
  exact PySem.W.callWith_K0 I.kIn T.o.kC (run_mkE (us := []) T F1 hr hb hd hx I .nil hz q1)
end
section
variable {X : Cx} {pins : List (Addr × Obj)} {σ : L2.St} {H : Hp} {s : Shared}
theorem err_at {a C d : Addr} {fs : List (Str × V)} (I : Inv X pins σ H s) (e : H a = some (exo a C (some d))) (ed : H d = some (exd d fs)) :
    ∃ (oe od : Obj) (mA : Str → Option Value), PySem.W.InstAt s.heap a oe C (some od) ∧ (∀ name, PySem.W.lookIn name od = some (mA name)) ∧ ∀ f, RelO (fs.lookup f) (mA f) := by
  obtain ⟨t1, he⟩ := exo_at I.hok e
  obtain ⟨mA, hns, hr⟩ := exd_at I.hok ed
  obtain ⟨od, ho, hl⟩ := lookIn_ns hns
  exact ⟨_, od, mA, ⟨he, rfl, rfl, ho⟩, hl, hr⟩
theorem kitE {K : PySem.W.Frag} {x D : Addr} {ox od : Obj} (T : ExcC K D) : PySem.W.KitX K (.ref x) (.ref D) (fun h => PySem.W.InstAt h x ox D (some od)) where
  ty := fun _ _ _ I => I.type
  it := fun _ _ X _ => by
    obtain ⟨cdD, hcD, _⟩ := PySem.W.any_some T.hd
    unfold PySem.W.clsIn at hcD
    split at hcD
    · rename_i c' d' cd' sl' ho
      intro A' Q' E' s' k q
      unfold isType loadHead
      exact wpAny_bind (wpAny_loadPart (k _ _ (X _ _ ho)) (wpAny_pure q))
    · cases hcD
  ne := fun h tp dd its n sl X htp => by
    obtain ⟨cdD, hcD, _⟩ := PySem.W.any_some T.hd
    refine Bool.eq_false_iff.mpr fun q => ?_
    have e : D = tp := Value.ref.inj (beq_iff_eq.mp q)
    subst e
    unfold PySem.W.clsIn at hcD
    split at hcD
    · rename_i c' d' cd' sl' ho
      have z := (X _ _ ho).symm.trans htp
      cases z
    · cases hcD
  ca := fun X I k => PySem.W.kx_classE X I T.hg T.hk T.hs (PySem.W.findObj_dataE (by obtain ⟨cd, hc, _⟩ := PySem.W.any_some T.hd; rw [hc]; rfl) T.ha T.hn T.ht) T.hm k
/-- isinstance(e, c), e such an error -/
def rIsE (K : PySem.W.Frag) : List V → Hp → VK → Prop := fun xs H Q => ∃ (a C : Addr) (c w : V) (u : Value) (b : Bool), xs = [.ref a, c] ∧ ClsV c u ∧ ErrAt H a C w ∧ ExcC K C ∧ PySem.W.kitOne K (.ref C) u = some b ∧ Q (.bl b) H
theorem call_isE : CallR X (.builtin "isinstance") (rIsE X.K) := by
  intro pins s σ H xs us Q I r h
  obtain ⟨a, C, c, w, u, b, rfl, k, ⟨d, ea, ed⟩, T, e, q⟩ := h
  obtain ⟨u1, u2, rfl, r1, r2⟩ := vals2 r
  have e2 := k.eq r2
  subst e2
  cases (show u1 = Value.ref a from r1)
  obtain ⟨oe, od, mA, J, _, _⟩ := err_at I ea ed
  exact PySem.W.kia_one (kitE (ox := oe) (od := od) T) I.kIn J e (fun z => nomatch z) fun tk => ⟨.bl b, H, I.tok tk, rfl, q⟩
/-- e.what -/
def tErrF (K : PySem.W.Frag) (te : TE) : TE := fun σ H Q => te σ H fun x H1 => ∃ (a C : Addr) (v : V), x = .ref a ∧ ErrAt H1 a C v ∧ ExcC K C ∧ PySem.W.findIn K (.ref C) "what" = some none ∧ Q v H1
theorem pe_errF {e : Expr} {te : TE} {pos : Pos} (he : PE X e te) (hb : attributeBase e "what" X.env (eval e X.env) = eval e X.env := by rfl) : PE X (.Attribute e "what" pos) (tErrF X.K te) := by
  refine ⟨fun pins s σ H Q I h => ?_⟩
  refine attr_of hb (thn (he.run pins s σ H _ I h) fun u s1 hh => ?_)
  obtain ⟨x, H1, I1, rx, a, C, v, ex, ⟨d, ea, ed⟩, T, hno, q⟩ := hh
  subst ex
  obtain rfl : u = Value.ref a := rx
  obtain ⟨oe, od, mA, J, hl, hr⟩ := err_at I1 ea ed
  obtain ⟨u, hu, ru⟩ := RelO.some_of (v := v) (o := mA "what") (hr "what")
  exact HandSPX.exc_get I1.kIn J T.hg T.hk T.hs (PySem.W.findObj_own T.hd hno rfl (by rw [hl, hu])) (handed_of ru) ⟨v, H1, I1.tok _, ru, q⟩
end
end Bd

namespace Rb
open PySem PySem.Spec PyProof.Rows L2
theorem call_lenK {X : Cx} {K : PySem.W.Frag} (h : X.K = K) : CallR X (.builtin "len") (fun xs H Q => ∃ p ys, xs = [V.ref p] ∧ (SqL K H p ys ∨ SqT K H p ys) ∧ Q (.int ys.length) H) := by
  subst h; exact call_len_seq
end Rb

set_option Elab.async false
set_option linter.all false
set_option maxRecDepth 100000
set_option maxHeartbeats 4000000
namespace Bk42
open PySem PySem.Spec PyProof.Rows L2
def top (i : Nat) : Stmt := PySem.Challenge.pw_keptcoin_k42_parameters_and_errors.main.body.getD i (.Pass ⟨0, 0, 0, 0⟩)
abbrev s_Params___init : Stmt := inClass (top 1) 0
abbrev fN' : List Str := ["self", "deposit","fee_base","fee_weight","fee_step","pledge_rate","coin_base","epoch_length","share","depth","most_steps"]
def kwP : List (Str × V) := [("deposit", V.int 20), ("fee_base", V.int 5), ("fee_weight", V.int 1), ("fee_step", V.int 2), ("pledge_rate", V.int 150), ("coin_base", V.int 2), ("epoch_length", V.int 10), ("share", V.int 50), ("depth", V.int 4), ("most_steps", V.int 20000)]
def gI {α : Type} (J : List Nat) (us mv ws : List α) : List α := us ++ J.flatMap fun n => ((ws ++ mv)[n]?).toList
theorem gI_vals (J : List Nat) {vs mz zs : List V} {us mv ws : List Value} (r1 : Vals vs us) (r2 : Vals mz mv) (r3 : Vals zs ws) : Vals (gI J vs mz zs) (gI J us mv ws) := by
  refine r1.append ?_
  have r := r3.append r2
  induction J with
  | nil => exact .nil
  | cons n J ih =>
    rw [List.flatMap_cons, List.flatMap_cons]
    refine Vals.append ?_ ih
    cases e : (zs ++ mz)[n]? with
    | none =>
      have e2 : (ws ++ mv)[n]? = none := by
        rw [List.getElem?_eq_none_iff] at e ⊢
        rw [← r.length]; exact e
      rw [e2]; exact .nil
    | some x =>
      obtain ⟨u, e2, ru⟩ := r.get e
      rw [e2]; exact .cons ru .nil
theorem kb_w {K : PySem.W.Frag} {f : Addr} {fd : FuncData} (F : FunD K "__init__" "Params.__init__" (defArgs s_Params___init) (defBody s_Params___init) (defScope s_Params___init) [] kwP f fd) : ∃ mv : List Value, KBn K fd fN' 1 ["deposit", "fee_base", "fee_weight", "fee_step", "pledge_rate", "coin_base", "epoch_length", "share", "depth", "most_steps"] (fun us ws => gI [0, 1, 2, 3, 4, 5, 6, 7, 8, 9] us mv ws) (fun vs zs => gI [0, 1, 2, 3, 4, 5, 6, 7, 8, 9] vs [] zs) :=
  F.kbinds0 (ps := fN') 1 ["deposit", "fee_base", "fee_weight", "fee_step", "pledge_rate", "coin_base", "epoch_length", "share", "depth", "most_steps"] [] (gI [0, 1, 2, 3, 4, 5, 6, 7, 8, 9]) (by decide) (by decide +kernel) (gI_vals _) (fun D doc pm an cdv ct us mv ws h1 h2 h3 => match us, h1, mv, h2, ws, h3 with | [_], _, [], _, [_, _, _, _, _, _, _, _, _, _], _ => (by show bindArgs _ _ = pure _; kernel_rfl))
theorem kb_t {K : PySem.W.Frag} {f : Addr} {fd : FuncData} (F : FunD K "__init__" "Params.__init__" (defArgs s_Params___init) (defBody s_Params___init) (defScope s_Params___init) [] kwP f fd) : ∃ mv : List Value, KBn K fd fN' 1 ["most_steps", "depth", "share", "epoch_length", "coin_base", "pledge_rate", "fee_step", "fee_weight", "fee_base", "deposit"] (fun us ws => gI [9, 8, 7, 6, 5, 4, 3, 2, 1, 0] us mv ws) (fun vs zs => gI [9, 8, 7, 6, 5, 4, 3, 2, 1, 0] vs [] zs) :=
  F.kbinds0 (ps := fN') 1 ["most_steps", "depth", "share", "epoch_length", "coin_base", "pledge_rate", "fee_step", "fee_weight", "fee_base", "deposit"] [] (gI [9, 8, 7, 6, 5, 4, 3, 2, 1, 0]) (by decide) (by decide +kernel) (gI_vals _) (fun D doc pm an cdv ct us mv ws h1 h2 h3 => match us, h1, mv, h2, ws, h3 with | [_], _, [], _, [_, _, _, _, _, _, _, _, _, _], _ => (by show bindArgs _ _ = pure _; kernel_rfl))
theorem kb_p {K : PySem.W.Frag} {f : Addr} {fd : FuncData} (F : FunD K "__init__" "Params.__init__" (defArgs s_Params___init) (defBody s_Params___init) (defScope s_Params___init) [] kwP f fd) : ∃ mv : List Value, KBn K fd fN' 1 ["deposit", "epoch_length", "depth"] (fun us ws => gI [0, 3, 4, 5, 6, 7, 1, 8, 2, 9] us mv ws) (fun vs zs => gI [0, 3, 4, 5, 6, 7, 1, 8, 2, 9] vs [V.int 5, V.int 1, V.int 2, V.int 150, V.int 2, V.int 50, V.int 20000] zs) :=
  F.kbinds0 (ps := fN') 1 ["deposit", "epoch_length", "depth"] [("fee_base", V.int 5), ("fee_weight", V.int 1), ("fee_step", V.int 2), ("pledge_rate", V.int 150), ("coin_base", V.int 2), ("share", V.int 50), ("most_steps", V.int 20000)] (gI [0, 3, 4, 5, 6, 7, 1, 8, 2, 9]) (by decide) (by decide +kernel) (gI_vals _) (fun D doc pm an cdv ct us mv ws h1 h2 h3 => match us, h1, mv, h2, ws, h3 with | [_], _, [_, _, _, _, _, _, _], _, [_, _, _], _ => ⟨_, _, _, _, _, _, rfl, rfl, ⟨_, _, _, _, _, _, rfl, rfl, ⟨_, _, _, _, _, _, rfl, rfl, ⟨_, _, _, _, _, _, rfl, rfl, ⟨_, _, _, _, _, _, rfl, rfl, ⟨_, _, _, _, _, _, rfl, rfl, ⟨_, _, _, _, _, _, rfl, rfl, rfl⟩⟩⟩⟩⟩⟩⟩)
theorem kb_s0 {K : PySem.W.Frag} {f : Addr} {fd : FuncData} (F : FunD K "__init__" "Params.__init__" (defArgs s_Params___init) (defBody s_Params___init) (defScope s_Params___init) [] kwP f fd) : ∃ mv : List Value, KBn K fd fN' 1 ["deposit"] (fun us ws => gI [0, 1, 2, 3, 4, 5, 6, 7, 8, 9] us mv ws) (fun vs zs => gI [0, 1, 2, 3, 4, 5, 6, 7, 8, 9] vs [V.int 5, V.int 1, V.int 2, V.int 150, V.int 2, V.int 10, V.int 50, V.int 4, V.int 20000] zs) :=
  F.kbinds0 (ps := fN') 1 ["deposit"] [("fee_base", V.int 5), ("fee_weight", V.int 1), ("fee_step", V.int 2), ("pledge_rate", V.int 150), ("coin_base", V.int 2), ("epoch_length", V.int 10), ("share", V.int 50), ("depth", V.int 4), ("most_steps", V.int 20000)] (gI [0, 1, 2, 3, 4, 5, 6, 7, 8, 9]) (by decide) (by decide +kernel) (gI_vals _) (fun D doc pm an cdv ct us mv ws h1 h2 h3 => match us, h1, mv, h2, ws, h3 with | [_], _, [_, _, _, _, _, _, _, _, _], _, [_], _ => ⟨_, _, _, _, _, _, rfl, rfl, ⟨_, _, _, _, _, _, rfl, rfl, ⟨_, _, _, _, _, _, rfl, rfl, ⟨_, _, _, _, _, _, rfl, rfl, ⟨_, _, _, _, _, _, rfl, rfl, ⟨_, _, _, _, _, _, rfl, rfl, ⟨_, _, _, _, _, _, rfl, rfl, ⟨_, _, _, _, _, _, rfl, rfl, ⟨_, _, _, _, _, _, rfl, rfl, rfl⟩⟩⟩⟩⟩⟩⟩⟩⟩)
theorem kb_s1 {K : PySem.W.Frag} {f : Addr} {fd : FuncData} (F : FunD K "__init__" "Params.__init__" (defArgs s_Params___init) (defBody s_Params___init) (defScope s_Params___init) [] kwP f fd) : ∃ mv : List Value, KBn K fd fN' 1 ["fee_base"] (fun us ws => gI [1, 0, 2, 3, 4, 5, 6, 7, 8, 9] us mv ws) (fun vs zs => gI [1, 0, 2, 3, 4, 5, 6, 7, 8, 9] vs [V.int 20, V.int 1, V.int 2, V.int 150, V.int 2, V.int 10, V.int 50, V.int 4, V.int 20000] zs) :=
  F.kbinds0 (ps := fN') 1 ["fee_base"] [("deposit", V.int 20), ("fee_weight", V.int 1), ("fee_step", V.int 2), ("pledge_rate", V.int 150), ("coin_base", V.int 2), ("epoch_length", V.int 10), ("share", V.int 50), ("depth", V.int 4), ("most_steps", V.int 20000)] (gI [1, 0, 2, 3, 4, 5, 6, 7, 8, 9]) (by decide) (by decide +kernel) (gI_vals _) (fun D doc pm an cdv ct us mv ws h1 h2 h3 => match us, h1, mv, h2, ws, h3 with | [_], _, [_, _, _, _, _, _, _, _, _], _, [_], _ => ⟨_, _, _, _, _, _, rfl, rfl, ⟨_, _, _, _, _, _, rfl, rfl, ⟨_, _, _, _, _, _, rfl, rfl, ⟨_, _, _, _, _, _, rfl, rfl, ⟨_, _, _, _, _, _, rfl, rfl, ⟨_, _, _, _, _, _, rfl, rfl, ⟨_, _, _, _, _, _, rfl, rfl, ⟨_, _, _, _, _, _, rfl, rfl, ⟨_, _, _, _, _, _, rfl, rfl, rfl⟩⟩⟩⟩⟩⟩⟩⟩⟩)
theorem kb_s2 {K : PySem.W.Frag} {f : Addr} {fd : FuncData} (F : FunD K "__init__" "Params.__init__" (defArgs s_Params___init) (defBody s_Params___init) (defScope s_Params___init) [] kwP f fd) : ∃ mv : List Value, KBn K fd fN' 1 ["fee_weight"] (fun us ws => gI [1, 2, 0, 3, 4, 5, 6, 7, 8, 9] us mv ws) (fun vs zs => gI [1, 2, 0, 3, 4, 5, 6, 7, 8, 9] vs [V.int 20, V.int 5, V.int 2, V.int 150, V.int 2, V.int 10, V.int 50, V.int 4, V.int 20000] zs) :=
  F.kbinds0 (ps := fN') 1 ["fee_weight"] [("deposit", V.int 20), ("fee_base", V.int 5), ("fee_step", V.int 2), ("pledge_rate", V.int 150), ("coin_base", V.int 2), ("epoch_length", V.int 10), ("share", V.int 50), ("depth", V.int 4), ("most_steps", V.int 20000)] (gI [1, 2, 0, 3, 4, 5, 6, 7, 8, 9]) (by decide) (by decide +kernel) (gI_vals _) (fun D doc pm an cdv ct us mv ws h1 h2 h3 => match us, h1, mv, h2, ws, h3 with | [_], _, [_, _, _, _, _, _, _, _, _], _, [_], _ => ⟨_, _, _, _, _, _, rfl, rfl, ⟨_, _, _, _, _, _, rfl, rfl, ⟨_, _, _, _, _, _, rfl, rfl, ⟨_, _, _, _, _, _, rfl, rfl, ⟨_, _, _, _, _, _, rfl, rfl, ⟨_, _, _, _, _, _, rfl, rfl, ⟨_, _, _, _, _, _, rfl, rfl, ⟨_, _, _, _, _, _, rfl, rfl, ⟨_, _, _, _, _, _, rfl, rfl, rfl⟩⟩⟩⟩⟩⟩⟩⟩⟩)
theorem kb_s3 {K : PySem.W.Frag} {f : Addr} {fd : FuncData} (F : FunD K "__init__" "Params.__init__" (defArgs s_Params___init) (defBody s_Params___init) (defScope s_Params___init) [] kwP f fd) : ∃ mv : List Value, KBn K fd fN' 1 ["fee_step"] (fun us ws => gI [1, 2, 3, 0, 4, 5, 6, 7, 8, 9] us mv ws) (fun vs zs => gI [1, 2, 3, 0, 4, 5, 6, 7, 8, 9] vs [V.int 20, V.int 5, V.int 1, V.int 150, V.int 2, V.int 10, V.int 50, V.int 4, V.int 20000] zs) :=
  F.kbinds0 (ps := fN') 1 ["fee_step"] [("deposit", V.int 20), ("fee_base", V.int 5), ("fee_weight", V.int 1), ("pledge_rate", V.int 150), ("coin_base", V.int 2), ("epoch_length", V.int 10), ("share", V.int 50), ("depth", V.int 4), ("most_steps", V.int 20000)] (gI [1, 2, 3, 0, 4, 5, 6, 7, 8, 9]) (by decide) (by decide +kernel) (gI_vals _) (fun D doc pm an cdv ct us mv ws h1 h2 h3 => match us, h1, mv, h2, ws, h3 with | [_], _, [_, _, _, _, _, _, _, _, _], _, [_], _ => ⟨_, _, _, _, _, _, rfl, rfl, ⟨_, _, _, _, _, _, rfl, rfl, ⟨_, _, _, _, _, _, rfl, rfl, ⟨_, _, _, _, _, _, rfl, rfl, ⟨_, _, _, _, _, _, rfl, rfl, ⟨_, _, _, _, _, _, rfl, rfl, ⟨_, _, _, _, _, _, rfl, rfl, ⟨_, _, _, _, _, _, rfl, rfl, ⟨_, _, _, _, _, _, rfl, rfl, rfl⟩⟩⟩⟩⟩⟩⟩⟩⟩)
theorem kb_s4 {K : PySem.W.Frag} {f : Addr} {fd : FuncData} (F : FunD K "__init__" "Params.__init__" (defArgs s_Params___init) (defBody s_Params___init) (defScope s_Params___init) [] kwP f fd) : ∃ mv : List Value, KBn K fd fN' 1 ["pledge_rate"] (fun us ws => gI [1, 2, 3, 4, 0, 5, 6, 7, 8, 9] us mv ws) (fun vs zs => gI [1, 2, 3, 4, 0, 5, 6, 7, 8, 9] vs [V.int 20, V.int 5, V.int 1, V.int 2, V.int 2, V.int 10, V.int 50, V.int 4, V.int 20000] zs) :=
  F.kbinds0 (ps := fN') 1 ["pledge_rate"] [("deposit", V.int 20), ("fee_base", V.int 5), ("fee_weight", V.int 1), ("fee_step", V.int 2), ("coin_base", V.int 2), ("epoch_length", V.int 10), ("share", V.int 50), ("depth", V.int 4), ("most_steps", V.int 20000)] (gI [1, 2, 3, 4, 0, 5, 6, 7, 8, 9]) (by decide) (by decide +kernel) (gI_vals _) (fun D doc pm an cdv ct us mv ws h1 h2 h3 => match us, h1, mv, h2, ws, h3 with | [_], _, [_, _, _, _, _, _, _, _, _], _, [_], _ => ⟨_, _, _, _, _, _, rfl, rfl, ⟨_, _, _, _, _, _, rfl, rfl, ⟨_, _, _, _, _, _, rfl, rfl, ⟨_, _, _, _, _, _, rfl, rfl, ⟨_, _, _, _, _, _, rfl, rfl, ⟨_, _, _, _, _, _, rfl, rfl, ⟨_, _, _, _, _, _, rfl, rfl, ⟨_, _, _, _, _, _, rfl, rfl, ⟨_, _, _, _, _, _, rfl, rfl, rfl⟩⟩⟩⟩⟩⟩⟩⟩⟩)
theorem kb_s5 {K : PySem.W.Frag} {f : Addr} {fd : FuncData} (F : FunD K "__init__" "Params.__init__" (defArgs s_Params___init) (defBody s_Params___init) (defScope s_Params___init) [] kwP f fd) : ∃ mv : List Value, KBn K fd fN' 1 ["coin_base"] (fun us ws => gI [1, 2, 3, 4, 5, 0, 6, 7, 8, 9] us mv ws) (fun vs zs => gI [1, 2, 3, 4, 5, 0, 6, 7, 8, 9] vs [V.int 20, V.int 5, V.int 1, V.int 2, V.int 150, V.int 10, V.int 50, V.int 4, V.int 20000] zs) :=
  F.kbinds0 (ps := fN') 1 ["coin_base"] [("deposit", V.int 20), ("fee_base", V.int 5), ("fee_weight", V.int 1), ("fee_step", V.int 2), ("pledge_rate", V.int 150), ("epoch_length", V.int 10), ("share", V.int 50), ("depth", V.int 4), ("most_steps", V.int 20000)] (gI [1, 2, 3, 4, 5, 0, 6, 7, 8, 9]) (by decide) (by decide +kernel) (gI_vals _) (fun D doc pm an cdv ct us mv ws h1 h2 h3 => match us, h1, mv, h2, ws, h3 with | [_], _, [_, _, _, _, _, _, _, _, _], _, [_], _ => ⟨_, _, _, _, _, _, rfl, rfl, ⟨_, _, _, _, _, _, rfl, rfl, ⟨_, _, _, _, _, _, rfl, rfl, ⟨_, _, _, _, _, _, rfl, rfl, ⟨_, _, _, _, _, _, rfl, rfl, ⟨_, _, _, _, _, _, rfl, rfl, ⟨_, _, _, _, _, _, rfl, rfl, ⟨_, _, _, _, _, _, rfl, rfl, ⟨_, _, _, _, _, _, rfl, rfl, rfl⟩⟩⟩⟩⟩⟩⟩⟩⟩)
theorem kb_s6 {K : PySem.W.Frag} {f : Addr} {fd : FuncData} (F : FunD K "__init__" "Params.__init__" (defArgs s_Params___init) (defBody s_Params___init) (defScope s_Params___init) [] kwP f fd) : ∃ mv : List Value, KBn K fd fN' 1 ["epoch_length"] (fun us ws => gI [1, 2, 3, 4, 5, 6, 0, 7, 8, 9] us mv ws) (fun vs zs => gI [1, 2, 3, 4, 5, 6, 0, 7, 8, 9] vs [V.int 20, V.int 5, V.int 1, V.int 2, V.int 150, V.int 2, V.int 50, V.int 4, V.int 20000] zs) :=
  F.kbinds0 (ps := fN') 1 ["epoch_length"] [("deposit", V.int 20), ("fee_base", V.int 5), ("fee_weight", V.int 1), ("fee_step", V.int 2), ("pledge_rate", V.int 150), ("coin_base", V.int 2), ("share", V.int 50), ("depth", V.int 4), ("most_steps", V.int 20000)] (gI [1, 2, 3, 4, 5, 6, 0, 7, 8, 9]) (by decide) (by decide +kernel) (gI_vals _) (fun D doc pm an cdv ct us mv ws h1 h2 h3 => match us, h1, mv, h2, ws, h3 with | [_], _, [_, _, _, _, _, _, _, _, _], _, [_], _ => ⟨_, _, _, _, _, _, rfl, rfl, ⟨_, _, _, _, _, _, rfl, rfl, ⟨_, _, _, _, _, _, rfl, rfl, ⟨_, _, _, _, _, _, rfl, rfl, ⟨_, _, _, _, _, _, rfl, rfl, ⟨_, _, _, _, _, _, rfl, rfl, ⟨_, _, _, _, _, _, rfl, rfl, ⟨_, _, _, _, _, _, rfl, rfl, ⟨_, _, _, _, _, _, rfl, rfl, rfl⟩⟩⟩⟩⟩⟩⟩⟩⟩)
theorem kb_s7 {K : PySem.W.Frag} {f : Addr} {fd : FuncData} (F : FunD K "__init__" "Params.__init__" (defArgs s_Params___init) (defBody s_Params___init) (defScope s_Params___init) [] kwP f fd) : ∃ mv : List Value, KBn K fd fN' 1 ["share"] (fun us ws => gI [1, 2, 3, 4, 5, 6, 7, 0, 8, 9] us mv ws) (fun vs zs => gI [1, 2, 3, 4, 5, 6, 7, 0, 8, 9] vs [V.int 20, V.int 5, V.int 1, V.int 2, V.int 150, V.int 2, V.int 10, V.int 4, V.int 20000] zs) :=
  F.kbinds0 (ps := fN') 1 ["share"] [("deposit", V.int 20), ("fee_base", V.int 5), ("fee_weight", V.int 1), ("fee_step", V.int 2), ("pledge_rate", V.int 150), ("coin_base", V.int 2), ("epoch_length", V.int 10), ("depth", V.int 4), ("most_steps", V.int 20000)] (gI [1, 2, 3, 4, 5, 6, 7, 0, 8, 9]) (by decide) (by decide +kernel) (gI_vals _) (fun D doc pm an cdv ct us mv ws h1 h2 h3 => match us, h1, mv, h2, ws, h3 with | [_], _, [_, _, _, _, _, _, _, _, _], _, [_], _ => ⟨_, _, _, _, _, _, rfl, rfl, ⟨_, _, _, _, _, _, rfl, rfl, ⟨_, _, _, _, _, _, rfl, rfl, ⟨_, _, _, _, _, _, rfl, rfl, ⟨_, _, _, _, _, _, rfl, rfl, ⟨_, _, _, _, _, _, rfl, rfl, ⟨_, _, _, _, _, _, rfl, rfl, ⟨_, _, _, _, _, _, rfl, rfl, ⟨_, _, _, _, _, _, rfl, rfl, rfl⟩⟩⟩⟩⟩⟩⟩⟩⟩)
theorem kb_s8 {K : PySem.W.Frag} {f : Addr} {fd : FuncData} (F : FunD K "__init__" "Params.__init__" (defArgs s_Params___init) (defBody s_Params___init) (defScope s_Params___init) [] kwP f fd) : ∃ mv : List Value, KBn K fd fN' 1 ["depth"] (fun us ws => gI [1, 2, 3, 4, 5, 6, 7, 8, 0, 9] us mv ws) (fun vs zs => gI [1, 2, 3, 4, 5, 6, 7, 8, 0, 9] vs [V.int 20, V.int 5, V.int 1, V.int 2, V.int 150, V.int 2, V.int 10, V.int 50, V.int 20000] zs) :=
  F.kbinds0 (ps := fN') 1 ["depth"] [("deposit", V.int 20), ("fee_base", V.int 5), ("fee_weight", V.int 1), ("fee_step", V.int 2), ("pledge_rate", V.int 150), ("coin_base", V.int 2), ("epoch_length", V.int 10), ("share", V.int 50), ("most_steps", V.int 20000)] (gI [1, 2, 3, 4, 5, 6, 7, 8, 0, 9]) (by decide) (by decide +kernel) (gI_vals _) (fun D doc pm an cdv ct us mv ws h1 h2 h3 => match us, h1, mv, h2, ws, h3 with | [_], _, [_, _, _, _, _, _, _, _, _], _, [_], _ => ⟨_, _, _, _, _, _, rfl, rfl, ⟨_, _, _, _, _, _, rfl, rfl, ⟨_, _, _, _, _, _, rfl, rfl, ⟨_, _, _, _, _, _, rfl, rfl, ⟨_, _, _, _, _, _, rfl, rfl, ⟨_, _, _, _, _, _, rfl, rfl, ⟨_, _, _, _, _, _, rfl, rfl, ⟨_, _, _, _, _, _, rfl, rfl, ⟨_, _, _, _, _, _, rfl, rfl, rfl⟩⟩⟩⟩⟩⟩⟩⟩⟩)
theorem kb_s9 {K : PySem.W.Frag} {f : Addr} {fd : FuncData} (F : FunD K "__init__" "Params.__init__" (defArgs s_Params___init) (defBody s_Params___init) (defScope s_Params___init) [] kwP f fd) : ∃ mv : List Value, KBn K fd fN' 1 ["most_steps"] (fun us ws => gI [1, 2, 3, 4, 5, 6, 7, 8, 9, 0] us mv ws) (fun vs zs => gI [1, 2, 3, 4, 5, 6, 7, 8, 9, 0] vs [V.int 20, V.int 5, V.int 1, V.int 2, V.int 150, V.int 2, V.int 10, V.int 50, V.int 4] zs) :=
  F.kbinds0 (ps := fN') 1 ["most_steps"] [("deposit", V.int 20), ("fee_base", V.int 5), ("fee_weight", V.int 1), ("fee_step", V.int 2), ("pledge_rate", V.int 150), ("coin_base", V.int 2), ("epoch_length", V.int 10), ("share", V.int 50), ("depth", V.int 4)] (gI [1, 2, 3, 4, 5, 6, 7, 8, 9, 0]) (by decide) (by decide +kernel) (gI_vals _) (fun D doc pm an cdv ct us mv ws h1 h2 h3 => match us, h1, mv, h2, ws, h3 with | [_], _, [_, _, _, _, _, _, _, _, _], _, [_], _ => ⟨_, _, _, _, _, _, rfl, rfl, ⟨_, _, _, _, _, _, rfl, rfl, ⟨_, _, _, _, _, _, rfl, rfl, ⟨_, _, _, _, _, _, rfl, rfl, ⟨_, _, _, _, _, _, rfl, rfl, ⟨_, _, _, _, _, _, rfl, rfl, ⟨_, _, _, _, _, _, rfl, rfl, ⟨_, _, _, _, _, _, rfl, rfl, ⟨_, _, _, _, _, _, rfl, rfl, rfl⟩⟩⟩⟩⟩⟩⟩⟩⟩)
theorem kb_n {K : PySem.W.Frag} {f : Addr} {fd : FuncData} (F : FunD K "__init__" "Params.__init__" (defArgs s_Params___init) (defBody s_Params___init) (defScope s_Params___init) [] kwP f fd) : ∃ ds, Vals (kwP.map (·.2)) ds ∧ Binds K fd fN' ds :=
  F.binds0 (ps := fN') 1 (by decide) rfl (fun D doc pm an cdv ct us mv h1 h2 => match us, h1, mv, h2 with | [_], _, [_, _, _, _, _, _, _, _, _, _], _ => ⟨_, _, _, _, _, _, rfl, rfl, ⟨_, _, _, _, _, _, rfl, rfl, ⟨_, _, _, _, _, _, rfl, rfl, ⟨_, _, _, _, _, _, rfl, rfl, ⟨_, _, _, _, _, _, rfl, rfl, ⟨_, _, _, _, _, _, rfl, rfl, ⟨_, _, _, _, _, _, rfl, rfl, ⟨_, _, _, _, _, _, rfl, rfl, ⟨_, _, _, _, _, _, rfl, rfl, ⟨_, _, _, _, _, _, rfl, rfl, rfl⟩⟩⟩⟩⟩⟩⟩⟩⟩⟩)
end Bk42

set_option Elab.async false
set_option linter.all false
set_option maxRecDepth 100000
set_option maxHeartbeats 4000000
namespace NK42
open PySem PySem.Spec PyProof.Rows L2
abbrev FnP (K : PySem.W.Frag) (x : Str) (st : Stmt) (f : Addr) (fd : FuncData) : Prop := FunD K x x (defArgs st) (defBody st) (defScope st) [] [] f fd
/-- a def that keeps its promise, where the module finds it -/
structure Cal (P : Program) (w : World) (K : PySem.W.Frag) (mg : Str → Option Value) (base : Heap) (x : Str) (k : Nat) (ps : List Str) (sp : Sp) : Prop where
  ex : ∃ f fd, mg x = some (.ref f) ∧ PySem.W.keepIn K (.ref f) = true ∧ Binds K fd ps [] ∧ FnOk P w K mg base CX0 k f fd ps sp
structure CalM (P : Program) (w : World) (K : PySem.W.Frag) (mg : Str → Option Value) (base : Heap) (fa : Addr) (k : Nat) (ps : List Str) (dvs : List V) (sp : Sp) : Prop where
  ex : ∃ fd, Binds K fd ps [] ∧ FnOk P w K mg base CX0 k fa fd ps sp ∧ ∃ ds, Vals dvs ds ∧ Binds K fd ps ds
abbrev N_Params___init : List Str := ["self", "deposit", "fee_base", "fee_weight", "fee_step", "pledge_rate", "coin_base", "epoch_length", "share", "depth", "most_steps"]
theorem sc_Params___init : FnScope N_Params___init ["self", "deposit", "fee_base", "fee_weight", "fee_step", "pledge_rate", "coin_base", "epoch_length", "share", "depth", "most_steps"] (defScope s_Params___init) := ⟨rfl, rfl, rfl, by decide +kernel, rfl, by decide +kernel, by decide +kernel⟩
abbrev N_KeptError___init : List Str := ["self", "what"]
theorem sc_KeptError___init : FnScope N_KeptError___init ["self", "what"] (defScope s_KeptError___init) := ⟨rfl, rfl, rfl, by decide +kernel, rfl, by decide +kernel, by decide +kernel⟩
abbrev N_law_cell : List Str := ["script", "k"]
theorem sc_law_cell : FnScope N_law_cell ["script", "k"] (defScope s_law_cell) := ⟨rfl, rfl, rfl, by decide +kernel, rfl, by decide +kernel, by decide +kernel⟩
abbrev N_law_numbers : List Str := ["cell", "many", "rest", "size", "numbers", "k", "mixed"]
theorem sc_law_numbers : FnScope N_law_numbers ["cell", "many"] (defScope s_law_numbers) := ⟨rfl, rfl, rfl, by decide +kernel, rfl, by decide +kernel, by decide +kernel⟩
abbrev N_law_stream : List Str := ["script", "k", "many"]
theorem sc_law_stream : FnScope N_law_stream ["script", "k", "many"] (defScope s_law_stream) := ⟨rfl, rfl, rfl, by decide +kernel, rfl, by decide +kernel, by decide +kernel⟩
abbrev N_law_between : List Str := ["numbers", "at", "low", "high", "six", "wide", "k"]
theorem sc_law_between : FnScope N_law_between ["numbers", "at", "low", "high"] (defScope s_law_between) := ⟨rfl, rfl, rfl, by decide +kernel, rfl, by decide +kernel, by decide +kernel⟩
abbrev N_law_same : List Str := ["actual", "expected", "k"]
theorem sc_law_same : FnScope N_law_same ["actual", "expected"] (defScope s_law_same) := ⟨rfl, rfl, rfl, by decide +kernel, rfl, by decide +kernel, by decide +kernel⟩
abbrev N_law_values : List Str := ["numbers", "tops", "lows", "usual", "values", "k"]
theorem sc_law_values : FnScope N_law_values ["numbers"] (defScope s_law_values) := ⟨rfl, rfl, rfl, by decide +kernel, rfl, by decide +kernel, by decide +kernel⟩
abbrev N_law_shown : List Str := ["params", "first"]
theorem sc_law_shown : FnScope N_law_shown ["params"] (defScope s_law_shown) := ⟨rfl, rfl, rfl, by decide +kernel, rfl, by decide +kernel, by decide +kernel⟩
abbrev N_law_params_hold : List Str := ["values", "other", "some", "whole", "turned", "usual", "parts", "k", "pair", "due"]
theorem sc_law_params_hold : FnScope N_law_params_hold ["values", "other", "some"] (defScope s_law_params_hold) := ⟨rfl, rfl, rfl, by decide +kernel, rfl, by decide +kernel, by decide +kernel⟩
abbrev N_law_family : List Str := ["e"]
theorem sc_law_family : FnScope N_law_family ["e"] (defScope s_law_family) := ⟨rfl, rfl, rfl, by decide +kernel, rfl, by decide +kernel, by decide +kernel⟩
abbrev N_law_errors_hold : List Str := ["errors", "family", "thing", "e", "k"]
theorem sc_law_errors_hold : FnScope N_law_errors_hold ["errors", "family", "thing"] (defScope s_law_errors_hold) := ⟨rfl, rfl, rfl, by decide +kernel, rfl, by decide +kernel, by decide +kernel⟩
abbrev N_law_made_errors : List Str := ["x", "shapes", "rules", "chains"]
theorem sc_law_made_errors : FnScope N_law_made_errors ["x"] (defScope s_law_made_errors) := ⟨rfl, rfl, rfl, by decide +kernel, rfl, by decide +kernel, by decide +kernel⟩
abbrev N_law : List Str := ["script", "numbers", "values", "other", "some", "cell", "near", "thing", "made", "k", "plain", "e", "whole"]
theorem sc_law : FnScope N_law ["script"] (defScope s_law) := ⟨rfl, rfl, rfl, by decide +kernel, rfl, by decide +kernel, by decide +kernel⟩

open Bd
def B3 (ns : List Int) : Prop := ∀ x ∈ ns, 0 ≤ x ∧ x < 1000
def fN : List Str := ["deposit","fee_base","fee_weight","fee_step","pledge_rate","coin_base","epoch_length","share","depth","most_steps"]
/-- parameters with the ten values stand at b -/
def PAt (K : PySem.W.Frag) (H : Hp) (b : Addr) (l : List Int) : Prop := ∃ dx, H b = some (.ins (He.ga K "Params") dx (fN.zip (l.map V.int)))
theorem PAt.keep {K : PySem.W.Frag} {H H' : Hp} {b : Addr} {l : List Int} (e : Same H H') (h : PAt K H b l) : PAt K H' b l := ⟨h.choose, e _ _ h.choose_spec⟩
structure PFacts (K : PySem.W.Frag) (mg : Str → Option Value) : Prop where
  m : mg "Params" = some (.ref (He.ga K "Params"))
  cls : Cls K (He.ga K "Params")
  mkr : Mk K (He.ga K "Params") (He.fAd K ("Params", some "__init__"))
  n0 : NoAttr K (He.ga K "Params") "deposit"
  n1 : NoAttr K (He.ga K "Params") "fee_base"
  n2 : NoAttr K (He.ga K "Params") "fee_weight"
  n3 : NoAttr K (He.ga K "Params") "fee_step"
  n4 : NoAttr K (He.ga K "Params") "pledge_rate"
  n5 : NoAttr K (He.ga K "Params") "coin_base"
  n6 : NoAttr K (He.ga K "Params") "epoch_length"
  n7 : NoAttr K (He.ga K "Params") "share"
  n8 : NoAttr K (He.ga K "Params") "depth"
  n9 : NoAttr K (He.ga K "Params") "most_steps"
def GloL (K : PySem.W.Frag) (mg : Str → Option Value) : List Str → Prop
  | [] => True
  | n :: ns => mg n = some (.ref (He.ga K n)) ∧ GloL K mg ns
theorem glo_mem {K : PySem.W.Frag} {mg : Str → Option Value} : ∀ {ns : List Str}, GloL K mg ns → ∀ n ∈ ns, mg n = some (.ref (He.ga K n))
  | m :: ns, h, n, hn => (List.mem_cons.mp hn).elim (fun e => by rw [e]; exact h.1) (fun e => glo_mem h.2 n e)
theorem glo_all {K : PySem.W.Frag} {mg : Str → Option Value} (h : GloL K mg EN) : ∀ n ∈ EN, mg n = some (.ref (He.ga K n)) := glo_mem h
structure EFacts (K : PySem.W.Frag) (mg : Str → Option Value) : Prop where
  m : ∀ n ∈ EN, mg n = some (.ref (He.ga K n))
  b : efB K = true
section
variable {K : PySem.W.Frag} {mg : Str → Option Value}
theorem EFacts.all (W : EFacts K mg) {p : Str × Int} (h : p ∈ EF) : XC K (He.ga K p.1) (He.fAd K ("KeptError", some "__init__")) ∧ (∀ q ∈ FN, PySem.W.kitOne K (.ref (He.ga K p.1)) (.ref (He.ga K q.1)) = some (decide (p.2 = q.2))) ∧
    PySem.W.kitOne K (.ref (He.ga K p.1)) (.ref (He.ga K "KeptError")) = some true ∧ PySem.W.kitOne K (.ref (He.ga K p.1)) (.type "ValueError") = some true := by
  have q := List.all_eq_true.mp W.b p h
  simp only [Bool.and_eq_true, decide_eq_true_eq] at q
  exact ⟨xcB_ok q.1, fun r hr => of_decide_eq_true (List.all_eq_true.mp q.2.1 r hr), q.2.2.1, q.2.2.2⟩
theorem EFacts.xc (W : EFacts K mg) (n : Str) (h : n ∈ EN) : XC K (He.ga K n) (He.fAd K ("KeptError", some "__init__")) := by
  obtain ⟨p, hp, rfl⟩ := List.mem_map.mp (EN_eq ▸ h)
  exact (W.all hp).1
end
/-- errors of family j with the field x -/
def ErrL (K : PySem.W.Frag) (H : Hp) (es : List V) (j : Int) (x : V) : Prop := ∀ e ∈ es, ∃ a n, e = V.ref a ∧ (n, j) ∈ EF ∧ ErrAt H a (He.ga K n) x
theorem ErrAt.keep {H H' : Hp} {a C : Addr} {x : V} (e : Same H H') (h : ErrAt H a C x) : ErrAt H' a C x := by
  obtain ⟨d, h1, h2⟩ := h
  exact ⟨d, e _ _ h1, e _ _ h2⟩
theorem ErrL.keep {K : PySem.W.Frag} {H H' : Hp} {es : List V} {j : Int} {x : V} (e : Same H H') (h : ErrL K H es j x) : ErrL K H' es j x := fun y hy => by
  obtain ⟨a, n, e1, e2, e3⟩ := h y hy
  exact ⟨a, n, e1, e2, ErrAt.keep e e3⟩
theorem ErrL.app {K : PySem.W.Frag} {H : Hp} {es fs : List V} {j : Int} {x : V} (h : ErrL K H es j x) (k : ErrL K H fs j x) : ErrL K H (es ++ fs) j x := fun y hy => (List.mem_append.mp hy).elim (h y) (k y)
def famV (j : Int) : List V := FN.map fun q => V.bl (decide (j = q.2))
def atomD : PyData → Bool
  | .none => true
  | .bool _ => true
  | .int _ => true
  | .str _ => true
  | _ => false
def flatD : PyData → Bool
  | .tuple ds => decide (ds.length ≤ 1000) && ds.all atomD
  | d => atomD d
def rkD : PyData → Nat
  | .tuple _ => 1
  | _ => 0
theorem atom_rk {d : PyData} (h : atomD d = true) : rkD d = 0 := by
  cases d <;> first | rfl | cases h
theorem atom_flat {d : PyData} (h : atomD d = true) : flatD d = true := by
  cases d <;> first | exact h | cases h
theorem atom_get {ds : List PyData} {i : Nat} (h : ds.all atomD = true) (hi : i < ds.length) : atomD (ds.getD i .none) = true := by
  refine List.all_eq_true.mp h _ ?_
  rw [List.getD_eq_getElem?_getD, List.getElem?_eq_getElem hi]
  exact List.getElem_mem hi
theorem ten {l : List Int} (h : l.length = 10) : ∃ a b c d e f g i j k, l = [a, b, c, d, e, f, g, i, j, k] := by
  match l, h with
  | [a, b, c, d, e, f, g, i, j, k], _ => exact ⟨a, b, c, d, e, f, g, i, j, k, rfl⟩
theorem dp_ints {K : PySem.W.Frag} {H : Hp} : ∀ {l : List Int}, DpAll K H (l.map V.int) (l.map PyData.int)
  | [] => .nil
  | i :: l => .cons (.int i) dp_ints
theorem dp_bls {K : PySem.W.Frag} {H : Hp} : ∀ {l : List Bool}, DpAll K H (l.map V.bl) (l.map PyData.bool)
  | [] => .nil
  | i :: l => .cons (.bl i) dp_bls
theorem slA {K : PySem.W.Frag} {H : Hp} {Q : VK} {a : Addr} {xs : List V} {lo hi : Option Int} (h : SqT K H a xs) (k : ∀ p H', Same H H' → SqT K H' p (cutV xs lo hi) → Q (.ref p) H') : rSlA K (.ref a) lo hi H Q :=
  ⟨a, xs, rfl, h, fun w => k a H (Same.refl H) (by unfold cutV; rw [w.1, w.2, List.drop_zero, Nat.sub_zero, List.take_length]; exact h), fun _ p hp => k p _ (Rd.same_new hp) Rd.slT⟩
theorem six {l : List Int} (h : l.length = 6) : ∃ a b c d e f, l = [a, b, c, d, e, f] := by
  match l, h with
  | [a, b, c, d, e, f], _ => exact ⟨a, b, c, d, e, f, rfl⟩
theorem lohi : ∀ i : Nat, i < 10 → ∃ lo hi : Int, ([V.int 0, V.int 0, V.int 0, V.int 0, V.int 0, V.int 1, V.int 2, V.int 0, V.int 0, V.int 0] : List V)[i]? = some (V.int lo) ∧ ([V.int 1000000, V.int 1000, V.int 1000, V.int 1000, V.int 10000, V.int 1000, V.int 1000, V.int 1000, V.int 50, V.int 100000] : List V)[i]? = some (V.int hi) ∧ lo ≤ hi
  | 0, _ => ⟨_, _, rfl, rfl, by decide⟩
  | 1, _ => ⟨_, _, rfl, rfl, by decide⟩
  | 2, _ => ⟨_, _, rfl, rfl, by decide⟩
  | 3, _ => ⟨_, _, rfl, rfl, by decide⟩
  | 4, _ => ⟨_, _, rfl, rfl, by decide⟩
  | 5, _ => ⟨_, _, rfl, rfl, by decide⟩
  | 6, _ => ⟨_, _, rfl, rfl, by decide⟩
  | 7, _ => ⟨_, _, rfl, rfl, by decide⟩
  | 8, _ => ⟨_, _, rfl, rfl, by decide⟩
  | 9, _ => ⟨_, _, rfl, rfl, by decide⟩
  | n + 10, h => by omega
def isI : V → Bool
  | .int _ => true
  | _ => false
theorem isI_ex {v : V} (h : isI v = true) : ∃ i, v = .int i := by
  cases v <;> first | exact ⟨_, rfl⟩ | cases h
theorem rk2 (d : PyData) : rkD d < 2 := by
  cases d <;> first | exact Nat.lt_succ_self 1 | exact Nat.zero_lt_succ 1
def famL (j : Int) : List V := (List.range 8).map fun (q : Nat) => V.bl (decide ((q : Int) = j))
theorem fam_eq (j : Int) : famL j = famV j := by
  have h : ∀ q : Int, decide (q = j) = decide (j = q) := fun q => by rw [decide_eq_decide]; exact eq_comm
  show (List.range 8).map (fun (q : Nat) => V.bl (decide ((q : Int) = j))) = famV j
  simp only [h]
  rfl
def famD (j : Int) : PyData := .tuple ((FN.map fun q => decide (j = q.2)).map PyData.bool)
theorem famD_ok {K : PySem.W.Frag} {H : Hp} {p : Addr} {j : Int} (h : H p = some (.tup (famV j))) : Dp K H (.ref p) (famD j) := .tup (SqT.of h) (dp_bls (l := FN.map fun q => decide (j = q.2)))
theorem famD_flat (j : Int) : flatD (famD j) = true := rfl
def usI : List Int := [20, 5, 1, 2, 150, 2, 10, 50, 4, 20000]
theorem cut10 (z : Int) : ∀ i : Nat, i < 10 → (cutV (usI.map V.int) none (some (i : Int)) ++ [V.int z]) ++ cutV (usI.map V.int) (some ((i : Int) + 1)) none = (usI.set i z).map V.int
  | 0, _ => rfl
  | 1, _ => rfl
  | 2, _ => rfl
  | 3, _ => rfl
  | 4, _ => rfl
  | 5, _ => rfl
  | 6, _ => rfl
  | 7, _ => rfl
  | 8, _ => rfl
  | 9, _ => rfl
  | n + 10, h => by omega
theorem flat_ints {l : List Int} (h : l.length ≤ 1000) : flatD (.tuple (l.map PyData.int)) = true := by
  show (decide ((l.map PyData.int).length ≤ 1000) && (l.map PyData.int).all atomD) = true
  rw [List.length_map, decide_eq_true h, Bool.true_and, List.all_map]
  exact List.all_eq_true.mpr fun _ _ => rfl

def sp_Params___init (K : PySem.W.Frag) : Sp := fun vs H Q _ => ∃ (b dx : Addr) (i0 i1 i2 i3 i4 i5 i6 i7 i8 i9 : Int), vs = [.ref b, .int i0, .int i1, .int i2, .int i3, .int i4, .int i5, .int i6, .int i7, .int i8, .int i9] ∧ (H b = some (.ins (He.ga K "Params") dx [])) ∧ (∀ H', (∀ a o, a ≠ b → H a = some o → H' a = some o) → PAt K H' b [i0, i1, i2, i3, i4, i5, i6, i7, i8, i9] → Q .non H')
def sp_KeptError___init (K : PySem.W.Frag) : Sp := fun vs H Q _ => ∃ (a C : Addr) (x : V), vs = [.ref a, x] ∧ (XC K C (He.fAd K ("KeptError", some "__init__"))) ∧ (H a = some (exo a C none)) ∧ (∀ H', (∀ b o, b ≠ a → H b = some o → H' b = some o) → ErrAt H' a C x → Q .non H')
def sp_law_cell (K : PySem.W.Frag) : Sp := fun vs H Q _ => ∃ (a : Addr) (ns : List Int) (i : Int), vs = [.ref a, .int i] ∧ (SqL K H a (ns.map V.int)) ∧ (0 ≤ i) ∧ (∀ z, Q (.int z) H)
def sp_law_numbers (K : PySem.W.Frag) : Sp := fun vs H Q _ => ∃ (c m : Int), vs = [.int c, .int m] ∧ (0 ≤ m ∧ m ≤ 1000) ∧ (∀ p (nums : List Int) H', Same H H' → H p = none → H' p = some (.lst (nums.map V.int)) → nums.length = m.toNat → B3 nums → Q (.ref p) H')
def sp_law_stream (K : PySem.W.Frag) : Sp := fun vs H Q _ => ∃ (a : Addr) (ns : List Int) (i m : Int), vs = [.ref a, .int i, .int m] ∧ (SqL K H a (ns.map V.int)) ∧ (0 ≤ i) ∧ (0 ≤ m ∧ m ≤ 1000) ∧ (∀ p (nums : List Int) H', Same H H' → H p = none → H' p = some (.lst (nums.map V.int)) → nums.length = m.toNat → B3 nums → Q (.ref p) H')
def sp_law_between (K : PySem.W.Frag) : Sp := fun vs H Q _ => ∃ (b : Addr) (ns : List Int) (t lo hi : Int), vs = [.ref b, .int t, .int lo, .int hi] ∧ (H b = some (.lst (ns.map V.int))) ∧ (ns.length = 80) ∧ (B3 ns) ∧ (lo ≤ hi) ∧ (∀ z H', Same H H' → Q (.int z) H')
def sp_law_same (K : PySem.W.Frag) (turns : Nat) : Sp := fun vs H Q _ => ∃ (x y : V) (d : PyData), vs = [x, y] ∧ (Dp K H x d) ∧ (Dp K H y d) ∧ (flatD d = true) ∧ (rkD d < turns) ∧ (Q (.bl true) H)
def sp_law_values (K : PySem.W.Frag) : Sp := fun vs H Q _ => ∃ (b : Addr) (ns : List Int), vs = [.ref b] ∧ (H b = some (.lst (ns.map V.int))) ∧ (ns.length = 80) ∧ (B3 ns) ∧ (∀ p (vs : List Int) H', Same H H' → H p = none → H' p = some (.lst (vs.map V.int)) → vs.length = 10 → Q (.ref p) H')
def sp_law_shown (K : PySem.W.Frag) : Sp := fun vs H Q _ => ∃ (b : Addr) (l : List Int), vs = [.ref b] ∧ (PAt K H b l) ∧ (l.length = 10) ∧ (∀ p H', Same H H' → H' p = some (.tup (l.map V.int)) → Q (.ref p) H')
def sp_law_params_hold (K : PySem.W.Frag) : Sp := fun vs H Q _ => ∃ (a b c : Addr) (xs ys zs : List Int), vs = [.ref a, .ref b, .ref c] ∧ (H a = some (.lst (xs.map V.int))) ∧ (H b = some (.lst (ys.map V.int))) ∧ (H c = some (.lst (zs.map V.int))) ∧ (xs.length = 10) ∧ (ys.length = 10) ∧ (zs.length = 10) ∧ (∀ H', Same H H' → Q (.bl true) H')
def sp_law_family (K : PySem.W.Frag) : Sp := fun vs H Q _ => ∃ (a : Addr) (n : Str) (j : Int) (x : V), vs = [.ref a] ∧ ((n, j) ∈ EF) ∧ (ErrAt H a (He.ga K n) x) ∧ (∀ p H', Same H H' → H' p = some (.tup (famV j)) → Q (.ref p) H')
def sp_law_errors_hold (K : PySem.W.Frag) : Sp := fun vs H Q _ => ∃ (l : Addr) (es : List V) (j : Int) (x : V) (d : PyData), vs = [.ref l, .int j, x] ∧ (H l = some (.lst es)) ∧ (ErrL K H es j x) ∧ (0 ≤ j ∧ j < 9) ∧ (es.length ≤ 100) ∧ (Dp K H x d) ∧ (flatD d = true) ∧ (∀ H', Same H H' → Q (.bl true) H')
def sp_law_made_errors (K : PySem.W.Frag) : Sp := fun vs H Q _ => ∃ (x : V), vs = [x] ∧ (∀ p ls H', Same H H' → H' p = some (.lst ls) → ls.length = 8 → (∀ i : Nat, i < 8 → ∃ l es, ls[i]? = some (.ref l) ∧ H' l = some (.lst es) ∧ ErrL K H' es (i : Int) x ∧ es.length ≤ 100) → Q (.ref p) H')
def sp_law (K : PySem.W.Frag) : Sp := fun vs H Q _ => ∃ (a : Addr) (ns : List Int), vs = [.ref a] ∧ (SqL K H a (ns.map V.int)) ∧ (ns.length ≤ 63) ∧ (∀ H', Q (.bl true) H')
local macro_rules | `(tactic| walk_at "cnd") => `(tactic| first
  | ((with_reducible show CMul _ _); first | (exact Or.inl (And.intro (by omega) (by omega))) | (exact Or.inr (And.intro (by omega) (by omega))))
  | ((with_reducible show CDiv _ _); exact And.intro (by omega) (by omega))
  | ((with_reducible show CPow _ _); exact And.intro (by omega) (And.intro (by omega) (by omega)))
  | ((with_reducible show Rd.CDivX _ _); exact Rd.cdivX' (by omega) (by omega))
  | ((with_reducible show (_ : Int) < _); omega)
  | ((with_reducible show (_ : Int) ≠ _); omega))
local macro_rules | `(tactic| walk_at "hp") => `(tactic| first
  | assumption
  | (with_reducible exact Rd.slL)
  | (with_reducible exact Rd.slT)
  | (with_reducible exact upd_same)
  | ((with_reducible refine SqL.of ?_); walk_at "hq")
  | ((with_reducible refine SqT.of ?_); walk_at "hq")
  | ((with_reducible refine Rd.nl ‹_› ?_); walk_at "hp")
  | ((with_reducible refine Rd.nt ‹_› ?_); walk_at "hp")
  | ((with_reducible refine Rd.nh ‹_› ?_); walk_at "hp")
  | ((with_reducible refine Rd.ul (by assumption) ?_); walk_at "hp")
  | ((with_reducible refine Rd.ut (by assumption) ?_); walk_at "hp")
  | ((with_reducible refine Rd.uh (by assumption) ?_); walk_at "hp")
  | ((with_reducible refine Same.seq ‹Same _ _› ?_); walk_at "hp")
  | ((with_reducible refine Rd.same_tup ‹Same _ _› ?_); walk_at "hp")
  | ((with_reducible refine (‹Same _ _› : Same _ _) _ _ ?_); walk_at "hp")
  | walk_at "hq2")
local macro_rules | `(tactic| walk_at "hq") => `(tactic| first
  | assumption
  | (with_reducible exact upd_same)
  | ((with_reducible refine Rd.nh ‹_› ?_); walk_at "hq")
  | ((with_reducible refine Rd.uh (by assumption) ?_); walk_at "hq")
  | ((with_reducible refine (‹Same _ _› : Same _ _) _ _ ?_); walk_at "hq")
  | walk_at "hq2")
local macro_rules | `(tactic| walk_at "rd1") => `(tactic| first
  | (with_reducible refine Rd.seq ?_)
  | (with_reducible refine Rd.asg ?_)
  | (with_reducible refine Rd.opIsN ?_)
  | (with_reducible refine Rd.opNotN ?_)
  | (with_reducible refine Rd.opAddS ?_)
  | (with_reducible refine Rd.opInS ?_)
  | (with_reducible refine Rd.op ?_)
  | (with_reducible refine Rd.cst ?_)
  | ((with_reducible show tVar _ _ _ _); refine Rd.var rfl ?_)
  | (with_reducible refine Rd.cons ?_)
  | (with_reducible refine Rd.nil ?_)
  | (with_reducible refine Rd.opI0 ?_)
  | ((with_reducible show rI CPow _ (V.int 10) (V.int _) _ _); refine Rd.pw (z := 1000000000000000) ⟨by decide, by decide, by decide⟩ (by decide) ?_)
  | ((with_reducible show rI CPow _ (V.int 10) (V.int _) _ _); refine Rd.pw (z := 1000000000000000000) ⟨by decide, by decide, by decide⟩ (by decide) ?_)
  | ((with_reducible show rI CPow _ (V.int 10) (V.int _) _ _); refine Rd.pw (z := 1000000000) ⟨by decide, by decide, by decide⟩ (by decide) ?_)
  | ((with_reducible show rI CPow _ (V.int 10) (V.int _) _ _); refine Rd.pw (z := 1000000) ⟨by decide, by decide, by decide⟩ (by decide) ?_)
  | ((with_reducible show rI CPow _ (V.int 10) (V.int _) _ _); refine Rd.pw (z := 10000000000000000000000000000000000000000) ⟨by decide, by decide, by decide⟩ (by decide) ?_)
  | ((with_reducible refine Rd.opI ?_ ?_); (first | walk_at "cnd" | skip))
  | (with_reducible refine Rd.ret ?_)
  | (with_reducible refine Rd.ifS ?_)
  | (with_reducible refine Rd.tst ?_)
  | (with_reducible refine Rd.tB_ ?_)
  | (with_reducible refine Rd.bl ?_)
  | (with_reducible refine Rd.eqI ?_)
  | (with_reducible refine Rd.eqS' ?_)
  | (with_reducible refine Rd.eqS ?_)
  | (with_reducible refine Rd.eqB ?_)
  | (with_reducible refine Rd.neI ?_)
  | (with_reducible refine Rd.neS' ?_)
  | (with_reducible refine Rd.neS ?_)
  | (with_reducible refine Rd.neB ?_)
  | (with_reducible refine Rd.callN ?_)
  | (with_reducible refine Rd.cbLen ?_)
  | (with_reducible refine Rd.cbLenS ?_)
  | (with_reducible refine Rd.cbInt ?_)
  | (with_reducible refine Rd.cbIntS ?_)
  | (with_reducible refine Rd.cbAbs ?_)
  | (with_reducible refine Rd.cbStrI ?_)
  | (with_reducible refine Rd.cbLst ?_)
  | (with_reducible refine Rd.cbTup ?_)
  | (with_reducible refine Rd.cbMax2 ?_)
  | (with_reducible refine Rd.cbMin2 ?_)
  | (with_reducible refine Rd.cb ?_)
  | (with_reducible refine Rd.isN' ?_)
  | (with_reducible refine Rd.notN' ?_)
  | (with_reducible refine Rd.intB ?_)
  | (with_reducible refine Rd.max2 (fun _ _ _ _ => ?_))
  | (with_reducible refine Rd.min2 (fun _ _ _ _ => ?_))
  | (with_reducible refine Rd.int1 ?_)
  | (with_reducible refine Rd.abs1 (fun _ _ _ => ?_))
  | (with_reducible refine Rd.un ?_)
  | (with_reducible refine Rd.opU ?_)
  | (with_reducible refine Rd.tup ?_)
  | (with_reducible refine Rd.lst ?_)
  | (with_reducible refine Rd.len (Nat.le_of_ble_eq_true rfl) (fun _ _ => ?_))
  | (with_reducible refine Rd.next ?_)
  | (with_reducible refine Rd.chain ?_)
  | (with_reducible refine Rd.andV ?_)
  | (with_reducible refine Rd.orV ?_)
  | (with_reducible refine Rd.notV ?_)
  | (with_reducible refine Rd.and_ ?_)
  | (with_reducible refine Rd.or_ ?_)
  | (with_reducible refine Rd.not_ ?_)
  | (with_reducible refine Rd.ifE ?_)
  | (with_reducible refine Rd.iteT ?_)
  | (with_reducible refine Rd.iteF ?_)
  | (with_reducible refine Rd.iteD (fun _ => ?_) (fun _ => ?_))
  | (with_reducible refine Rd.iteN (fun _ => ?_) (fun _ => ?_))
  | (with_reducible refine Rd.drop ?_)
  | (with_reducible refine Rd.app ?_)
  | ((with_reducible refine Rd.tyL (xs := ?xs) ?h ?_); (case h => walk_at "hq"))
  | ((with_reducible refine Rd.appd (xs := ?xs) ?h ?z ?_); (case h => walk_at "hq"); (case z => walk_at "sz"))
  | ((with_reducible refine Rd.setL (xs := ?xs) (j := ?j) ?h ?e ?_); (case h => walk_at "hq"); (case e => rfl))
  | ((with_reducible refine Rd.lenL (ys := ?ys) ?h rfl ?_); (case h => walk_at "hp"))
  | ((with_reducible refine Rd.lenT (ys := ?ys) ?h rfl ?_); (case h => walk_at "hp"))
  | ((with_reducible refine Rd.ixL (xs := ?xs) (v := ?v) ?h ?a ?_); (case h => walk_at "hp"); (case a => walk_at "ix"))
  | ((with_reducible refine Rd.ixT (xs := ?xs) (v := ?v) ?h ?a ?_); (case h => walk_at "hp"); (case a => walk_at "ix"))
  | ((with_reducible refine Rd.isiI (r := ?r) ?e ?_); (case e => first | exact Rd.kb_int_int | exact Rd.kb_int_bool | exact Rd.kb_int_str | exact Rd.kb_int_tuple | exact Rd.kb_int_list | exact Rd.kb_int_dict))
  | ((with_reducible refine Rd.isiB (r := ?r) ?e ?_); (case e => first | exact Rd.kb_bool_int | exact Rd.kb_bool_bool | exact Rd.kb_bool_str | exact Rd.kb_bool_tuple | exact Rd.kb_bool_list | exact Rd.kb_bool_dict))
  | ((with_reducible refine Rd.isiS (r := ?r) ?e ?_); (case e => first | exact Rd.kb_str_int | exact Rd.kb_str_bool | exact Rd.kb_str_str | exact Rd.kb_str_tuple | exact Rd.kb_str_list | exact Rd.kb_str_dict))
  | ((with_reducible refine Rd.isiN (r := ?r) ?e ?_); (case e => first | exact Rd.kb_NoneType_int | exact Rd.kb_NoneType_bool | exact Rd.kb_NoneType_str | exact Rd.kb_NoneType_tuple | exact Rd.kb_NoneType_list | exact Rd.kb_NoneType_dict))
  | ((with_reducible refine Rd.isiT (xs := ?xs) (r := ?r) ?h ?e ?_); (case h => walk_at "hp"); (case e => first | exact Rd.kb_tuple_int | exact Rd.kb_tuple_bool | exact Rd.kb_tuple_str | exact Rd.kb_tuple_tuple | exact Rd.kb_tuple_list | exact Rd.kb_tuple_dict))
  | ((with_reducible refine Rd.isiL (xs := ?xs) (r := ?r) ?h ?e ?_); (case h => walk_at "hp"); (case e => first | exact Rd.kb_list_int | exact Rd.kb_list_bool | exact Rd.kb_list_str | exact Rd.kb_list_tuple | exact Rd.kb_list_list | exact Rd.kb_list_dict))
  | (with_reducible refine Rd.iteNT ?_)
  | (with_reducible refine Rd.iteNF ?_)
  | (with_reducible refine Rd.iteB (fun _ => ?_) (fun _ => ?_))
  | (with_reducible refine Rd.asgS ?_)
  | (with_reducible refine Rd.for_ ?_)
  | (with_reducible refine Rd.iR1 ?_)
  | (with_reducible refine Rd.iR2 ?_)
  | (with_reducible refine Rd.iL ?_)
  | (with_reducible refine Rd.iT ?_)
  | (with_reducible refine Rd.lc_ ?_)
  | (with_reducible refine Rd.brk ?_)
  | (with_reducible refine Rd.cont ?_)
  | (with_reducible refine Rd.retN ?_)
  | (with_reducible refine Rd.sl ?_)
  | ((with_reducible show tAug _ _ _ _ _ _); refine Rd.aug rfl ?_)
  | (with_reducible refine Rd.augI ?_)
  | (with_reducible refine Rd.inS ?_)
  | (with_reducible refine Rd.bm0 ?_)
  | (with_reducible refine Rd.revL ?_)
  | ((with_reducible refine Rd.slL' (xs := ?xs) ?h (fun _ _ => ?_)); (case h => walk_at "hp"))
  | ((with_reducible refine Rd.revL' (xs := ?xs) ?h (fun _ _ => ?_)); (case h => walk_at "hp"))
  | ((with_reducible refine Rd.catL (xs := ?xs) (ys := ?ys) ?a ?b ?z (fun _ _ => ?_)); (case a => walk_at "hq"); (case b => walk_at "hq"); (case z => walk_at "sz"))
  | (with_reducible refine Rd.nopart ?_)
  | (with_reducible refine Rd.part ?_)
  | (with_reducible refine Rd.part' ?_)
  | (with_reducible refine Rd.whlN ?_)
  | ((with_reducible refine Rd.addS' ?h ?_); (case h => walk_at "tz"))
  | ((with_reducible refine Rd.lenS' ?h ?_); (case h => walk_at "tz"))
  | ((with_reducible refine Rd.mulS1 ?h ?_); (case h => omega))
  | ((with_reducible refine Rd.ixS (c := ?c) ?h ?a ?_); (case h => walk_at "tz"); (case a => walk_at "ixs"))
  | walk_at "use")
local macro_rules | `(tactic| walk_at "sz") => `(tactic| first
  | (simp only [List.length_map, List.length_append, List.length_cons, List.length_nil]; omega)
  | omega | decide)
local macro_rules | `(tactic| walk_at "tz") => `(tactic| first
  | omega
  | (simp only [List.length_append, List.length_cons, List.length_nil, List.length_replicate]; omega)
  | decide)
local macro_rules | `(tactic| walk_at "ixs") => `(tactic| first
  | assumption
  | ((with_reducible show atI (_ :: _) _ = _); (first | rfl | exact Rd.atI_of (by decide) rfl)))
local macro_rules | `(tactic| walk_at "ix") => `(tactic| first
  | (with_reducible refine Rd.atI_ints ?_ ?_ <;> omega)
  | ((with_reducible show atI (_ :: _) _ = _); (first | rfl | exact Rd.atI_of (by decide) rfl))
  | ((with_reducible show atI (List.set (_ :: _) _ _) _ = _); rfl))
local macro_rules | `(tactic| walk_at "rd") => `(tactic| repeat' (walk_at "rd1"))
local macro_rules | `(tactic| walk_at "sm") => `(tactic| first
  | (with_reducible exact Same.refl _)
  | assumption
  | ((with_reducible refine Same.trans ?_ (Rd.same_new ‹_›)); walk_at "sm")
  | ((with_reducible refine Same.trans ?_ ‹Same _ _›); walk_at "sm"))

local macro_rules | `(tactic| walk_at "rj") => `(tactic| repeat' ((fail_if_success (with_reducible show tSeq (tIfS _ _ _) _ _ _ _)); walk_at "rd1"))


/-- the __init__ of Params as it stands in the written part -/
structure CalP (P : Program) (w : World) (K : PySem.W.Frag) (mg : Str → Option Value) (base : Heap) : Prop where
  ex : ∃ fd, FunD K "__init__" "Params.__init__" (defArgs s_Params___init) (defBody s_Params___init) (defScope s_Params___init) [] Bk42.kwP (He.fAd K ("Params", some "__init__")) fd ∧ FnOk P w K mg base CX0 1 (He.fAd K ("Params", some "__init__")) fd Bk42.fN' (sp_Params___init K)
section
variable {K : PySem.W.Frag} {mg : Str → Option Value}
theorem mkP {H1 : Hp} {Q : VK} {E : XK} {i0 i1 i2 i3 i4 i5 i6 i7 i8 i9 : Int} (k : ∀ H' c, Same H1 H' → PAt K H' c [i0, i1, i2, i3, i4, i5, i6, i7, i8, i9] → Q (.ref c) H') :
    ∀ x dx, H1 x = none → H1 dx = none → dx ≠ x → sp_Params___init K [.ref x, .int i0, .int i1, .int i2, .int i3, .int i4, .int i5, .int i6, .int i7, .int i8, .int i9] (upd (upd H1 dx (.own x)) x (.ins (He.ga K "Params") dx [])) (fun v H2 => v = .non ∧ Q (.ref x) H2) E := fun x dx hx hd ne => by
  have s1 : Same H1 (upd (upd H1 dx (.own x)) x (.ins (He.ga K "Params") dx [])) := fun b o e => by
    rw [upd_ne (ne_of_none e hx), upd_ne (ne_of_none e hd)]; exact e
  exact ⟨x, dx, _, _, _, _, _, _, _, _, _, _, rfl, upd_same, fun H' kp pa => ⟨rfl, k H' x (fun b o e => kp b o (ne_of_none e hx) (s1 b o e)) pa⟩⟩
theorem mkK0 {m : Nat} {C : Addr} {sp : Sp} {gV : List V → List V → List V} {E : XK} {tk : TA} {σ : L2.St} {H : Hp} {Q : VK} (k : tk σ H fun zs H2 => ([] : List V).length = 0 ∧ zs.length = m ∧ ∀ x dx, H2 x = none → H2 dx = none → dx ≠ x → sp (gV [V.ref x] zs) (upd (upd H2 dx (.own x)) x (.ins C dx [])) (fun v H3 => v = .non ∧ Q (.ref x) H3) E) : tMakeK C 0 m sp gV E tNil tk σ H Q := k
theorem mkZ {L : Addr → List V} {zs : List V} {m : Nat} {H2 : Hp} {P : Addr → Hp → Prop} {E : XK} {i0 i1 i2 i3 i4 i5 i6 i7 i8 i9 : Int} (e : zs.length = m) (g : ∀ x, L x = [.ref x, .int i0, .int i1, .int i2, .int i3, .int i4, .int i5, .int i6, .int i7, .int i8, .int i9])
    (k : ∀ H' c, Same H2 H' → PAt K H' c [i0, i1, i2, i3, i4, i5, i6, i7, i8, i9] → P c H') :
    ([] : List V).length = 0 ∧ zs.length = m ∧ ∀ x dx, H2 x = none → H2 dx = none → dx ≠ x → sp_Params___init K (L x) (upd (upd H2 dx (.own x)) x (.ins (He.ga K "Params") dx [])) (fun v H3 => v = .non ∧ P x H3) E :=
  ⟨rfl, e, fun x dx h1 h2 h3 => by
    rw [g]
    have s1 : Same H2 (upd (upd H2 dx (.own x)) x (.ins (He.ga K "Params") dx [])) := fun b o e => by
      rw [upd_ne (ne_of_none e h1), upd_ne (ne_of_none e h2)]; exact e
    exact ⟨x, dx, _, _, _, _, _, _, _, _, _, _, rfl, upd_same, fun H' kp pa => ⟨rfl, k H' x (fun b o e => kp b o (ne_of_none e h1) (s1 b o e)) pa⟩⟩⟩
theorem mkY {L : Addr → List V} {H2 : Hp} {P : Addr → Hp → Prop} {E : XK} {i0 i1 i2 i3 i4 i5 i6 i7 i8 i9 : Int} (g : ∀ x, L x = [.ref x, .int i0, .int i1, .int i2, .int i3, .int i4, .int i5, .int i6, .int i7, .int i8, .int i9])
    (k : ∀ H' c, Same H2 H' → PAt K H' c [i0, i1, i2, i3, i4, i5, i6, i7, i8, i9] → P c H') :
    ∀ x dx, H2 x = none → H2 dx = none → dx ≠ x → sp_Params___init K (L x) (upd (upd H2 dx (.own x)) x (.ins (He.ga K "Params") dx [])) (fun v H3 => v = .non ∧ P x H3) E := fun x dx h1 h2 h3 => (mkZ (K := K) (zs := []) (m := 0) (E := E) rfl g k).2.2 x dx h1 h2 h3
theorem mkE {H1 : Hp} {Q : VK} {E : XK} {n : Str} {j : Int} {x : V} (We : EFacts K mg) (h : (n, j) ∈ EF) (k : ∀ a H', Same H1 H' → ErrAt H' a (He.ga K n) x → Q (.ref a) H') :
    ∀ a, H1 a = none → sp_KeptError___init K [.ref a, x] (upd H1 a (exo a (He.ga K n) none)) (fun v H2 => v = .non ∧ Q (.ref a) H2) E := fun a ha =>
  ⟨a, _, x, rfl, (We.all h).1, upd_same, fun H' kp er => ⟨rfl, k a H' (fun b o e => kp b o (ne_of_none e ha) ((upd_ne (ne_of_none e ha)).trans e)) er⟩⟩
theorem isF {H : Hp} {Q : VK} {a : Addr} {n m : Str} {j i : Int} {x : V} (We : EFacts K mg) (h : (n, j) ∈ EF) (e : ErrAt H a (He.ga K n) x) (q : (m, i) ∈ FN) (k : Q (.bl (decide (j = i))) H) : Bd.rIsE K [.ref a, .ref (He.ga K m)] H Q :=
  ⟨a, _, _, x, _, _, rfl, .own _, e, (We.all h).1.x, (We.all h).2.1 _ q, k⟩
theorem isK {H : Hp} {Q : VK} {a : Addr} {n : Str} {j : Int} {x : V} (We : EFacts K mg) (h : (n, j) ∈ EF) (e : ErrAt H a (He.ga K n) x) (k : Q (.bl true) H) : Bd.rIsE K [.ref a, .ref (He.ga K "KeptError")] H Q :=
  ⟨a, _, _, x, _, _, rfl, .own _, e, (We.all h).1.x, (We.all h).2.2.1, k⟩
theorem isV {H : Hp} {Q : VK} {a : Addr} {n : Str} {j : Int} {x : V} (We : EFacts K mg) (h : (n, j) ∈ EF) (e : ErrAt H a (He.ga K n) x) (k : Q (.bl true) H) : Bd.rIsE K [.ref a, .ty "ValueError"] H Q :=
  ⟨a, _, _, x, _, _, rfl, .ty _, e, (We.all h).1.x, (We.all h).2.2.2, k⟩
theorem whatF {σ : L2.St} {H : Hp} {te : TE} {Q : VK} (k : te σ H fun x H1 => ∃ (a C : Addr) (v : V), x = .ref a ∧ ErrAt H1 a C v ∧ ExcC K C ∧ PySem.W.findIn K (.ref C) "what" = some none ∧ Q v H1) : Bd.tErrF K te σ H Q := k
/-- [A(x), B(x), ..] -/
def tErrs (K : PySem.W.Frag) (te : TE) : List Str → TA
  | [] => tNil
  | n :: ns => tCons (Bd.tMkE (He.ga K n) (sp_KeptError___init K) [] E0 (tCons te tNil)) (tErrs K te ns)
theorem errs {j : Int} {x : V} (We : EFacts K mg) : ∀ {ns : List Str} {i : Nat} {σ : L2.St} {H : Hp} {Q : List V → Hp → Prop}, σ[i]? = some (some x) → (∀ n ∈ ns, (n, j) ∈ EF) →
    (∀ es H', Same H H' → ErrL K H' es j x → es.length = ns.length → Q es H') → tErrs K (tVar i) ns σ H Q
  | [], i, σ, H, Q, hi, hn, k => k [] H (Same.refl H) (fun _ h => absurd h List.not_mem_nil) rfl
  | n :: ns, i, σ, H, Q, hi, hn, k => by
    refine Rd.cons ?_
    refine Rd.cons (ta := tVar i) (Rd.var hi (Rd.nil ⟨by show 1 ≤ 1000; omega, mkE (Q := fun v H1 => tErrs K (tVar i) ns σ H1 fun xs H2 => Q (v :: xs) H2) We (hn n List.mem_cons_self) fun a H1 s1 e1 => ?_⟩))
    refine errs We hi (fun m hm => hn m (List.mem_cons_of_mem _ hm)) fun es H2 s2 e2 l2 => ?_
    refine k (V.ref a :: es) H2 (s1.trans s2) (fun y hy => ?_) (by simp [l2])
    rcases List.mem_cons.mp hy with rfl | hy
    · exact ⟨a, n, rfl, hn n List.mem_cons_self, ErrAt.keep s2 e1⟩
    · exact e2 y hy
theorem lstE {j : Int} {x : V} {ns : List Str} {i : Nat} {σ : L2.St} {H : Hp} {Q : VK} (We : EFacts K mg) (hi : σ[i]? = some (some x)) (hn : ∀ n ∈ ns, (n, j) ∈ EF) (hl : ns.length ≤ 100)
    (k : ∀ p es H', Same H H' → H' p = some (.lst es) → ErrL K H' es j x → es.length = ns.length → Q (.ref p) H') : tLst (tErrs K (tVar i) ns) σ H Q :=
  Rd.lst (errs We hi hn fun es H1 s1 e1 l1 => ⟨Rd.small (by omega), fun p hp => k p es _ (s1.trans (Rd.same_new hp)) upd_same (e1.keep (Rd.same_new hp)) l1⟩)
/-- [A(), B(), ..] -/
def tErrs0 (K : PySem.W.Frag) : List (Str × Int) → TA
  | [] => tNil
  | n :: ns => tCons (Bd.tMkE (He.ga K n.1) (sp_KeptError___init K) [.non] E0 tNil) (tErrs0 K ns)
def Err0 (K : PySem.W.Frag) (H : Hp) (es : List V) : Prop := ∀ e ∈ es, ∃ a n j, e = V.ref a ∧ (n, j) ∈ EF ∧ ErrAt H a (He.ga K n) .non
theorem errs0 (We : EFacts K mg) : ∀ {ns : List (Str × Int)} {σ : L2.St} {H : Hp} {Q : List V → Hp → Prop}, (∀ n ∈ ns, n ∈ EF) →
    (∀ es H', Same H H' → Err0 K H' es → es.length = ns.length → Q es H') → tErrs0 K ns σ H Q
  | [], σ, H, Q, hn, k => k [] H (Same.refl H) (fun _ h => absurd h List.not_mem_nil) rfl
  | n :: ns, σ, H, Q, hn, k => by
    refine Rd.cons ?_
    refine (show Bd.tMkE (He.ga K n.1) (sp_KeptError___init K) [.non] E0 tNil σ H _ from Rd.nil ⟨by show 0 ≤ 1000; omega, mkE (Q := fun v H1 => tErrs0 K ns σ H1 fun xs H2 => Q (v :: xs) H2) (j := n.2) We (hn n List.mem_cons_self) fun a H1 s1 e1 => ?_⟩)
    refine errs0 We (fun m hm => hn m (List.mem_cons_of_mem _ hm)) fun es H2 s2 e2 l2 => ?_
    refine k (V.ref a :: es) H2 (s1.trans s2) (fun y hy => ?_) (by simp [l2])
    rcases List.mem_cons.mp hy with rfl | hy
    · exact ⟨a, n.1, n.2, rfl, hn n List.mem_cons_self, ErrAt.keep s2 e1⟩
    · exact e2 y hy
theorem mk1 {n : Str} {j : Int} {x : V} {i : Nat} {σ : L2.St} {H : Hp} {Q : VK} (We : EFacts K mg) (hn : (n, j) ∈ EF) (hi : σ[i]? = some (some x)) (k : ∀ a H', Same H H' → ErrAt H' a (He.ga K n) x → Q (.ref a) H') : Bd.tMkE (He.ga K n) (sp_KeptError___init K) [] E0 (tCons (tVar i) tNil) σ H Q :=
  Rd.cons (Rd.var hi (Rd.nil ⟨by show 1 ≤ 1000; omega, mkE We hn k⟩))
theorem catE {H : Hp} {Q : VK} {a b : Addr} {xs ys : List V} (ha : H a = some (.lst xs)) (hb : H b = some (.lst ys)) (hz : xs.length + ys.length ≤ 1000) (k : ∀ p H', Same H H' → H' p = some (.lst (xs ++ ys)) → Q (.ref p) H') : rCat (.ref a) (.ref b) H Q :=
  Rd.catL ha hb (by omega) fun p hp => k p _ (Rd.same_new hp) upd_same
theorem pf {σ : L2.St} {H : Hp} {Q : VK} {i : Nat} {b dx : Addr} {f : Str} {fs : List (Str × V)} {v : V} (Bf : PFacts K mg) (hv : σ[i]? = some (some (.ref b))) (hb : H b = some (.ins (He.ga K "Params") dx fs)) (na : NoAttr K (He.ga K "Params") f) (l : fs.lookup f = some v) (k : Q v H) : tFld K (tVar i) f σ H Q :=
  Rd.var hv ⟨b, _, dx, fs, v, rfl, hb, Bf.cls, na, l, k⟩
end
local macro_rules | `(tactic| walk_at "use") => `(tactic| first
  | (with_reducible refine mkK0 ?_)
  | (with_reducible refine Rb.make ?_)
  | ((with_reducible show sp_law_numbers _ _ _ _ _); refine ⟨_, _, rfl, by omega, fun _ _ _ _ _ _ _ _ => ?_⟩)
  | ((with_reducible show sp_law_cell _ _ _ _ _); refine ⟨_, _, _, rfl, ?f, by omega, fun _ => ?_⟩; (case f => walk_at "hp"))
  | ((with_reducible show sp_law_stream _ _ _ _ _); refine ⟨_, _, _, _, rfl, ?f, by omega, by omega, fun _ _ _ _ _ _ _ _ => ?_⟩; (case f => walk_at "hp")))

theorem lit_0 : Str.ofString "k" = Rd.S [107] := by decide +kernel
theorem lit_1 : Str.ofString "n" = Rd.S [110] := by decide +kernel
theorem lit_2 : Str.ofString "key" = Rd.S [107, 101, 121] := by decide +kernel
section
variable {P : Program} {w : World} {K : PySem.W.Frag} {mg : Str → Option Value} {base : Heap}
theorem fn_Params___init {fd : FuncData} (F : FunD K "__init__" "Params.__init__" (defArgs s_Params___init) (defBody s_Params___init) (defScope s_Params___init) [] Bk42.kwP (He.fAd K ("Params", some "__init__")) fd)   (W_Params : PFacts K mg) : FnOk P w K mg base CX0 1 (He.fAd K ("Params", some "__init__")) fd ["self", "deposit", "fee_base", "fee_weight", "fee_step", "pledge_rate", "coin_base", "epoch_length", "share", "depth", "most_steps"] (sp_Params___init K) := by
  have Bf := W_Params
  refine F.ok sc_Params___init (fun vs H Q E h => ?_) (fun cdv A outer s H vs Q E hr h => ?_)
  · obtain ⟨b, dx, i0, i1, i2, i3, i4, i5, i6, i7, i8, i9, rfl, _⟩ := h; rfl
  · obtain ⟨b, dx, i0, i1, i2, i3, i4, i5, i6, i7, i8, i9, rfl, hb, k⟩ := h
    refine ⟨_, PSs.nox (pss_cons (ps_fld (pv 0) (pv 1) rfl)
      (pss_cons (ps_fld (pv 0) (pv 2) rfl)
      (pss_cons (ps_fld (pv 0) (pv 3) rfl)
      (pss_cons (ps_fld (pv 0) (pv 4) rfl)
      (pss_cons (ps_fld (pv 0) (pv 5) rfl)
      (pss_cons (ps_fld (pv 0) (pv 6) rfl)
      (pss_cons (ps_fld (pv 0) (pv 7) rfl)
      (pss_cons (ps_fld (pv 0) (pv 8) rfl)
      (pss_cons (ps_fld (pv 0) (pv 9) rfl)
      (pss_one (ps_fld (pv 0) (pv 10) rfl))))))))))), ?_⟩
    try simp only [Rd.cxK]
    refine Rd.seq (Rb.sfld (Rd.var rfl (Rd.var rfl ⟨b, _, dx, _, rfl, hb, Bf.cls, Bf.n0, (Nat.le_of_ble_eq_true (by kernel_rfl)), ?_⟩)))
    refine Rd.seq (Rb.sfld (Rd.var rfl (Rd.var rfl ⟨b, _, dx, _, rfl, upd_same, Bf.cls, Bf.n1, (Nat.le_of_ble_eq_true (by kernel_rfl)), ?_⟩)))
    refine Rd.seq (Rb.sfld (Rd.var rfl (Rd.var rfl ⟨b, _, dx, _, rfl, upd_same, Bf.cls, Bf.n2, (Nat.le_of_ble_eq_true (by kernel_rfl)), ?_⟩)))
    refine Rd.seq (Rb.sfld (Rd.var rfl (Rd.var rfl ⟨b, _, dx, _, rfl, upd_same, Bf.cls, Bf.n3, (Nat.le_of_ble_eq_true (by kernel_rfl)), ?_⟩)))
    refine Rd.seq (Rb.sfld (Rd.var rfl (Rd.var rfl ⟨b, _, dx, _, rfl, upd_same, Bf.cls, Bf.n4, (Nat.le_of_ble_eq_true (by kernel_rfl)), ?_⟩)))
    refine Rd.seq (Rb.sfld (Rd.var rfl (Rd.var rfl ⟨b, _, dx, _, rfl, upd_same, Bf.cls, Bf.n5, (Nat.le_of_ble_eq_true (by kernel_rfl)), ?_⟩)))
    refine Rd.seq (Rb.sfld (Rd.var rfl (Rd.var rfl ⟨b, _, dx, _, rfl, upd_same, Bf.cls, Bf.n6, (Nat.le_of_ble_eq_true (by kernel_rfl)), ?_⟩)))
    refine Rd.seq (Rb.sfld (Rd.var rfl (Rd.var rfl ⟨b, _, dx, _, rfl, upd_same, Bf.cls, Bf.n7, (Nat.le_of_ble_eq_true (by kernel_rfl)), ?_⟩)))
    refine Rd.seq (Rb.sfld (Rd.var rfl (Rd.var rfl ⟨b, _, dx, _, rfl, upd_same, Bf.cls, Bf.n8, (Nat.le_of_ble_eq_true (by kernel_rfl)), ?_⟩)))
    refine Rb.sfld (Rd.var rfl (Rd.var rfl ⟨b, _, dx, _, rfl, upd_same, Bf.cls, Bf.n9, (Nat.le_of_ble_eq_true (by kernel_rfl)), ?_⟩))
    refine k _ (fun a o hab e => ?_) ⟨dx, upd_same⟩
    simp only [upd_ne hab]
    exact e
theorem ok_Params___init {fd : FuncData} (F : FunD K "__init__" "Params.__init__" (defArgs s_Params___init) (defBody s_Params___init) (defScope s_Params___init) [] Bk42.kwP (He.fAd K ("Params", some "__init__")) fd)   (W_Params : PFacts K mg) : CalP P w K mg base :=
  ⟨fd, F, fn_Params___init F W_Params⟩

theorem bnd_KeptError___init {fd : FuncData} (F : FunD K "__init__" "KeptError.__init__" (defArgs s_KeptError___init) (defBody s_KeptError___init) (defScope s_KeptError___init) [V.non] [] (He.fAd K ("KeptError", some "__init__")) fd) : Binds K fd ["self", "what"] [] := by
  obtain ⟨ds, r, b⟩ := F.binds1 (ps := ["self", "what"]) 2 1 (by simp) rfl (fun T kV doc pm an cdv ct us its hu hi => match us, hu, its, hi with | [_, _], _, [_], _ => ⟨_, rfl, rfl⟩)
  cases r
  exact b
theorem bnd0_KeptError___init {fd : FuncData} (F : FunD K "__init__" "KeptError.__init__" (defArgs s_KeptError___init) (defBody s_KeptError___init) (defScope s_KeptError___init) [V.non] [] (He.fAd K ("KeptError", some "__init__")) fd) : ∃ ds, Vals [V.non] ds ∧ Binds K fd ["self", "what"] ds := by
  obtain ⟨ds, r, b⟩ := F.binds1 (ps := ["self", "what"]) 1 0 (by simp) rfl (fun T kV doc pm an cdv ct us its hu hi => match us, hu, its, hi with | [_], _, [_], _ => ⟨_, rfl, rfl⟩)
  exact ⟨ds, r, b⟩
theorem fn_KeptError___init {fd : FuncData} (F : FunD K "__init__" "KeptError.__init__" (defArgs s_KeptError___init) (defBody s_KeptError___init) (defScope s_KeptError___init) [V.non] [] (He.fAd K ("KeptError", some "__init__")) fd)   : FnOk P w K mg base CX0 1 (He.fAd K ("KeptError", some "__init__")) fd ["self", "what"] (sp_KeptError___init K) := by
  refine F.ok sc_KeptError___init (fun vs H Q E h => ?_) (fun cdv A outer s H vs Q E hr h => ?_)
  · obtain ⟨a, C, x, rfl, _⟩ := h; rfl
  · obtain ⟨a, C, x, rfl, hC, ha, k⟩ := h
    refine ⟨_, PSs.nox (pss_one (ps_ost (pv 0) (pv 1))), ?_⟩
    try simp only [Rd.cxK]
    refine Rd.var rfl (Rd.var rfl ⟨a, C, rfl, hC.o, hC.nw, .inl ⟨ha, fun dx h1 h2 => ?_⟩⟩)
    exact k _ (fun b o hb e => (upd_ne hb).trans ((upd_ne (ne_of_none e h1)).trans e)) ⟨dx, upd_same, (upd_ne h2).trans upd_same⟩
theorem ok_KeptError___init {fd : FuncData} (F : FunD K "__init__" "KeptError.__init__" (defArgs s_KeptError___init) (defBody s_KeptError___init) (defScope s_KeptError___init) [V.non] [] (He.fAd K ("KeptError", some "__init__")) fd)   : CalM P w K mg base (He.fAd K ("KeptError", some "__init__")) 1 ["self", "what"] [V.non] (sp_KeptError___init K) :=
  ⟨fd, (bnd_KeptError___init F), fn_KeptError___init F , (bnd0_KeptError___init F)⟩

theorem fn_law_cell {f : Addr} {fd : FuncData} (F : FnP K "_law_cell" s_law_cell f fd)  (z_len : mg "len" = none) : FnOk P w K mg base CX0 1 f fd ["script", "k"] (sp_law_cell K) := by
  refine F.ok sc_law_cell (fun vs H Q E h => ?_) (fun cdv A outer s H vs Q E hr h => ?_)
  · obtain ⟨a, ns, i, rfl, _⟩ := h; rfl
  · obtain ⟨a, ns, i, rfl, hS, h0, k⟩ := h
    refine ⟨_, PSs.nox (pss_cons (ps_if (pt_cmpR op_lt (pv 1) (pe_callB call_len_seq (by rfl) z_len boot_len (pa_cons (pv 0) pa_nil)) (nomark _)) (pss_one (ps_ret (pe_ix ix_list (pv 0) (pv 1) (fun _ _ => rfl)))) pss_nil)
      (pss_one (ps_ret pe_int))), ?_⟩
    try simp only [Rd.cxK]
    walk_at "rd"
    · refine Rd.ixL hS (Rd.atI_ints h0 ?_) (k _)
      rw [← List.length_map (f := V.int)]; assumption
    · exact k _
theorem ok_law_cell {f : Addr} {fd : FuncData} (mf : mg "_law_cell" = some (.ref f)) (F : FnP K "_law_cell" s_law_cell f fd)  (z_len : mg "len" = none) : Cal P w K mg base "_law_cell" 1 ["script", "k"] (sp_law_cell K) :=
  ⟨f, fd, mf, F.kp, F.bindsN fun _ _ _ _ _ _ us hl => match us, hl with | [_, _], _ => rfl, fn_law_cell F z_len⟩

theorem fn_law_numbers {f : Addr} {fd : FuncData} (F : FnP K "_law_numbers" s_law_numbers f fd)  (z_abs : mg "abs" = none) (z_range : mg "range" = none) (z_int : mg "int" = none) : FnOk P w K mg base CX0 1 f fd ["cell", "many"] (sp_law_numbers K) := by
  refine F.ok sc_law_numbers (fun vs H Q E h => ?_) (fun cdv A outer s H vs Q E hr h => ?_)
  · obtain ⟨c, m, rfl, _⟩ := h; rfl
  · obtain ⟨c, m, rfl, hm, k⟩ := h
    refine ⟨_, PSs.nox (pss_cons (ps_set (i := 2) sc_law_numbers.nd rfl (by first | exact Or.inl rfl | exact Or.inr rfl) (pe_callB call_abs (by rfl) z_abs boot_abs (pa_cons (pv 0) pa_nil)))
      (pss_cons (ps_set (i := 3) sc_law_numbers.nd rfl (by first | exact Or.inl rfl | exact Or.inr rfl) (pv 2))
      (pss_cons (ps_set (i := 4) sc_law_numbers.nd rfl (by first | exact Or.inl rfl | exact Or.inr rfl) (pe_lst pa_nil))
      (pss_cons (ps_for PassesOwn.never rfl (pi_range1 (by rfl) z_range (pa_cons (pv 1) pa_nil)) (pg_name (i := 5) sc_law_numbers.nd rfl (by first | exact Or.inl rfl | exact Or.inr rfl)) (pss_one (ps_if (PW.pt (pw_and (pt_cmpR op_ge (pv 3) (pe_op op_pow pe_int pe_int) (nomark _)) (pw_and1 (pt_cmpR op_gt (pv 2) pe_int (nomark _))))) (pss_cons (ps_expr (pe_bm PySem.F.plainAttrs_list PySem.F.slot_list_append PySem.F.type_list_append mt_append (pv 4) (pa_cons (pe_op op_mod (pe_callTy call_int1 (by rfl) z_int boot_int (pa_cons (pv 2) pa_nil)) pe_int) pa_nil)))
      (pss_one (ps_set (i := 2) sc_law_numbers.nd rfl (by first | exact Or.inl rfl | exact Or.inr rfl) (pe_op op_fdiv (pv 2) pe_int)))) (pss_cons (ps_set (i := 6) sc_law_numbers.nd rfl (by first | exact Or.inl rfl | exact Or.inr rfl) (pe_op op_mod (pe_callTy call_int1 (by rfl) z_int boot_int (pa_cons (pe_op op_add (pe_op op_add (pe_op op_mul (pv 3) pe_int) (pe_op op_mul (pv 5) pe_int)) pe_int) pa_nil)) pe_int))
      (pss_cons (ps_set (i := 6) sc_law_numbers.nd rfl (by first | exact Or.inl rfl | exact Or.inr rfl) (pe_op op_mod (pe_callTy call_int1 (by rfl) z_int boot_int (pa_cons (pe_op op_add (pe_op op_add (pe_op op_mul (pv 6) (pv 6)) (pe_op op_mul pe_int (pv 5))) pe_int) pa_nil)) pe_int))
      (pss_one (ps_expr (pe_bm PySem.F.plainAttrs_list PySem.F.slot_list_append PySem.F.type_list_append mt_append (pv 4) (pa_cons (pe_op op_mod (pe_callTy call_int1 (by rfl) z_int boot_int (pa_cons (pe_op op_fdiv (pv 6) pe_int) pa_nil)) pe_int) pa_nil)))))))))
      (pss_one (ps_ret (pv 4))))))), ?_⟩
    try simp only [Rd.cxK]
    walk_at "rd"
    rename_i z hz0 hz1 p hp
    refine Rd.rng1 (fun i σ' H' => ∃ (r : Int) (nums : List Int) (kv mv : Option V), σ' = [some (.int c), some (.int m), some (.int r), some (.int z), some (.ref p), kv, mv] ∧ 0 ≤ r ∧ nums.length = i ∧ (∀ x ∈ nums, 0 ≤ x ∧ x < 1000) ∧ Same H H' ∧ H' p = some (.lst (nums.map V.int))) ⟨by omega, by omega⟩ ?_ ?_ ?_
    · exact ⟨z, [], _, _, rfl, hz0, rfl, by simp, Rd.same_new hp, upd_same⟩
    · rintro i σ' H' hi ⟨r, nums, kv, mv, rfl, hr0, hl, hb, hs, hp'⟩
      walk_at "rd"
      all_goals (refine ⟨_, nums ++ [_], _, _, rfl, ?_, ?_, Rd.bd_app hb ?_, Rd.same_mut hs hp, Rd.pushInts⟩ <;> first | omega | simp [hl])
    · rintro σ' H' ⟨r, nums, kv, mv, rfl, hr0, hl, hb, hs, hp'⟩
      walk_at "rd"
      exact k p nums H' hs hp hp' hl hb
theorem ok_law_numbers {f : Addr} {fd : FuncData} (mf : mg "_law_numbers" = some (.ref f)) (F : FnP K "_law_numbers" s_law_numbers f fd)  (z_abs : mg "abs" = none) (z_range : mg "range" = none) (z_int : mg "int" = none) : Cal P w K mg base "_law_numbers" 1 ["cell", "many"] (sp_law_numbers K) :=
  ⟨f, fd, mf, F.kp, F.bindsN fun _ _ _ _ _ _ us hl => match us, hl with | [_, _], _ => rfl, fn_law_numbers F z_abs z_range z_int⟩

theorem fn_law_between {f : Addr} {fd : FuncData} (F : FnP K "_law_between" s_law_between f fd)  (z_int : mg "int" = none) (z_len : mg "len" = none) (z_range : mg "range" = none) (z_min : mg "min" = none) : FnOk P w K mg base CX0 1 f fd ["numbers", "at", "low", "high"] (sp_law_between K) := by
  refine F.ok sc_law_between (fun vs H Q E h => ?_) (fun cdv A outer s H vs Q E hr h => ?_)
  · obtain ⟨b, ns, t, lo, hi, rfl, _⟩ := h; rfl
  · obtain ⟨b, ns, t, lo, hi, rfl, hb, hn, h3, hlh, k⟩ := h
    refine ⟨_, PSs.nox (pss_cons (ps_setLc (i := 4) (own := [("k", 6)]) (g := gName 6) (tt := tYes) rfl sc_law_between.nd rfl rfl (sw_true rfl rfl rfl (by decide +kernel)) (pi_range1 (by rfl) z_range (pa_cons pe_int pa_nil)) (blkOk_by (N := N_law_between) (sc := defScope s_law_between) (by decide +kernel)) (fun _ _ _ _ _ => pg_name (i := 6) sc_law_between.nd rfl (by first | exact Or.inl rfl | exact Or.inr rfl)) (fun _ _ _ _ _ => pts_nil) (fun _ _ _ _ _ => (pe_ix (Rb.ix_listK (K := K) rfl) (pv 0) (pe_op op_mod (pe_callTy call_int1 (by rfl) z_int boot_int (pa_cons (pe_op op_add (pv 1) (pv 6)) pa_nil)) (pe_callB (Rb.call_lenK (K := K) rfl) (by rfl) z_len boot_len (pa_cons (pv 0) pa_nil))) (fun _ _ => rfl))))
      (pss_cons (ps_if (pt_cmpR op_eq (pe_op op_mod (pe_ix ix_list (pv 4) pe_int (fun _ _ => rfl)) pe_int) pe_int (nomark _)) (pss_one (ps_ret (pv 2))) pss_nil)
      (pss_cons (ps_if (pt_cmpR op_eq (pe_op op_mod (pe_ix ix_list (pv 4) pe_int (fun _ _ => rfl)) pe_int) pe_int (nomark _)) (pss_one (ps_ret (pv 3))) pss_nil)
      (pss_cons (ps_if (pt_cmpR op_eq (pe_op op_mod (pe_ix ix_list (pv 4) pe_int (fun _ _ => rfl)) pe_int) pe_int (nomark _)) (pss_one (ps_ret (pe_callB (call_min2 rfl) (by rfl) z_min boot_min (pa_cons (pv 3) (pa_cons (pe_op op_add (pv 2) (pe_op op_mod (pe_ix ix_list (pv 4) pe_int (fun _ _ => rfl)) pe_int)) pa_nil))))) pss_nil)
      (pss_cons (ps_set (i := 5) sc_law_between.nd rfl (by first | exact Or.inl rfl | exact Or.inr rfl) (pe_op op_add (pe_op op_add (pe_op op_add (pe_op op_fdiv (pe_ix ix_list (pv 4) pe_int (fun _ _ => rfl)) pe_int) (pe_op op_mul pe_int (pe_ix ix_list (pv 4) pe_int (fun _ _ => rfl)))) (pe_op op_mul pe_int (pe_ix ix_list (pv 4) pe_int (fun _ _ => rfl)))) (pe_op op_mul pe_int (pe_ix ix_list (pv 4) pe_int (fun _ _ => rfl)))))
      (pss_cons (ps_set (i := 5) sc_law_between.nd rfl (by first | exact Or.inl rfl | exact Or.inr rfl) (pe_op op_add (pe_op op_add (pv 5) (pe_op op_mul pe_int (pe_ix ix_list (pv 4) pe_int (fun _ _ => rfl)))) (pe_op op_mul pe_int (pe_ix ix_list (pv 4) pe_int (fun _ _ => rfl)))))
      (pss_one (ps_ret (pe_op op_add (pv 2) (pe_op op_mod (pe_callTy call_int1 (by rfl) z_int boot_int (pa_cons (pv 5) pa_nil)) (pe_op op_add (pe_op op_sub (pv 3) (pv 2)) pe_int))))))))))), ?_⟩
    try simp only [Rd.cxK]
    walk_at "rd"
    refine Rd.lcR1 (fun D i acc H' => ∃ ms : List Int, acc = ms.map V.int ∧ B3 ms) (by omega) (fun D H' _ _ _ => ⟨[], rfl, fun _ h => absurd h List.not_mem_nil⟩) ?_ ?_
    · rintro i acc D H' hD s hi hl hDl ⟨ms, rfl, hms⟩
      have hb' := s _ _ hb
      have hml : 0 < ((ns.map V.int).length : Int) := by rw [List.length_map]; omega
      walk_at "rd"
      refine Rd.ixLmem (SqL.of hb') (Int.emod_nonneg _ (by omega)) (Int.emod_lt_of_pos _ hml) (fun v hv => ?_)
      obtain ⟨n, hn', rfl⟩ := List.mem_map.mp hv
      exact Rd.lcE hD hDl s hl (by omega) ⟨ms ++ [n], by simp, Rd.bd_app hms (h3 n hn')⟩
    · rintro D acc H' hD s hDl hal ⟨ms, rfl, hms⟩
      have h6 : ms.length = 6 := by rw [← List.length_map (f := V.int)]; exact hal
      obtain ⟨a0, a1, a2, a3, a4, a5, rfl⟩ := six h6
      have q0 := hms a0 (by simp)
      have q1 := hms a1 (by simp)
      have q2 := hms a2 (by simp)
      have q3 := hms a3 (by simp)
      have q4 := hms a4 (by simp)
      have q5 := hms a5 (by simp)
      simp only [List.map] at hDl
      walk_at "rd"
      all_goals exact k _ _ s
theorem ok_law_between {f : Addr} {fd : FuncData} (mf : mg "_law_between" = some (.ref f)) (F : FnP K "_law_between" s_law_between f fd)  (z_int : mg "int" = none) (z_len : mg "len" = none) (z_range : mg "range" = none) (z_min : mg "min" = none) : Cal P w K mg base "_law_between" 1 ["numbers", "at", "low", "high"] (sp_law_between K) :=
  ⟨f, fd, mf, F.kp, F.bindsN fun _ _ _ _ _ _ us hl => match us, hl with | [_, _, _, _], _ => rfl, fn_law_between F z_int z_len z_range z_min⟩

theorem fn_law_shown {f : Addr} {fd : FuncData} (F : FnP K "_law_shown" s_law_shown f fd)   (W_Params : PFacts K mg) : FnOk P w K mg base CX0 1 f fd ["params"] (sp_law_shown K) := by
  have Bf := W_Params
  refine F.ok sc_law_shown (fun vs H Q E h => ?_) (fun cdv A outer s H vs Q E hr h => ?_)
  · obtain ⟨b, l, rfl, _⟩ := h; rfl
  · obtain ⟨b, l, rfl, hb, hl, k⟩ := h
    refine ⟨_, PSs.nox (pss_cons (ps_set (i := 1) sc_law_shown.nd rfl (by first | exact Or.inl rfl | exact Or.inr rfl) (pe_tup (pa_cons (pe_fld (pv 0) rfl) (pa_cons (pe_fld (pv 0) rfl) (pa_cons (pe_fld (pv 0) rfl) (pa_cons (pe_fld (pv 0) rfl) (pa_cons (pe_fld (pv 0) rfl) pa_nil)))))))
      (pss_one (ps_ret (pe_op op_catA (pv 1) (pe_tup (pa_cons (pe_fld (pv 0) rfl) (pa_cons (pe_fld (pv 0) rfl) (pa_cons (pe_fld (pv 0) rfl) (pa_cons (pe_fld (pv 0) rfl) (pa_cons (pe_fld (pv 0) rfl) pa_nil)))))))))), ?_⟩
    try simp only [Rd.cxK]
    obtain ⟨i0, i1, i2, i3, i4, i5, i6, i7, i8, i9, rfl⟩ := ten hl
    obtain ⟨dx, hb⟩ := hb
    refine Rd.seq (Rd.asg (Rd.tup (Rd.cons (pf Bf rfl hb Bf.n0 (v := .int i0) (by kernel_rfl) (Rd.cons (pf Bf rfl hb Bf.n1 (v := .int i1) (by kernel_rfl) (Rd.cons (pf Bf rfl hb Bf.n2 (v := .int i2) (by kernel_rfl) (Rd.cons (pf Bf rfl hb Bf.n3 (v := .int i3) (by kernel_rfl) (Rd.cons (pf Bf rfl hb Bf.n4 (v := .int i4) (by kernel_rfl) (Rd.nil (Rd.len (by simp) fun t ht => ?_))))))))))))))
    have hb2 := Rd.same_new (o := .tup [V.int i0, V.int i1, V.int i2, V.int i3, V.int i4]) ht _ _ hb
    refine Rd.ret (Rd.op (Rd.var rfl (Rd.tup (Rd.cons (pf Bf rfl hb2 Bf.n5 (v := .int i5) (by kernel_rfl) (Rd.cons (pf Bf rfl hb2 Bf.n6 (v := .int i6) (by kernel_rfl) (Rd.cons (pf Bf rfl hb2 Bf.n7 (v := .int i7) (by kernel_rfl) (Rd.cons (pf Bf rfl hb2 Bf.n8 (v := .int i8) (by kernel_rfl) (Rd.cons (pf Bf rfl hb2 Bf.n9 (v := .int i9) (by kernel_rfl) (Rd.nil (Rd.len (by simp) fun u hu => ?_)))))))))))))))
    have s1 := Rd.same_new (o := .tup [V.int i0, V.int i1, V.int i2, V.int i3, V.int i4]) ht
    have s2 := Rd.same_new (o := .tup [V.int i5, V.int i6, V.int i7, V.int i8, V.int i9]) hu
    refine ⟨t, u, _, _, rfl, rfl, SqT.of (s2 _ _ upd_same), SqT.of upd_same, by simp [sizeLine_eq], fun e => absurd e (by simp), fun _ e => absurd e (by simp), fun _ _ p hp => ?_⟩
    exact k p _ ((s1.trans s2).trans (Rd.same_new hp)) upd_same
theorem ok_law_shown {f : Addr} {fd : FuncData} (mf : mg "_law_shown" = some (.ref f)) (F : FnP K "_law_shown" s_law_shown f fd)   (W_Params : PFacts K mg) : Cal P w K mg base "_law_shown" 1 ["params"] (sp_law_shown K) :=
  ⟨f, fd, mf, F.kp, F.bindsN fun _ _ _ _ _ _ us hl => match us, hl with | [_], _ => rfl, fn_law_shown F W_Params⟩

theorem fn_law_family {f : Addr} {fd : FuncData} (F : FnP K "_law_family" s_law_family f fd)  (z_isinstance : mg "isinstance" = none) (W_errs : EFacts K mg) : FnOk P w K mg base CX0 1 f fd ["e"] (sp_law_family K) := by
  have We := W_errs
  refine F.ok sc_law_family (fun vs H Q E h => ?_) (fun cdv A outer s H vs Q E hr h => ?_)
  · obtain ⟨a, n, j, x, rfl, _⟩ := h; rfl
  · obtain ⟨a, n, j, x, rfl, hj, ha, k⟩ := h
    refine ⟨_, PSs.nox (pss_one (ps_ret (pe_tup (pa_cons (pe_callB Bd.call_isE (by rfl) z_isinstance boot_isinstance (pa_cons (pv 0) (pa_cons (pe_glob (v := .ref (He.ga K "ShapeError")) (by rfl) (We.m "ShapeError" (by decide +kernel)) rfl) pa_nil))) (pa_cons (pe_callB Bd.call_isE (by rfl) z_isinstance boot_isinstance (pa_cons (pv 0) (pa_cons (pe_glob (v := .ref (He.ga K "StateError")) (by rfl) (We.m "StateError" (by decide +kernel)) rfl) pa_nil))) (pa_cons (pe_callB Bd.call_isE (by rfl) z_isinstance boot_isinstance (pa_cons (pv 0) (pa_cons (pe_glob (v := .ref (He.ga K "RuleError")) (by rfl) (We.m "RuleError" (by decide +kernel)) rfl) pa_nil))) (pa_cons (pe_callB Bd.call_isE (by rfl) z_isinstance boot_isinstance (pa_cons (pv 0) (pa_cons (pe_glob (v := .ref (He.ga K "ChainError")) (by rfl) (We.m "ChainError" (by decide +kernel)) rfl) pa_nil))) (pa_cons (pe_callB Bd.call_isE (by rfl) z_isinstance boot_isinstance (pa_cons (pv 0) (pa_cons (pe_glob (v := .ref (He.ga K "PoolError")) (by rfl) (We.m "PoolError" (by decide +kernel)) rfl) pa_nil))) (pa_cons (pe_callB Bd.call_isE (by rfl) z_isinstance boot_isinstance (pa_cons (pv 0) (pa_cons (pe_glob (v := .ref (He.ga K "RecordError")) (by rfl) (We.m "RecordError" (by decide +kernel)) rfl) pa_nil))) (pa_cons (pe_callB Bd.call_isE (by rfl) z_isinstance boot_isinstance (pa_cons (pv 0) (pa_cons (pe_glob (v := .ref (He.ga K "WalletError")) (by rfl) (We.m "WalletError" (by decide +kernel)) rfl) pa_nil))) (pa_cons (pe_callB Bd.call_isE (by rfl) z_isinstance boot_isinstance (pa_cons (pv 0) (pa_cons (pe_glob (v := .ref (He.ga K "ScriptError")) (by rfl) (We.m "ScriptError" (by decide +kernel)) rfl) pa_nil))) pa_nil))))))))))), ?_⟩
    try simp only [Rd.cxK]
    walk_at "rd"
    refine isF We hj ha (m := "ShapeError") (i := 0) (by decide +kernel) ?_
    walk_at "rd"
    refine isF We hj ha (m := "StateError") (i := 1) (by decide +kernel) ?_
    walk_at "rd"
    refine isF We hj ha (m := "RuleError") (i := 2) (by decide +kernel) ?_
    walk_at "rd"
    refine isF We hj ha (m := "ChainError") (i := 3) (by decide +kernel) ?_
    walk_at "rd"
    refine isF We hj ha (m := "PoolError") (i := 4) (by decide +kernel) ?_
    walk_at "rd"
    refine isF We hj ha (m := "RecordError") (i := 5) (by decide +kernel) ?_
    walk_at "rd"
    refine isF We hj ha (m := "WalletError") (i := 6) (by decide +kernel) ?_
    walk_at "rd"
    refine isF We hj ha (m := "ScriptError") (i := 7) (by decide +kernel) ?_
    walk_at "rd"
    rename_i p hp
    exact k p _ (Rd.same_new hp) upd_same
theorem ok_law_family {f : Addr} {fd : FuncData} (mf : mg "_law_family" = some (.ref f)) (F : FnP K "_law_family" s_law_family f fd)  (z_isinstance : mg "isinstance" = none) (W_errs : EFacts K mg) : Cal P w K mg base "_law_family" 1 ["e"] (sp_law_family K) :=
  ⟨f, fd, mf, F.kp, F.bindsN fun _ _ _ _ _ _ us hl => match us, hl with | [_], _ => rfl, fn_law_family F z_isinstance W_errs⟩

theorem fn_law_stream {f : Addr} {fd : FuncData} (F : FnP K "_law_stream" s_law_stream f fd) (C_law_numbers : Cal P w K mg base "_law_numbers" 1 ["cell", "many"] (sp_law_numbers K)) (C_law_cell : Cal P w K mg base "_law_cell" 1 ["script", "k"] (sp_law_cell K)) (z_len : mg "len" = none) (z_int : mg "int" = none) (z_abs : mg "abs" = none) : FnOk P w K mg base CX0 2 f fd ["script", "k", "many"] (sp_law_stream K) := by
  obtain ⟨f_law_numbers, fd_law_numbers, m_law_numbers, k_law_numbers, b_law_numbers, G_law_numbers⟩ := C_law_numbers.ex
  obtain ⟨f_law_cell, fd_law_cell, m_law_cell, k_law_cell, b_law_cell, G_law_cell⟩ := C_law_cell.ex
  refine F.ok sc_law_stream (fun vs H Q E h => ?_) (fun cdv A outer s H vs Q E hr h => ?_)
  · obtain ⟨a, ns, i, m, rfl, _⟩ := h; rfl
  · obtain ⟨a, ns, i, m, rfl, hS, h0, hm, k⟩ := h
    refine ⟨_, PSs.nox (pss_cons (ps_if (pt_cmpR op_lt (pv 1) (pe_callB call_len_seq (by rfl) z_len boot_len (pa_cons (pv 0) pa_nil)) (nomark _)) (pss_one (ps_ret (pe_call G_law_numbers (hr.mono (by decide)) (by rfl) m_law_numbers k_law_numbers b_law_numbers .nil pass0 (pa_cons (pe_ix ix_list (pv 0) (pv 1) (fun _ _ => rfl)) (pa_cons (pv 2) pa_nil))))) pss_nil)
      (pss_one (ps_ret (pe_call G_law_numbers (hr.mono (by decide)) (by rfl) m_law_numbers k_law_numbers b_law_numbers .nil pass0 (pa_cons (pe_op op_add (pe_op op_mul (pe_op op_mod (pe_callTy call_int1 (by rfl) z_int boot_int (pa_cons (pe_callB call_abs (by rfl) z_abs boot_abs (pa_cons (pe_call G_law_cell (hr.mono (by decide)) (by rfl) m_law_cell k_law_cell b_law_cell .nil pass0 (pa_cons (pv 0) (pa_cons pe_int pa_nil))) pa_nil)) pa_nil)) (pe_op op_pow pe_int pe_int)) pe_int) (pv 1)) (pa_cons (pv 2) pa_nil)))))), ?_⟩
    try simp only [Rd.cxK]
    walk_at "rd"
    · refine Rd.ixL hS (Rd.atI_ints h0 ?_) ?_
      · rw [← List.length_map (f := V.int)]; assumption
      walk_at "rd"
      exact k _ _ _ ‹_› ‹_› ‹_› ‹_› ‹_›
    · refine ⟨_, _, _, rfl, hS, by omega, fun z => ?_⟩
      walk_at "rd"
      exact k _ _ _ ‹_› ‹_› ‹_› ‹_› ‹_›
theorem ok_law_stream {f : Addr} {fd : FuncData} (mf : mg "_law_stream" = some (.ref f)) (F : FnP K "_law_stream" s_law_stream f fd) (C_law_numbers : Cal P w K mg base "_law_numbers" 1 ["cell", "many"] (sp_law_numbers K)) (C_law_cell : Cal P w K mg base "_law_cell" 1 ["script", "k"] (sp_law_cell K)) (z_len : mg "len" = none) (z_int : mg "int" = none) (z_abs : mg "abs" = none) : Cal P w K mg base "_law_stream" 2 ["script", "k", "many"] (sp_law_stream K) :=
  ⟨f, fd, mf, F.kp, F.bindsN fun _ _ _ _ _ _ us hl => match us, hl with | [_, _, _], _ => rfl, fn_law_stream F C_law_numbers C_law_cell z_len z_int z_abs⟩

theorem step_law_same {f : Addr} {fd : FuncData} (F : FnP K "_law_same" s_law_same f fd) {n : Nat} (C_law_same : Cal P w K mg base "_law_same" (0 + n) ["actual", "expected"] (sp_law_same K n))  (z_isinstance : mg "isinstance" = none) (z_tuple : mg "tuple" = none) (z_len : mg "len" = none) (z_range : mg "range" = none) (z_bool : mg "bool" = none) (z_int : mg "int" = none) (z_str : mg "str" = none) : FnOk P w K mg base CX0 (0 + n + 1) f fd ["actual", "expected"] (sp_law_same K (n + 1)) := by
  obtain ⟨f_law_same, fd_law_same, m_law_same, k_law_same, b_law_same, G_law_same⟩ := C_law_same.ex
  refine F.ok sc_law_same (fun vs H Q E h => ?_) (fun cdv A outer s H vs Q E hr h => ?_)
  · obtain ⟨x, y, d, rfl, _⟩ := h; rfl
  · obtain ⟨x, y, d, rfl, hx, hy, hf, hn, k⟩ := h
    refine ⟨_, PSs.nox (pss_cons (ps_if (pt_cmpR op_isN (pv 1) pe_non (nomark _)) (pss_one (ps_ret (pe_cmpR op_isN (pv 0) pe_non (nomark _)))) pss_nil)
      (pss_cons (ps_if (pt_val (pe_callB call_isi (by rfl) z_isinstance boot_isinstance (pa_cons (pv 1) (pa_cons (pe_bltn (v := .ty "tuple") (by rfl) z_tuple boot_tuple rfl) pa_nil)))) (pss_cons (ps_if (PW.pt (pw_or (pt_not (pt_val (pe_callB call_isi (by rfl) z_isinstance boot_isinstance (pa_cons (pv 0) (pa_cons (pe_bltn (v := .ty "tuple") (by rfl) z_tuple boot_tuple rfl) pa_nil))))) (pw_or1 (pt_cmpR op_ne (pe_callB call_len_seq (by rfl) z_len boot_len (pa_cons (pv 0) pa_nil)) (pe_callB call_len_seq (by rfl) z_len boot_len (pa_cons (pv 1) pa_nil)) (nomark _))))) (pss_one (ps_ret pe_bl)) pss_nil)
      (pss_cons (ps_for PassesOwn.never rfl (pi_range1 (by rfl) z_range (pa_cons (pe_callB call_len_seq (by rfl) z_len boot_len (pa_cons (pv 1) pa_nil)) pa_nil)) (pg_name (i := 2) sc_law_same.nd rfl (by first | exact Or.inl rfl | exact Or.inr rfl)) (pss_one (ps_if (pt_not (pt_val (pe_call G_law_same (hr.mono (by omega)) (by rfl) m_law_same k_law_same b_law_same .nil pass0 (pa_cons (pe_ix ix_seq (pv 0) (pv 2) (fun _ _ => rfl)) (pa_cons (pe_ix ix_seq (pv 1) (pv 2) (fun _ _ => rfl)) pa_nil))))) (pss_one (ps_ret pe_bl)) pss_nil)))
      (pss_one (ps_ret pe_bl)))) pss_nil)
      (pss_cons (ps_if (pt_val (pe_callB call_isi (by rfl) z_isinstance boot_isinstance (pa_cons (pv 1) (pa_cons (pe_bltn (v := .ty "bool") (by rfl) z_bool boot_bool rfl) pa_nil)))) (pss_one (ps_ret (pe_and (pe_callB call_isi (by rfl) z_isinstance boot_isinstance (pa_cons (pv 0) (pa_cons (pe_bltn (v := .ty "bool") (by rfl) z_bool boot_bool rfl) pa_nil))) (pe_one (pe_cmpR op_eq (pv 0) (pv 1) (nomark _)))))) pss_nil)
      (pss_cons (ps_if (pt_val (pe_callB call_isi (by rfl) z_isinstance boot_isinstance (pa_cons (pv 1) (pa_cons (pe_bltn (v := .ty "int") (by rfl) z_int boot_int rfl) pa_nil)))) (pss_one (ps_ret (pe_and (pe_callB call_isi (by rfl) z_isinstance boot_isinstance (pa_cons (pv 0) (pa_cons (pe_bltn (v := .ty "int") (by rfl) z_int boot_int rfl) pa_nil))) (pe_and (pe_not (pe_callB call_isi (by rfl) z_isinstance boot_isinstance (pa_cons (pv 0) (pa_cons (pe_bltn (v := .ty "bool") (by rfl) z_bool boot_bool rfl) pa_nil)))) (pe_one (pe_cmpR op_eq (pv 0) (pv 1) (nomark _))))))) pss_nil)
      (pss_one (ps_ret (pe_and (pe_callB call_isi (by rfl) z_isinstance boot_isinstance (pa_cons (pv 0) (pa_cons (pe_bltn (v := .ty "str") (by rfl) z_str boot_str rfl) pa_nil))) (pe_one (pe_cmpR op_eq (pv 0) (pv 1) (nomark _)))))))))), ?_⟩
    try simp only [Rd.cxK]
    cases d with
    | none =>
      cases hx; cases hy
      walk_at "rd"
      all_goals first | contradiction | exact k
    | bool b =>
      cases hx; cases hy
      walk_at "rd"
      all_goals first | contradiction | simpa using k
    | int i =>
      cases hx; cases hy
      walk_at "rd"
      all_goals first | contradiction | simpa using k
    | str z =>
      cases hx; cases hy
      walk_at "rd"
      all_goals first | contradiction | simpa using k
    | dict kvs => cases hx
    | list ds => cases hf
    | tuple ds =>
      cases hx with
      | tup h1 d1 =>
        cases hy with
        | tup h2 d2 =>
          have e1 := Rd.dpAll_len d1
          have e2 := Rd.dpAll_len d2
          obtain ⟨hl, ha⟩ := Bool.and_eq_true_iff.mp hf
          have hl := of_decide_eq_true hl
          have hn1 : 1 < n + 1 := hn
          walk_at "rd"
          · exact absurd ‹_› V.noConfusion
          · rename_i hne; exact absurd (by rw [e1, e2]) hne
          · refine Rd.rng1 (fun i σ' H' => ∃ kv, σ' = [some (.ref _), some (.ref _), kv] ∧ H' = H) (by omega) ⟨_, rfl, rfl⟩ ?_ ?_
            · rintro i σ' H' hi ⟨kv, rfl, rfl⟩
              have hi' : i < ds.length := by omega
              obtain ⟨u, hu, du⟩ := Rd.dpAll_get d1 i hi'
              obtain ⟨w, hw, dw⟩ := Rd.dpAll_get d2 i hi'
              have at1 := atom_get ha hi'
              walk_at "rd"
              refine Rd.ixQT h1 (atI_nat hu) ?_
              walk_at "rd"
              refine Rd.ixQT h2 (atI_nat hw) ?_
              walk_at "rd"
              refine ⟨_, _, _, rfl, du, dw, atom_flat at1, by rw [atom_rk at1]; omega, ?_⟩
              walk_at "rd"
              exact ⟨_, rfl, rfl⟩
            · rintro σ' H' ⟨kv, rfl, rfl⟩
              walk_at "rd"
              exact k
theorem fn_law_same {f : Addr} {fd : FuncData} (mf : mg "_law_same" = some (.ref f)) (F : FnP K "_law_same" s_law_same f fd)  (z_isinstance : mg "isinstance" = none) (z_tuple : mg "tuple" = none) (z_len : mg "len" = none) (z_range : mg "range" = none) (z_bool : mg "bool" = none) (z_int : mg "int" = none) (z_str : mg "str" = none) : ∀ n : Nat, FnOk P w K mg base CX0 (0 + n) f fd ["actual", "expected"] (sp_law_same K n)
  | 0 => Rd.none_left fun vs H Q E h => by obtain ⟨x, y, d, rfl, hx, hy, hf, hn, k⟩ := h; omega
  | n + 1 => step_law_same F ⟨f, fd, mf, F.kp, F.bindsN fun _ _ _ _ _ _ us hl => match us, hl with | [_, _], _ => rfl, fn_law_same mf F z_isinstance z_tuple z_len z_range z_bool z_int z_str n⟩ z_isinstance z_tuple z_len z_range z_bool z_int z_str
theorem ok_law_same {f : Addr} {fd : FuncData} (mf : mg "_law_same" = some (.ref f)) (F : FnP K "_law_same" s_law_same f fd)  (z_isinstance : mg "isinstance" = none) (z_tuple : mg "tuple" = none) (z_len : mg "len" = none) (z_range : mg "range" = none) (z_bool : mg "bool" = none) (z_int : mg "int" = none) (z_str : mg "str" = none) : Cal P w K mg base "_law_same" 2 ["actual", "expected"] (sp_law_same K 2) :=
  ⟨f, fd, mf, F.kp, F.bindsN fun _ _ _ _ _ _ us hl => match us, hl with | [_, _], _ => rfl, fn_law_same mf F z_isinstance z_tuple z_len z_range z_bool z_int z_str 2⟩

theorem fn_law_values {f : Addr} {fd : FuncData} (F : FnP K "_law_values" s_law_values f fd) (C_law_between : Cal P w K mg base "_law_between" 1 ["numbers", "at", "low", "high"] (sp_law_between K)) (z_range : mg "range" = none) (z_int : mg "int" = none) : FnOk P w K mg base CX0 2 f fd ["numbers"] (sp_law_values K) := by
  obtain ⟨f_law_between, fd_law_between, m_law_between, k_law_between, b_law_between, G_law_between⟩ := C_law_between.ex
  refine F.ok sc_law_values (fun vs H Q E h => ?_) (fun cdv A outer s H vs Q E hr h => ?_)
  · obtain ⟨b, ns, rfl, _⟩ := h; rfl
  · obtain ⟨b, ns, rfl, hb, hn, h3, k⟩ := h
    refine ⟨_, PSs.nox (pss_cons (ps_set (i := 1) sc_law_values.nd rfl (by first | exact Or.inl rfl | exact Or.inr rfl) (pe_lst (pa_cons (pe_op op_pow pe_int pe_int) (pa_cons pe_int (pa_cons pe_int (pa_cons pe_int (pa_cons pe_int (pa_cons pe_int (pa_cons pe_int (pa_cons pe_int (pa_cons pe_int (pa_cons pe_int pa_nil))))))))))))
      (pss_cons (ps_set (i := 2) sc_law_values.nd rfl (by first | exact Or.inl rfl | exact Or.inr rfl) (pe_lst (pa_cons pe_int (pa_cons pe_int (pa_cons pe_int (pa_cons pe_int (pa_cons pe_int (pa_cons pe_int (pa_cons pe_int (pa_cons pe_int (pa_cons pe_int (pa_cons pe_int pa_nil))))))))))))
      (pss_cons (ps_set (i := 3) sc_law_values.nd rfl (by first | exact Or.inl rfl | exact Or.inr rfl) (pe_lst (pa_cons pe_int (pa_cons pe_int (pa_cons pe_int (pa_cons pe_int (pa_cons pe_int (pa_cons pe_int (pa_cons pe_int (pa_cons pe_int (pa_cons pe_int (pa_cons pe_int pa_nil))))))))))))
      (pss_cons (ps_set (i := 4) sc_law_values.nd rfl (by first | exact Or.inl rfl | exact Or.inr rfl) (pe_lc (own := [("k", 5)]) (g := gName 5) (tt := tYes) rfl sc_law_values.nd (pi_range1 (by rfl) z_range (pa_cons pe_int pa_nil)) (blkOk_by (N := N_law_values) (sc := defScope s_law_values) (by decide +kernel)) (fun _ _ _ _ _ => pg_name (i := 5) sc_law_values.nd rfl (by first | exact Or.inl rfl | exact Or.inr rfl)) (fun _ _ _ _ _ => pts_nil) (fun _ _ _ _ _ => (pe_call G_law_between (hr.mono (by decide)) (by rfl) m_law_between k_law_between b_law_between .nil pass0 (pa_cons (pv 0) (pa_cons (pe_op op_mul pe_int (pv 5)) (pa_cons (pe_ix (Rb.ix_listK (K := K) rfl) (pv 2) (pv 5) (fun _ _ => rfl)) (pa_cons (pe_ix (Rb.ix_listK (K := K) rfl) (pv 1) (pv 5) (fun _ _ => rfl)) pa_nil))))))))
      (pss_one (ps_ret (pe_lc (own := [("k", 5)]) (g := gName 5) (tt := tYes) rfl sc_law_values.nd (pi_range1 (by rfl) z_range (pa_cons pe_int pa_nil)) (blkOk_by (N := N_law_values) (sc := defScope s_law_values) (by decide +kernel)) (fun _ _ _ _ _ => pg_name (i := 5) sc_law_values.nd rfl (by first | exact Or.inl rfl | exact Or.inr rfl)) (fun _ _ _ _ _ => pts_nil) (fun _ _ _ _ _ => (pe_ix (Rb.ix_listK (K := K) rfl) (pe_lst (pa_cons (pe_ix (Rb.ix_listK (K := K) rfl) (pv 4) (pv 5) (fun _ _ => rfl)) (pa_cons (pe_ix (Rb.ix_listK (K := K) rfl) (pv 3) (pv 5) (fun _ _ => rfl)) pa_nil))) (pe_callTy call_int1 (by rfl) z_int boot_int (pa_cons (pe_cmpR op_eq (pe_op op_mod (pe_ix (Rb.ix_listK (K := K) rfl) (pv 0) (pe_op op_add pe_int (pv 5)) (fun _ _ => rfl)) pe_int) pe_int (nomark _)) pa_nil)) (fun _ _ => rfl)))))))))), ?_⟩
    try simp only [Rd.cxK]
    walk_at "rd"
    rename_i p1 hp1 p2 hp2 p3 hp3
    refine Rd.lcR1 (fun D i acc H' => ∃ ms : List Int, acc = ms.map V.int) (by omega) (fun D H' _ _ _ => ⟨[], rfl⟩) ?_ ?_
    · rintro i acc D H' hD s hi hl hDl ⟨ms, rfl⟩
      obtain ⟨lo, hi', e1, e2, hlh⟩ := lohi i (by omega)
      have t1 := s _ _ (Rd.nh hp3 (Rd.nh hp2 upd_same))
      have t2 := s _ _ (Rd.nh hp3 upd_same)
      have tb := s _ _ (Rd.nh hp3 (Rd.nh hp2 (Rd.nh hp1 hb)))
      walk_at "rd"
      refine Rd.ixL (SqL.of t2) (atI_nat e1) ?_
      walk_at "rd"
      refine Rd.ixL (SqL.of t1) (atI_nat e2) ?_
      walk_at "rd"
      refine ⟨_, _, _, _, _, rfl, tb, hn, h3, hlh, fun z H2 s2 => ?_⟩
      exact Rd.lcE hD (s2 _ _ hDl) (s.trans s2) hl (by omega) ⟨ms ++ [z], by simp⟩
    · rintro D acc H' hD s hDl hal ⟨ms, rfl⟩
      have hml : ms.length = 10 := by rw [← List.length_map (f := V.int)]; exact hal
      have t3 := s _ _ upd_same
      have tb := s _ _ (Rd.nh hp3 (Rd.nh hp2 (Rd.nh hp1 hb)))
      have sH : Same H H' := (((Rd.same_new hp1).trans (Rd.same_new hp2)).trans (Rd.same_new hp3)).trans s
      walk_at "rd"
      refine Rd.lcR1 (fun D i acc H' => ∃ ms : List Int, acc = ms.map V.int) (by omega) (fun D H' _ _ _ => ⟨[], rfl⟩) ?_ ?_
      · rintro i acc D2 H2 hD2 s2 hi hl hDl2 ⟨qs, rfl⟩
        have tD := s2 _ _ hDl
        have t3' := s2 _ _ t3
        have tb' := s2 _ _ tb
        walk_at "rd"
        refine Rd.ixLall isI (SqL.of t3') rfl (by omega) (by simpa using hi) fun v hv => ?_
        obtain ⟨u, rfl⟩ := isI_ex hv
        walk_at "rd"
        rename_i q hq
        refine Rd.ixLall isI (SqL.of upd_same) rfl (by split <;> omega) (by show _ < ((2 : Nat) : Int); split <;> omega) fun v hv2 => ?_
        obtain ⟨u2, rfl⟩ := isI_ex hv2
        exact Rd.lcE hD2 (Rd.nh hq hDl2) (s2.trans (Rd.same_new hq)) hl (by omega) ⟨qs ++ [u2], by simp⟩
      · rintro D2 acc H2 hD2 s2 hDl2 hal2 ⟨qs, rfl⟩
        exact k D2 qs _ (sH.trans s2) (by
          cases e : H D2 with
          | none => rfl
          | some o => have := sH _ _ e; rw [hD2] at this; cases this) hDl2 (by rw [← List.length_map (f := V.int)]; exact hal2)
theorem ok_law_values {f : Addr} {fd : FuncData} (mf : mg "_law_values" = some (.ref f)) (F : FnP K "_law_values" s_law_values f fd) (C_law_between : Cal P w K mg base "_law_between" 1 ["numbers", "at", "low", "high"] (sp_law_between K)) (z_range : mg "range" = none) (z_int : mg "int" = none) : Cal P w K mg base "_law_values" 2 ["numbers"] (sp_law_values K) :=
  ⟨f, fd, mf, F.kp, F.bindsN fun _ _ _ _ _ _ us hl => match us, hl with | [_], _ => rfl, fn_law_values F C_law_between z_range z_int⟩

theorem fn_law_params_hold {f : Addr} {fd : FuncData} (F : FnP K "_law_params_hold" s_law_params_hold f fd) (C_Params___init : CalP P w K mg base) (C_law_same : Cal P w K mg base "_law_same" 2 ["actual", "expected"] (sp_law_same K 2)) (C_law_shown : Cal P w K mg base "_law_shown" 1 ["params"] (sp_law_shown K)) (z_range : mg "range" = none) (z_tuple : mg "tuple" = none) (W_Params : PFacts K mg) : FnOk P w K mg base CX0 3 f fd ["values", "other", "some"] (sp_law_params_hold K) := by
  obtain ⟨fd_Params___init, D_Params___init, G_Params___init⟩ := C_Params___init.ex; obtain ⟨ds_n, kr_n, kb_n⟩ := Bk42.kb_n D_Params___init; obtain ⟨mv_w, kb_w⟩ := Bk42.kb_w D_Params___init; obtain ⟨mv_t, kb_t⟩ := Bk42.kb_t D_Params___init; obtain ⟨mv_p, kb_p⟩ := Bk42.kb_p D_Params___init; obtain ⟨mv_s0, kb_s0⟩ := Bk42.kb_s0 D_Params___init; obtain ⟨mv_s1, kb_s1⟩ := Bk42.kb_s1 D_Params___init; obtain ⟨mv_s2, kb_s2⟩ := Bk42.kb_s2 D_Params___init; obtain ⟨mv_s3, kb_s3⟩ := Bk42.kb_s3 D_Params___init; obtain ⟨mv_s4, kb_s4⟩ := Bk42.kb_s4 D_Params___init; obtain ⟨mv_s5, kb_s5⟩ := Bk42.kb_s5 D_Params___init; obtain ⟨mv_s6, kb_s6⟩ := Bk42.kb_s6 D_Params___init; obtain ⟨mv_s7, kb_s7⟩ := Bk42.kb_s7 D_Params___init; obtain ⟨mv_s8, kb_s8⟩ := Bk42.kb_s8 D_Params___init; obtain ⟨mv_s9, kb_s9⟩ := Bk42.kb_s9 D_Params___init
  obtain ⟨f_law_same, fd_law_same, m_law_same, k_law_same, b_law_same, G_law_same⟩ := C_law_same.ex
  obtain ⟨f_law_shown, fd_law_shown, m_law_shown, k_law_shown, b_law_shown, G_law_shown⟩ := C_law_shown.ex
  have Bf := W_Params
  refine F.ok sc_law_params_hold (fun vs H Q E h => ?_) (fun cdv A outer s H vs Q E hr h => ?_)
  · obtain ⟨a, b, c, xs, ys, zs, rfl, _⟩ := h; rfl
  · obtain ⟨a, b, c, xs, ys, zs, rfl, ha, hb, hc, hx, hy, hz, k⟩ := h
    refine ⟨_, PSs.nox (pss_cons (ps_set (i := 3) sc_law_params_hold.nd rfl (by first | exact Or.inl rfl | exact Or.inr rfl) (pe_makeK0 Bf.mkr G_Params___init (hr.mono (by decide)) (by rfl) Bf.m kb_w pass0 (pk_cons (pe_ix ix_list (pv 0) pe_int (fun _ _ => rfl)) (pk_cons (pe_ix ix_list (pv 0) pe_int (fun _ _ => rfl)) (pk_cons (pe_ix ix_list (pv 0) pe_int (fun _ _ => rfl)) (pk_cons (pe_ix ix_list (pv 0) pe_int (fun _ _ => rfl)) (pk_cons (pe_ix ix_list (pv 0) pe_int (fun _ _ => rfl)) (pk_cons (pe_ix ix_list (pv 0) pe_int (fun _ _ => rfl)) (pk_cons (pe_ix ix_list (pv 0) pe_int (fun _ _ => rfl)) (pk_cons (pe_ix ix_list (pv 0) pe_int (fun _ _ => rfl)) (pk_cons (pe_ix ix_list (pv 0) pe_int (fun _ _ => rfl)) (pk_cons (pe_ix ix_list (pv 0) pe_int (fun _ _ => rfl)) pk_nil))))))))))))
      (pss_cons (ps_set (i := 4) sc_law_params_hold.nd rfl (by first | exact Or.inl rfl | exact Or.inr rfl) (pe_makeK0 Bf.mkr G_Params___init (hr.mono (by decide)) (by rfl) Bf.m kb_t pass0 (pk_cons (pe_ix ix_list (pv 1) pe_int (fun _ _ => rfl)) (pk_cons (pe_ix ix_list (pv 1) pe_int (fun _ _ => rfl)) (pk_cons (pe_ix ix_list (pv 1) pe_int (fun _ _ => rfl)) (pk_cons (pe_ix ix_list (pv 1) pe_int (fun _ _ => rfl)) (pk_cons (pe_ix ix_list (pv 1) pe_int (fun _ _ => rfl)) (pk_cons (pe_ix ix_list (pv 1) pe_int (fun _ _ => rfl)) (pk_cons (pe_ix ix_list (pv 1) pe_int (fun _ _ => rfl)) (pk_cons (pe_ix ix_list (pv 1) pe_int (fun _ _ => rfl)) (pk_cons (pe_ix ix_list (pv 1) pe_int (fun _ _ => rfl)) (pk_cons (pe_ix ix_list (pv 1) pe_int (fun _ _ => rfl)) pk_nil))))))))))))
      (pss_cons (ps_set (i := 5) sc_law_params_hold.nd rfl (by first | exact Or.inl rfl | exact Or.inr rfl) (pe_tup (pa_cons pe_int (pa_cons pe_int (pa_cons pe_int (pa_cons pe_int (pa_cons pe_int (pa_cons pe_int (pa_cons pe_int (pa_cons pe_int (pa_cons pe_int (pa_cons pe_int pa_nil))))))))))))
      (pss_cons (ps_set (i := 6) sc_law_params_hold.nd rfl (by first | exact Or.inl rfl | exact Or.inr rfl) (pe_lst (pa_cons (pe_makeK0 Bf.mkr G_Params___init (hr.mono (by decide)) (by rfl) Bf.m kb_s0 pass0 (pk_cons (pe_ix ix_list (pv 2) pe_int (fun _ _ => rfl)) pk_nil)) (pa_cons (pe_makeK0 Bf.mkr G_Params___init (hr.mono (by decide)) (by rfl) Bf.m kb_s1 pass0 (pk_cons (pe_ix ix_list (pv 2) pe_int (fun _ _ => rfl)) pk_nil)) (pa_cons (pe_makeK0 Bf.mkr G_Params___init (hr.mono (by decide)) (by rfl) Bf.m kb_s2 pass0 (pk_cons (pe_ix ix_list (pv 2) pe_int (fun _ _ => rfl)) pk_nil)) (pa_cons (pe_makeK0 Bf.mkr G_Params___init (hr.mono (by decide)) (by rfl) Bf.m kb_s3 pass0 (pk_cons (pe_ix ix_list (pv 2) pe_int (fun _ _ => rfl)) pk_nil)) pa_nil))))))
      (pss_cons (ps_set (i := 6) sc_law_params_hold.nd rfl (by first | exact Or.inl rfl | exact Or.inr rfl) (pe_op op_cat (pv 6) (pe_lst (pa_cons (pe_makeK0 Bf.mkr G_Params___init (hr.mono (by decide)) (by rfl) Bf.m kb_s4 pass0 (pk_cons (pe_ix ix_list (pv 2) pe_int (fun _ _ => rfl)) pk_nil)) (pa_cons (pe_makeK0 Bf.mkr G_Params___init (hr.mono (by decide)) (by rfl) Bf.m kb_s5 pass0 (pk_cons (pe_ix ix_list (pv 2) pe_int (fun _ _ => rfl)) pk_nil)) (pa_cons (pe_makeK0 Bf.mkr G_Params___init (hr.mono (by decide)) (by rfl) Bf.m kb_s6 pass0 (pk_cons (pe_ix ix_list (pv 2) pe_int (fun _ _ => rfl)) pk_nil)) pa_nil))))))
      (pss_cons (ps_set (i := 6) sc_law_params_hold.nd rfl (by first | exact Or.inl rfl | exact Or.inr rfl) (pe_op op_cat (pv 6) (pe_lst (pa_cons (pe_makeK0 Bf.mkr G_Params___init (hr.mono (by decide)) (by rfl) Bf.m kb_s7 pass0 (pk_cons (pe_ix ix_list (pv 2) pe_int (fun _ _ => rfl)) pk_nil)) (pa_cons (pe_makeK0 Bf.mkr G_Params___init (hr.mono (by decide)) (by rfl) Bf.m kb_s8 pass0 (pk_cons (pe_ix ix_list (pv 2) pe_int (fun _ _ => rfl)) pk_nil)) (pa_cons (pe_makeK0 Bf.mkr G_Params___init (hr.mono (by decide)) (by rfl) Bf.m kb_s9 pass0 (pk_cons (pe_ix ix_list (pv 2) pe_int (fun _ _ => rfl)) pk_nil)) pa_nil))))))
      (pss_cons (ps_for PassesOwn.never rfl (pi_range1 (by rfl) z_range (pa_cons pe_int pa_nil)) (pg_name (i := 7) sc_law_params_hold.nd rfl (by first | exact Or.inl rfl | exact Or.inr rfl)) (pss_one (ps_if (pt_not (pt_val (pe_call G_law_same (hr.mono (by decide)) (by rfl) m_law_same k_law_same b_law_same .nil pass0 (pa_cons (pe_call G_law_shown (hr.mono (by decide)) (by rfl) m_law_shown k_law_shown b_law_shown .nil pass0 (pa_cons (pe_ix ix_list (pv 6) (pv 7) (fun _ _ => rfl)) pa_nil)) (pa_cons (pe_op op_catA (pe_op op_catA (pe_slice sl_tupA (pv 5) po_none (po_some (pv 7))) (pe_tup (pa_cons (pe_ix ix_list (pv 2) (pv 7) (fun _ _ => rfl)) pa_nil))) (pe_slice sl_tupA (pv 5) (po_some (pe_op op_add (pv 7) pe_int)) po_none)) pa_nil))))) (pss_one (ps_ret pe_bl)) pss_nil)))
      (pss_cons (ps_if (PW.pt (pw_or (pt_not (pt_val (pe_call G_law_same (hr.mono (by decide)) (by rfl) m_law_same k_law_same b_law_same .nil pass0 (pa_cons (pe_call G_law_shown (hr.mono (by decide)) (by rfl) m_law_shown k_law_shown b_law_shown .nil pass0 (pa_cons (pv 4) pa_nil)) (pa_cons (pe_callTy call_tuple_of (by rfl) z_tuple boot_tuple (pa_cons (pv 1) pa_nil)) pa_nil))))) (pw_or1 (pt_not (pt_val (pe_call G_law_same (hr.mono (by decide)) (by rfl) m_law_same k_law_same b_law_same .nil pass0 (pa_cons (pe_call G_law_shown (hr.mono (by decide)) (by rfl) m_law_shown k_law_shown b_law_shown .nil pass0 (pa_cons (pe_make0 Bf.mkr G_Params___init (hr.mono (by decide)) (by rfl) Bf.m kb_n kr_n pass0) pa_nil)) (pa_cons (pv 5) pa_nil)))))))) (pss_one (ps_ret pe_bl)) pss_nil)
      (pss_cons (ps_set (i := 8) sc_law_params_hold.nd rfl (by first | exact Or.inl rfl | exact Or.inr rfl) (pe_makeK0 Bf.mkr G_Params___init (hr.mono (by decide)) (by rfl) Bf.m kb_p pass0 (pk_cons (pe_ix ix_list (pv 2) pe_int (fun _ _ => rfl)) (pk_cons (pe_ix ix_list (pv 2) pe_int (fun _ _ => rfl)) (pk_cons (pe_ix ix_list (pv 2) pe_int (fun _ _ => rfl)) pk_nil)))))
      (pss_cons (ps_set (i := 9) sc_law_params_hold.nd rfl (by first | exact Or.inl rfl | exact Or.inr rfl) (pe_op op_catA (pe_op op_catA (pe_op op_catA (pe_op op_catA (pe_op op_catA (pe_tup (pa_cons (pe_ix ix_list (pv 2) pe_int (fun _ _ => rfl)) pa_nil)) (pe_slice sl_tupA (pv 5) (po_some pe_int) (po_some pe_int))) (pe_tup (pa_cons (pe_ix ix_list (pv 2) pe_int (fun _ _ => rfl)) pa_nil))) (pe_slice sl_tupA (pv 5) (po_some pe_int) (po_some pe_int))) (pe_tup (pa_cons (pe_ix ix_list (pv 2) pe_int (fun _ _ => rfl)) pa_nil))) (pe_slice sl_tupA (pv 5) (po_some pe_int) po_none)))
      (pss_one (ps_ret (pe_and (pe_call G_law_same (hr.mono (by decide)) (by rfl) m_law_same k_law_same b_law_same .nil pass0 (pa_cons (pe_call G_law_shown (hr.mono (by decide)) (by rfl) m_law_shown k_law_shown b_law_shown .nil pass0 (pa_cons (pv 8) pa_nil)) (pa_cons (pv 9) pa_nil))) (pe_one (pe_call G_law_same (hr.mono (by decide)) (by rfl) m_law_same k_law_same b_law_same .nil pass0 (pa_cons (pe_call G_law_shown (hr.mono (by decide)) (by rfl) m_law_shown k_law_shown b_law_shown .nil pass0 (pa_cons (pv 3) pa_nil)) (pa_cons (pe_callTy call_tuple_of (by rfl) z_tuple boot_tuple (pa_cons (pv 0) pa_nil)) pa_nil))))))))))))))))), ?_⟩
    try simp only [Rd.cxK]
    obtain ⟨x0, x1, x2, x3, x4, x5, x6, x7, x8, x9, rfl⟩ := ten hx
    obtain ⟨y0, y1, y2, y3, y4, y5, y6, y7, y8, y9, rfl⟩ := ten hy
    obtain ⟨z0, z1, z2, z3, z4, z5, z6, z7, z8, z9, rfl⟩ := ten hz
    simp only [List.map] at ha hb hc
    walk_at "rd"
    refine mkZ rfl (fun _ => rfl) fun H1 c1 s1 q1 => ?_
    have hb1 := s1 _ _ hb
    walk_at "rd"
    refine mkZ rfl (fun _ => rfl) fun H2 c2 s2 q2 => ?_
    have hc2 := s2 _ _ (s1 _ _ hc)
    walk_at "rd"
    rename_i u hu
    have s3 := Rd.same_new (o := HO.tup [V.int 20, V.int 5, V.int 1, V.int 2, V.int 150, V.int 2, V.int 10, V.int 50, V.int 4, V.int 20000]) hu
    refine mkZ rfl (fun _ => rfl) fun H3 c3 s4 q3 => ?_
    have hc3 := s4 _ _ (s3 _ _ hc2)
    walk_at "rd"
    refine mkZ rfl (fun _ => rfl) fun H4 c4 s5 q4 => ?_
    have hc4 := s5 _ _ hc3
    walk_at "rd"
    refine mkZ rfl (fun _ => rfl) fun H5 c5 s6 q5 => ?_
    have hc5 := s6 _ _ hc4
    walk_at "rd"
    refine mkZ rfl (fun _ => rfl) fun H6 c6 s7 q6 => ?_
    have hc6 := s7 _ _ hc5
    walk_at "rd"
    rename_i p0 hp0
    have sp0 := Rd.same_new (o := HO.lst [V.ref c3, V.ref c4, V.ref c5, V.ref c6]) hp0
    refine mkZ rfl (fun _ => rfl) fun H7 c7 s8 q7 => ?_
    have hc7 := s8 _ _ (sp0 _ _ hc6)
    walk_at "rd"
    refine mkZ rfl (fun _ => rfl) fun H8 c8 s9 q8 => ?_
    have hc8 := s9 _ _ (hc7)
    walk_at "rd"
    refine mkZ rfl (fun _ => rfl) fun H9 c9 s10 q9 => ?_
    have hc9 := s10 _ _ (hc8)
    walk_at "rd"
    rename_i p1 hp1
    have sp1 := Rd.same_new (o := HO.lst [V.ref c7, V.ref c8, V.ref c9]) hp1
    refine catE (sp1 _ _ (s10 _ _ (s9 _ _ (s8 _ _ upd_same)))) upd_same (by simp) fun p2 HA sc1 hA => ?_
    walk_at "rd"
    refine mkZ rfl (fun _ => rfl) fun H10 c10 s11 q10 => ?_
    have hc10 := s11 _ _ (sc1 _ _ (sp1 _ _ hc9))
    walk_at "rd"
    refine mkZ rfl (fun _ => rfl) fun H11 c11 s12 q11 => ?_
    have hc11 := s12 _ _ (hc10)
    walk_at "rd"
    refine mkZ rfl (fun _ => rfl) fun H12 c12 s13 q12 => ?_
    have hc12 := s13 _ _ (hc11)
    walk_at "rd"
    rename_i p3 hp3
    have sp2 := Rd.same_new (o := HO.lst [V.ref c10, V.ref c11, V.ref c12]) hp3
    refine catE (sp2 _ _ (s13 _ _ (s12 _ _ (s11 _ _ hA)))) upd_same (by simp) fun p4 HF sc2 hF => ?_
    have hcF := sc2 _ _ (sp2 _ _ hc12)
    have w14 := sp2.trans sc2
    have w13 := s13.trans w14
    have w12 := s12.trans w13
    have w11 := s11.trans w12
    have w10 := sc1.trans w11
    have w9 := sp1.trans w10
    have w8 := s10.trans w9
    have w7 := s9.trans w8
    have w6 := s8.trans w7
    have w5 := sp0.trans w6
    have w4 := s7.trans w5
    have w3 := s6.trans w4
    have w2 := s5.trans w3
    have w1 := s4.trans w2
    have hu' := w1 _ _ upd_same
    have w0 := s3.trans w1
    have q1F := q1.keep (s2.trans w0)
    have q2F := q2.keep w0
    have sF := s1.trans (s2.trans w0)
    have haF := sF _ _ ha
    have hbF := sF _ _ hb
    have hP : ∀ i : Nat, i < 10 → ∃ p z, ([V.ref c3, V.ref c4, V.ref c5, V.ref c6, V.ref c7, V.ref c8, V.ref c9, V.ref c10, V.ref c11, V.ref c12] : List V)[i]? = some (V.ref p) ∧ ([V.int z0, V.int z1, V.int z2, V.int z3, V.int z4, V.int z5, V.int z6, V.int z7, V.int z8, V.int z9] : List V)[i]? = some (V.int z) ∧ PAt K HF p (usI.set i z) := fun i hi => by
      match i, hi with
      | 0, _ => exact ⟨c3, z0, rfl, rfl, q3.keep w2⟩
      | 1, _ => exact ⟨c4, z1, rfl, rfl, q4.keep w3⟩
      | 2, _ => exact ⟨c5, z2, rfl, rfl, q5.keep w4⟩
      | 3, _ => exact ⟨c6, z3, rfl, rfl, q6.keep w5⟩
      | 4, _ => exact ⟨c7, z4, rfl, rfl, q7.keep w7⟩
      | 5, _ => exact ⟨c8, z5, rfl, rfl, q8.keep w8⟩
      | 6, _ => exact ⟨c9, z6, rfl, rfl, q9.keep w9⟩
      | 7, _ => exact ⟨c10, z7, rfl, rfl, q10.keep w12⟩
      | 8, _ => exact ⟨c11, z8, rfl, rfl, q11.keep w13⟩
      | 9, _ => exact ⟨c12, z9, rfl, rfl, q12.keep w14⟩
    clear w0 w1 w2 w3 w4 w5 w6 w7 w8 w9 w10 w11 w12 w13 w14 q1 q2 q3 q4 q5 q6 q7 q8 q9 q10 q11 q12 s1 s2 s3 s4 s5 s6 s7 s8 s9 s10 s11 s12 s13 sp0 sp1 sp2 sc1 sc2 hA hb1 hc2 hc3 hc4 hc5 hc6 hc7 hc8 hc9 hc10 hc11 hc12 hu hp0 hp1 hp3
    walk_at "rd"
    refine Rd.rng1 (fun i σ' H' => ∃ kv : Option V, σ' = [some (.ref a), some (.ref b), some (.ref c), some (.ref c1), some (.ref c2), some (.ref u), some (.ref p4), kv, none, none] ∧ Same HF H') (by omega) ⟨_, rfl, Same.refl _⟩ ?_ ?_
    · rintro i σ' H' hi ⟨kv, rfl, s⟩
      have hi2 : i < 10 := by omega
      obtain ⟨p, z, e1, e2, qp⟩ := hP i hi2
      walk_at "rd"
      refine Rd.ixL (SqL.of (s _ _ hF)) (atI_nat e1) ?_
      walk_at "rd"
      refine ⟨p, usI.set i z, rfl, qp.keep s, by rw [List.length_set]; rfl, fun t H2 s2 ht => ?_⟩
      have r2 := s.trans s2
      walk_at "rd"
      refine slA (xs := usI.map V.int) (SqT.of (r2 _ _ hu')) fun t1 H3 s3 ht1 => ?_
      have r3 := r2.trans s3
      walk_at "rd"
      refine Rd.ixL (SqL.of (r3 _ _ hcF)) (atI_nat e2) ?_
      walk_at "rd"
      rename_i t2 ht2
      refine Rb.catA (Rd.nt ht2 ht1) Rd.slT (by have := cutV_length (usI.map V.int) none (some (i : Int)); simp [usI] at this ⊢; omega) fun t3 H4 s4 ht3 => ?_
      have r4 := (r3.trans (Rd.same_new (o := HO.tup [V.int z]) ht2)).trans s4
      walk_at "rd"
      refine slA (xs := usI.map V.int) (SqT.of (r4 _ _ hu')) fun t4 H5 s5 ht4 => ?_
      have r5 := r4.trans s5
      walk_at "rd"
      refine Rb.catA (Rd.same_tup s5 ht3) ht4 (by have h1 := cutV_length (usI.map V.int) none (some (i : Int)); have h2 := cutV_length (usI.map V.int) (some ((i : Int) + 1)) none; simp [usI] at h1 h2 ⊢; omega) fun t5 H6 s6 ht5 => ?_
      rw [cut10 z i hi2] at ht5
      walk_at "rd"
      refine ⟨_, _, .tuple ((usI.set i z).map PyData.int), rfl, .tup (Rd.same_tup ((((s3.trans (Rd.same_new (o := HO.tup [V.int z]) ht2)).trans s4).trans s5).trans s6) (SqT.of ht)) dp_ints, .tup ht5 dp_ints, flat_ints (by rw [List.length_set]; decide), rk2 _, ?_⟩
      walk_at "rd"
      exact ⟨_, rfl, r5.trans s6⟩
    rintro σ' H1 ⟨kv, rfl, s1⟩
    walk_at "rd"
    refine ⟨c2, [y0, y1, y2, y3, y4, y5, y6, y7, y8, y9], rfl, q2F.keep s1, rfl, fun t H2 s2 ht => ?_⟩
    have r2 := s1.trans s2
    walk_at "rd"
    refine Rd.tupL (SqL.of (r2 _ _ hbF)) fun t1 ht1 => ?_
    have s3 := Rd.same_new (o := HO.tup [V.int y0, V.int y1, V.int y2, V.int y3, V.int y4, V.int y5, V.int y6, V.int y7, V.int y8, V.int y9]) ht1
    have r3 := r2.trans s3
    walk_at "rd"
    refine ⟨_, _, .tuple ([y0, y1, y2, y3, y4, y5, y6, y7, y8, y9].map PyData.int), rfl, .tup (SqT.of (s3 _ _ ht)) dp_ints, .tup (SqT.of upd_same) (dp_ints (l := [y0, y1, y2, y3, y4, y5, y6, y7, y8, y9])), flat_ints (by simp), rk2 _, ?_⟩
    walk_at "rd"
    refine mkY (fun _ => rfl) fun H4 d1 s4 qd => ?_
    have r4 := r3.trans s4
    walk_at "rd"
    refine ⟨d1, usI, rfl, qd, rfl, fun t2 H5 s5 ht2 => ?_⟩
    have r5 := r4.trans s5
    walk_at "rd"
    refine ⟨_, _, .tuple (usI.map PyData.int), rfl, .tup (SqT.of ht2) dp_ints, .tup (SqT.of (r5 _ _ hu')) (dp_ints (l := usI)), flat_ints (by decide), rk2 _, ?_⟩
    have hc5 := r5 _ _ hcF
    walk_at "rd"
    refine mkZ rfl (fun _ => rfl) fun H6 d2 s6 qe => ?_
    have r6 := r5.trans s6
    have hc6 := r6 _ _ hcF
    walk_at "rd"
    rename_i t3 ht3
    have e0 := Rd.same_new (o := HO.tup [V.int z0]) ht3
    refine slA (xs := usI.map V.int) (SqT.of (e0 _ _ (r6 _ _ hu'))) fun t4 H7 s7 ht4 => ?_
    have g7 := e0.trans s7
    walk_at "rd"
    refine Rb.catA (Rd.same_tup s7 Rd.slT) ht4 (Nat.le_of_ble_eq_true (by kernel_rfl)) fun t5 H8 s8 ht5 => ?_
    have g8 := g7.trans s8
    have hc8 := g8 _ _ hc6
    walk_at "rd"
    rename_i t6 ht6
    have e1 := Rd.same_new (o := HO.tup [V.int z6]) ht6
    refine Rb.catA (Rd.nt ht6 ht5) Rd.slT (Nat.le_of_ble_eq_true (by kernel_rfl)) fun t7 H9 s9 ht7 => ?_
    have g9 := (g8.trans e1).trans s9
    walk_at "rd"
    refine slA (xs := usI.map V.int) (SqT.of (g9 _ _ (r6 _ _ hu'))) fun t8 HA sA ht8 => ?_
    have gA := g9.trans sA
    walk_at "rd"
    refine Rb.catA (Rd.same_tup sA ht7) ht8 (Nat.le_of_ble_eq_true (by kernel_rfl)) fun t9 HB sB ht9 => ?_
    have gB := gA.trans sB
    have hcB := gB _ _ hc6
    walk_at "rd"
    rename_i ta hta
    have e2 := Rd.same_new (o := HO.tup [V.int z8]) hta
    refine Rb.catA (Rd.nt hta ht9) Rd.slT (Nat.le_of_ble_eq_true (by kernel_rfl)) fun tb HC sC htb => ?_
    have gC := (gB.trans e2).trans sC
    walk_at "rd"
    refine slA (xs := usI.map V.int) (SqT.of (gC _ _ (r6 _ _ hu'))) fun tc HD sD htc => ?_
    have gD := gC.trans sD
    walk_at "rd"
    refine Rb.catA (Rd.same_tup sD htb) htc (Nat.le_of_ble_eq_true (by kernel_rfl)) fun td HE sE htd => ?_
    have gE := gD.trans sE
    walk_at "rd"
    refine ⟨d2, [z0, 5, 1, 2, 150, 2, z6, 50, z8, 20000], rfl, qe.keep gE, rfl, fun te HF2 sF2 hte => ?_⟩
    have htd2 : SqT K HF2 td ([z0, 5, 1, 2, 150, 2, z6, 50, z8, 20000].map V.int) := Rd.same_tup sF2 htd
    walk_at "rd"
    refine ⟨_, _, .tuple ([z0, 5, 1, 2, 150, 2, z6, 50, z8, 20000].map PyData.int), rfl, .tup (SqT.of hte) dp_ints, .tup htd2 dp_ints, flat_ints (by simp), rk2 _, ?_⟩
    have rE := (r6.trans gE).trans sF2
    walk_at "rd"
    refine ⟨c1, [x0, x1, x2, x3, x4, x5, x6, x7, x8, x9], rfl, q1F.keep rE, rfl, fun tf HG sG htf => ?_⟩
    have rG := rE.trans sG
    walk_at "rd"
    refine Rd.tupL (SqL.of (rG _ _ haF)) fun tg htg => ?_
    have sg := Rd.same_new (o := HO.tup [V.int x0, V.int x1, V.int x2, V.int x3, V.int x4, V.int x5, V.int x6, V.int x7, V.int x8, V.int x9]) htg
    walk_at "rd"
    refine ⟨_, _, .tuple ([x0, x1, x2, x3, x4, x5, x6, x7, x8, x9].map PyData.int), rfl, .tup (SqT.of (sg _ _ htf)) dp_ints, .tup (SqT.of upd_same) (dp_ints (l := [x0, x1, x2, x3, x4, x5, x6, x7, x8, x9])), flat_ints (by simp), rk2 _, ?_⟩
    exact k _ ((sF.trans rG).trans sg)
theorem ok_law_params_hold {f : Addr} {fd : FuncData} (mf : mg "_law_params_hold" = some (.ref f)) (F : FnP K "_law_params_hold" s_law_params_hold f fd) (C_Params___init : CalP P w K mg base) (C_law_same : Cal P w K mg base "_law_same" 2 ["actual", "expected"] (sp_law_same K 2)) (C_law_shown : Cal P w K mg base "_law_shown" 1 ["params"] (sp_law_shown K)) (z_range : mg "range" = none) (z_tuple : mg "tuple" = none) (W_Params : PFacts K mg) : Cal P w K mg base "_law_params_hold" 3 ["values", "other", "some"] (sp_law_params_hold K) :=
  ⟨f, fd, mf, F.kp, F.bindsN fun _ _ _ _ _ _ us hl => match us, hl with | [_, _, _], _ => rfl, fn_law_params_hold F C_Params___init C_law_same C_law_shown z_range z_tuple W_Params⟩

theorem fn_law_errors_hold {f : Addr} {fd : FuncData} (F : FnP K "_law_errors_hold" s_law_errors_hold f fd) (C_law_same : Cal P w K mg base "_law_same" 2 ["actual", "expected"] (sp_law_same K 2)) (C_law_family : Cal P w K mg base "_law_family" 1 ["e"] (sp_law_family K)) (z_isinstance : mg "isinstance" = none) (z_ValueError : mg "ValueError" = none) (z_tuple : mg "tuple" = none) (z_range : mg "range" = none) (W_errs : EFacts K mg) : FnOk P w K mg base CX0 3 f fd ["errors", "family", "thing"] (sp_law_errors_hold K) := by
  obtain ⟨f_law_same, fd_law_same, m_law_same, k_law_same, b_law_same, G_law_same⟩ := C_law_same.ex
  obtain ⟨f_law_family, fd_law_family, m_law_family, k_law_family, b_law_family, G_law_family⟩ := C_law_family.ex
  have We := W_errs
  refine F.ok sc_law_errors_hold (fun vs H Q E h => ?_) (fun cdv A outer s H vs Q E hr h => ?_)
  · obtain ⟨l, es, j, x, d, rfl, _⟩ := h; rfl
  · obtain ⟨l, es, j, x, d, rfl, hl, he, hj, hz, hx, hf, k⟩ := h
    refine ⟨_, PSs.nox (pss_cons (ps_for PassesOwn.never rfl (pi_list (pv 0)) (pg_name (i := 3) sc_law_errors_hold.nd rfl (by first | exact Or.inl rfl | exact Or.inr rfl)) (pss_cons (ps_if (PW.pt (pw_or (pt_not (pt_val (pe_callB Bd.call_isE (by rfl) z_isinstance boot_isinstance (pa_cons (pv 3) (pa_cons (pe_glob (v := .ref (He.ga K "KeptError")) (by rfl) (We.m "KeptError" (by decide +kernel)) rfl) pa_nil))))) (pw_or (pt_not (pt_val (pe_callB Bd.call_isE (by rfl) z_isinstance boot_isinstance (pa_cons (pv 3) (pa_cons (pe_bltn (v := .ty "ValueError") (by rfl) z_ValueError boot_ValueError rfl) pa_nil))))) (pw_or1 (pt_not (pt_val (pe_call G_law_same (hr.mono (by decide)) (by rfl) m_law_same k_law_same b_law_same .nil pass0 (pa_cons (Bd.pe_errF (pv 3)) (pa_cons (pv 2) pa_nil))))))))) (pss_one (ps_ret pe_bl)) pss_nil)
      (pss_one (ps_if (pt_not (pt_val (pe_call G_law_same (hr.mono (by decide)) (by rfl) m_law_same k_law_same b_law_same .nil pass0 (pa_cons (pe_call G_law_family (hr.mono (by decide)) (by rfl) m_law_family k_law_family b_law_family .nil pass0 (pa_cons (pv 3) pa_nil)) (pa_cons (pe_callTy call_tuple_of (by rfl) z_tuple boot_tuple (pa_cons (pe_lc (own := [("k", 4)]) (g := gName 4) (tt := tYes) rfl sc_law_errors_hold.nd (pi_range1 (by rfl) z_range (pa_cons pe_int pa_nil)) (blkOk_by (N := N_law_errors_hold) (sc := defScope s_law_errors_hold) (by decide +kernel)) (fun _ _ _ _ _ => pg_name (i := 4) sc_law_errors_hold.nd rfl (by first | exact Or.inl rfl | exact Or.inr rfl)) (fun _ _ _ _ _ => pts_nil) (fun _ _ _ _ _ => (pe_cmpR op_eq (pv 4) (pv 1) (nomark _)))) pa_nil)) pa_nil))))) (pss_one (ps_ret pe_bl)) pss_nil))))
      (pss_one (ps_ret pe_bl))), ?_⟩
    try simp only [Rd.cxK]
    walk_at "rd"
    refine Rd.forL (fun i σ' H' => ∃ ev kv, σ' = [some (.ref l), some (.int j), some x, ev, kv] ∧ Same H H') (SqL.of hl) ⟨_, _, rfl, Same.refl H⟩ (fun i σ' H' _ ⟨_, _, _, s⟩ => s.seq (SqL.of hl)) ?_ ?_
    · rintro i v σ' H' hi ⟨ev, kv, rfl, s⟩
      obtain ⟨a, n, rfl, hj', he'⟩ := he v (List.mem_of_getElem? hi)
      have he2 := ErrAt.keep s he'
      have hx' := Rd.dp_same s hx
      have xc := (We.all hj').1
      show tSeq _ _ _ _ _
      walk_at "rd"
      refine isK We hj' he2 ?_
      walk_at "rd"
      refine isV We hj' he2 ?_
      walk_at "rd"
      refine whatF (Rd.var rfl ⟨a, _, x, rfl, he2, xc.x, xc.nw, ?_⟩)
      walk_at "rd"
      refine ⟨_, _, d, rfl, hx', hx', hf, rk2 d, ?_⟩
      walk_at "rd"
      refine ⟨a, n, j, x, rfl, hj', he2, fun p H2 s2 hp => ?_⟩
      walk_at "rd"
      refine Rd.lcR1 (fun D i acc H' => acc = (List.range i).map fun (q : Nat) => V.bl (decide ((q : Int) = j))) (by omega) (fun D H' _ _ _ => rfl) ?_ ?_
      · rintro i acc D H3 hD s3 hi hl hDl rfl
        walk_at "rd"
        refine Rd.lcE hD hDl s3 hl (by omega) ?_
        rw [List.range_succ, List.map_append]
        rfl
      · rintro D acc H3 hD s3 hDl hal rfl
        walk_at "rd"
        refine Rd.tupL (SqL.of hDl) fun t ht => ?_
        have ht2 : upd H3 t (.tup (famL j)) t = some (.tup (famV j)) := by rw [upd_same, fam_eq]
        walk_at "rd"
        refine ⟨_, _, famD j, rfl, famD_ok (Rd.nh ht (s3 _ _ hp)), famD_ok ht2, famD_flat j, rk2 _, ?_⟩
        walk_at "rd"
        exact ⟨_, _, rfl, ((s.trans s2).trans s3).trans (Rd.same_new ht)⟩
    · rintro σ' H' ⟨ev, kv, rfl, s⟩
      walk_at "rd"
      exact k _ s
theorem ok_law_errors_hold {f : Addr} {fd : FuncData} (mf : mg "_law_errors_hold" = some (.ref f)) (F : FnP K "_law_errors_hold" s_law_errors_hold f fd) (C_law_same : Cal P w K mg base "_law_same" 2 ["actual", "expected"] (sp_law_same K 2)) (C_law_family : Cal P w K mg base "_law_family" 1 ["e"] (sp_law_family K)) (z_isinstance : mg "isinstance" = none) (z_ValueError : mg "ValueError" = none) (z_tuple : mg "tuple" = none) (z_range : mg "range" = none) (W_errs : EFacts K mg) : Cal P w K mg base "_law_errors_hold" 3 ["errors", "family", "thing"] (sp_law_errors_hold K) :=
  ⟨f, fd, mf, F.kp, F.bindsN fun _ _ _ _ _ _ us hl => match us, hl with | [_, _, _], _ => rfl, fn_law_errors_hold F C_law_same C_law_family z_isinstance z_ValueError z_tuple z_range W_errs⟩

theorem fn_law_made_errors {f : Addr} {fd : FuncData} (F : FnP K "_law_made_errors" s_law_made_errors f fd) (C_KeptError___init : CalM P w K mg base (He.fAd K ("KeptError", some "__init__")) 1 ["self", "what"] [V.non] (sp_KeptError___init K))  (W_errs : EFacts K mg) : FnOk P w K mg base CX0 3 f fd ["x"] (sp_law_made_errors K) := by
  obtain ⟨fd_KeptError___init, b_KeptError___init, G_KeptError___init, ds_KeptError___init, dr_KeptError___init, db_KeptError___init⟩ := C_KeptError___init.ex
  have We := W_errs
  refine F.ok sc_law_made_errors (fun vs H Q E h => ?_) (fun cdv A outer s H vs Q E hr h => ?_)
  · obtain ⟨x, rfl, _⟩ := h; rfl
  · obtain ⟨x, rfl, k⟩ := h
    refine ⟨_, PSs.nox (pss_cons (ps_set (i := 1) sc_law_made_errors.nd rfl (by first | exact Or.inl rfl | exact Or.inr rfl) (pe_lst (pa_cons (Bd.pe_mkE (We.xc "ShapeError" (by decide +kernel)) G_KeptError___init (hr.mono (by decide)) (by rfl) (We.m "ShapeError" (by decide +kernel)) b_KeptError___init .nil pass0 (pa_cons (pv 0) pa_nil)) (pa_cons (Bd.pe_mkE (We.xc "BadNumber" (by decide +kernel)) G_KeptError___init (hr.mono (by decide)) (by rfl) (We.m "BadNumber" (by decide +kernel)) b_KeptError___init .nil pass0 (pa_cons (pv 0) pa_nil)) (pa_cons (Bd.pe_mkE (We.xc "TooMany" (by decide +kernel)) G_KeptError___init (hr.mono (by decide)) (by rfl) (We.m "TooMany" (by decide +kernel)) b_KeptError___init .nil pass0 (pa_cons (pv 0) pa_nil)) (pa_cons (Bd.pe_mkE (We.xc "NoSpends" (by decide +kernel)) G_KeptError___init (hr.mono (by decide)) (by rfl) (We.m "NoSpends" (by decide +kernel)) b_KeptError___init .nil pass0 (pa_cons (pv 0) pa_nil)) (pa_cons (Bd.pe_mkE (We.xc "Repeated" (by decide +kernel)) G_KeptError___init (hr.mono (by decide)) (by rfl) (We.m "Repeated" (by decide +kernel)) b_KeptError___init .nil pass0 (pa_cons (pv 0) pa_nil)) (pa_cons (Bd.pe_mkE (We.xc "BadName" (by decide +kernel)) G_KeptError___init (hr.mono (by decide)) (by rfl) (We.m "BadName" (by decide +kernel)) b_KeptError___init .nil pass0 (pa_cons (pv 0) pa_nil)) (pa_cons (Bd.pe_mkE (We.xc "BadText" (by decide +kernel)) G_KeptError___init (hr.mono (by decide)) (by rfl) (We.m "BadText" (by decide +kernel)) b_KeptError___init .nil pass0 (pa_cons (pv 0) pa_nil)) (pa_cons (Bd.pe_mkE (We.xc "BadOutput" (by decide +kernel)) G_KeptError___init (hr.mono (by decide)) (by rfl) (We.m "BadOutput" (by decide +kernel)) b_KeptError___init .nil pass0 (pa_cons (pv 0) pa_nil)) pa_nil))))))))))
      (pss_cons (ps_set (i := 1) sc_law_made_errors.nd rfl (by first | exact Or.inl rfl | exact Or.inr rfl) (pe_op op_cat (pv 1) (pe_lst (pa_cons (Bd.pe_mkE (We.xc "BadMint" (by decide +kernel)) G_KeptError___init (hr.mono (by decide)) (by rfl) (We.m "BadMint" (by decide +kernel)) b_KeptError___init .nil pass0 (pa_cons (pv 0) pa_nil)) (pa_cons (Bd.pe_mkE (We.xc "BadFee" (by decide +kernel)) G_KeptError___init (hr.mono (by decide)) (by rfl) (We.m "BadFee" (by decide +kernel)) b_KeptError___init .nil pass0 (pa_cons (pv 0) pa_nil)) (pa_cons (Bd.pe_mkE (We.xc "BadInterval" (by decide +kernel)) G_KeptError___init (hr.mono (by decide)) (by rfl) (We.m "BadInterval" (by decide +kernel)) b_KeptError___init .nil pass0 (pa_cons (pv 0) pa_nil)) (pa_cons (Bd.pe_mkE (We.xc "BadData" (by decide +kernel)) G_KeptError___init (hr.mono (by decide)) (by rfl) (We.m "BadData" (by decide +kernel)) b_KeptError___init .nil pass0 (pa_cons (pv 0) pa_nil)) (pa_cons (Bd.pe_mkE (We.xc "BadDraw" (by decide +kernel)) G_KeptError___init (hr.mono (by decide)) (by rfl) (We.m "BadDraw" (by decide +kernel)) b_KeptError___init .nil pass0 (pa_cons (pv 0) pa_nil)) pa_nil))))))))
      (pss_cons (ps_set (i := 2) sc_law_made_errors.nd rfl (by first | exact Or.inl rfl | exact Or.inr rfl) (pe_lst (pa_cons (Bd.pe_mkE (We.xc "RuleError" (by decide +kernel)) G_KeptError___init (hr.mono (by decide)) (by rfl) (We.m "RuleError" (by decide +kernel)) b_KeptError___init .nil pass0 (pa_cons (pv 0) pa_nil)) (pa_cons (Bd.pe_mkE (We.xc "Reused" (by decide +kernel)) G_KeptError___init (hr.mono (by decide)) (by rfl) (We.m "Reused" (by decide +kernel)) b_KeptError___init .nil pass0 (pa_cons (pv 0) pa_nil)) (pa_cons (Bd.pe_mkE (We.xc "OutsideInterval" (by decide +kernel)) G_KeptError___init (hr.mono (by decide)) (by rfl) (We.m "OutsideInterval" (by decide +kernel)) b_KeptError___init .nil pass0 (pa_cons (pv 0) pa_nil)) (pa_cons (Bd.pe_mkE (We.xc "UnknownOutput" (by decide +kernel)) G_KeptError___init (hr.mono (by decide)) (by rfl) (We.m "UnknownOutput" (by decide +kernel)) b_KeptError___init .nil pass0 (pa_cons (pv 0) pa_nil)) (pa_cons (Bd.pe_mkE (We.xc "NotSigned" (by decide +kernel)) G_KeptError___init (hr.mono (by decide)) (by rfl) (We.m "NotSigned" (by decide +kernel)) b_KeptError___init .nil pass0 (pa_cons (pv 0) pa_nil)) (pa_cons (Bd.pe_mkE (We.xc "NotJoined" (by decide +kernel)) G_KeptError___init (hr.mono (by decide)) (by rfl) (We.m "NotJoined" (by decide +kernel)) b_KeptError___init .nil pass0 (pa_cons (pv 0) pa_nil)) (pa_cons (Bd.pe_mkE (We.xc "TooMuch" (by decide +kernel)) G_KeptError___init (hr.mono (by decide)) (by rfl) (We.m "TooMuch" (by decide +kernel)) b_KeptError___init .nil pass0 (pa_cons (pv 0) pa_nil)) pa_nil)))))))))
      (pss_cons (ps_set (i := 2) sc_law_made_errors.nd rfl (by first | exact Or.inl rfl | exact Or.inr rfl) (pe_op op_cat (pv 2) (pe_lst (pa_cons (Bd.pe_mkE (We.xc "AlreadyJoined" (by decide +kernel)) G_KeptError___init (hr.mono (by decide)) (by rfl) (We.m "AlreadyJoined" (by decide +kernel)) b_KeptError___init .nil pass0 (pa_cons (pv 0) pa_nil)) (pa_cons (Bd.pe_mkE (We.xc "RewardLeft" (by decide +kernel)) G_KeptError___init (hr.mono (by decide)) (by rfl) (We.m "RewardLeft" (by decide +kernel)) b_KeptError___init .nil pass0 (pa_cons (pv 0) pa_nil)) (pa_cons (Bd.pe_mkE (We.xc "BadLock" (by decide +kernel)) G_KeptError___init (hr.mono (by decide)) (by rfl) (We.m "BadLock" (by decide +kernel)) b_KeptError___init .nil pass0 (pa_cons (pv 0) pa_nil)) (pa_cons (Bd.pe_mkE (We.xc "MissingData" (by decide +kernel)) G_KeptError___init (hr.mono (by decide)) (by rfl) (We.m "MissingData" (by decide +kernel)) b_KeptError___init .nil pass0 (pa_cons (pv 0) pa_nil)) (pa_cons (Bd.pe_mkE (We.xc "NeedlessData" (by decide +kernel)) G_KeptError___init (hr.mono (by decide)) (by rfl) (We.m "NeedlessData" (by decide +kernel)) b_KeptError___init .nil pass0 (pa_cons (pv 0) pa_nil)) (pa_cons (Bd.pe_mkE (We.xc "TooCostly" (by decide +kernel)) G_KeptError___init (hr.mono (by decide)) (by rfl) (We.m "TooCostly" (by decide +kernel)) b_KeptError___init .nil pass0 (pa_cons (pv 0) pa_nil)) pa_nil)))))))))
      (pss_cons (ps_set (i := 2) sc_law_made_errors.nd rfl (by first | exact Or.inl rfl | exact Or.inr rfl) (pe_op op_cat (pv 2) (pe_lst (pa_cons (Bd.pe_mkE (We.xc "FeeTooLow" (by decide +kernel)) G_KeptError___init (hr.mono (by decide)) (by rfl) (We.m "FeeTooLow" (by decide +kernel)) b_KeptError___init .nil pass0 (pa_cons (pv 0) pa_nil)) (pa_cons (Bd.pe_mkE (We.xc "NeedlessPledge" (by decide +kernel)) G_KeptError___init (hr.mono (by decide)) (by rfl) (We.m "NeedlessPledge" (by decide +kernel)) b_KeptError___init .nil pass0 (pa_cons (pv 0) pa_nil)) (pa_cons (Bd.pe_mkE (We.xc "BadPledge" (by decide +kernel)) G_KeptError___init (hr.mono (by decide)) (by rfl) (We.m "BadPledge" (by decide +kernel)) b_KeptError___init .nil pass0 (pa_cons (pv 0) pa_nil)) (pa_cons (Bd.pe_mkE (We.xc "PledgeTooSmall" (by decide +kernel)) G_KeptError___init (hr.mono (by decide)) (by rfl) (We.m "PledgeTooSmall" (by decide +kernel)) b_KeptError___init .nil pass0 (pa_cons (pv 0) pa_nil)) (pa_cons (Bd.pe_mkE (We.xc "Unbalanced" (by decide +kernel)) G_KeptError___init (hr.mono (by decide)) (by rfl) (We.m "Unbalanced" (by decide +kernel)) b_KeptError___init .nil pass0 (pa_cons (pv 0) pa_nil)) (pa_cons (Bd.pe_mkE (We.xc "WrongClaim" (by decide +kernel)) G_KeptError___init (hr.mono (by decide)) (by rfl) (We.m "WrongClaim" (by decide +kernel)) b_KeptError___init .nil pass0 (pa_cons (pv 0) pa_nil)) pa_nil)))))))))
      (pss_cons (ps_set (i := 3) sc_law_made_errors.nd rfl (by first | exact Or.inl rfl | exact Or.inr rfl) (pe_lst (pa_cons (Bd.pe_mkE (We.xc "ChainError" (by decide +kernel)) G_KeptError___init (hr.mono (by decide)) (by rfl) (We.m "ChainError" (by decide +kernel)) b_KeptError___init .nil pass0 (pa_cons (pv 0) pa_nil)) (pa_cons (Bd.pe_mkE (We.xc "BadBlockNumber" (by decide +kernel)) G_KeptError___init (hr.mono (by decide)) (by rfl) (We.m "BadBlockNumber" (by decide +kernel)) b_KeptError___init .nil pass0 (pa_cons (pv 0) pa_nil)) (pa_cons (Bd.pe_mkE (We.xc "KnownBlock" (by decide +kernel)) G_KeptError___init (hr.mono (by decide)) (by rfl) (We.m "KnownBlock" (by decide +kernel)) b_KeptError___init .nil pass0 (pa_cons (pv 0) pa_nil)) (pa_cons (Bd.pe_mkE (We.xc "BarredBlock" (by decide +kernel)) G_KeptError___init (hr.mono (by decide)) (by rfl) (We.m "BarredBlock" (by decide +kernel)) b_KeptError___init .nil pass0 (pa_cons (pv 0) pa_nil)) (pa_cons (Bd.pe_mkE (We.xc "UnknownParent" (by decide +kernel)) G_KeptError___init (hr.mono (by decide)) (by rfl) (We.m "UnknownParent" (by decide +kernel)) b_KeptError___init .nil pass0 (pa_cons (pv 0) pa_nil)) pa_nil)))))))
      (pss_cons (ps_set (i := 3) sc_law_made_errors.nd rfl (by first | exact Or.inl rfl | exact Or.inr rfl) (pe_op op_cat (pv 3) (pe_lst (pa_cons (Bd.pe_mkE (We.xc "TooManyTransactions" (by decide +kernel)) G_KeptError___init (hr.mono (by decide)) (by rfl) (We.m "TooManyTransactions" (by decide +kernel)) b_KeptError___init .nil pass0 (pa_cons (pv 0) pa_nil)) (pa_cons (Bd.pe_mkE (We.xc "TooDeep" (by decide +kernel)) G_KeptError___init (hr.mono (by decide)) (by rfl) (We.m "TooDeep" (by decide +kernel)) b_KeptError___init .nil pass0 (pa_cons (pv 0) pa_nil)) (pa_cons (Bd.pe_mkE (We.xc "BadBlock" (by decide +kernel)) G_KeptError___init (hr.mono (by decide)) (by rfl) (We.m "BadBlock" (by decide +kernel)) b_KeptError___init .nil pass0 (pa_cons (pv 0) pa_nil)) (pa_cons (Bd.pe_mkE (We.xc "BadSlot" (by decide +kernel)) G_KeptError___init (hr.mono (by decide)) (by rfl) (We.m "BadSlot" (by decide +kernel)) b_KeptError___init .nil pass0 (pa_cons (pv 0) pa_nil)) pa_nil)))))))
      (pss_one (ps_ret (pe_lst (pa_cons (pv 1) (pa_cons (pe_lst (pa_cons (Bd.pe_mkE (We.xc "StateError" (by decide +kernel)) G_KeptError___init (hr.mono (by decide)) (by rfl) (We.m "StateError" (by decide +kernel)) b_KeptError___init .nil pass0 (pa_cons (pv 0) pa_nil)) (pa_cons (Bd.pe_mkE (We.xc "Present" (by decide +kernel)) G_KeptError___init (hr.mono (by decide)) (by rfl) (We.m "Present" (by decide +kernel)) b_KeptError___init .nil pass0 (pa_cons (pv 0) pa_nil)) (pa_cons (Bd.pe_mkE (We.xc "Absent" (by decide +kernel)) G_KeptError___init (hr.mono (by decide)) (by rfl) (We.m "Absent" (by decide +kernel)) b_KeptError___init .nil pass0 (pa_cons (pv 0) pa_nil)) (pa_cons (Bd.pe_mkE (We.xc "NoPot" (by decide +kernel)) G_KeptError___init (hr.mono (by decide)) (by rfl) (We.m "NoPot" (by decide +kernel)) b_KeptError___init .nil pass0 (pa_cons (pv 0) pa_nil)) (pa_cons (Bd.pe_mkE (We.xc "NoMark" (by decide +kernel)) G_KeptError___init (hr.mono (by decide)) (by rfl) (We.m "NoMark" (by decide +kernel)) b_KeptError___init .nil pass0 (pa_cons (pv 0) pa_nil)) pa_nil)))))) (pa_cons (pv 2) (pa_cons (pv 3) (pa_cons (pe_lst (pa_cons (Bd.pe_mkE (We.xc "PoolError" (by decide +kernel)) G_KeptError___init (hr.mono (by decide)) (by rfl) (We.m "PoolError" (by decide +kernel)) b_KeptError___init .nil pass0 (pa_cons (pv 0) pa_nil)) (pa_cons (Bd.pe_mkE (We.xc "AlreadyPending" (by decide +kernel)) G_KeptError___init (hr.mono (by decide)) (by rfl) (We.m "AlreadyPending" (by decide +kernel)) b_KeptError___init .nil pass0 (pa_cons (pv 0) pa_nil)) (pa_cons (Bd.pe_mkE (We.xc "PoolFull" (by decide +kernel)) G_KeptError___init (hr.mono (by decide)) (by rfl) (We.m "PoolFull" (by decide +kernel)) b_KeptError___init .nil pass0 (pa_cons (pv 0) pa_nil)) pa_nil)))) (pa_cons (pe_lst (pa_cons (Bd.pe_mkE (We.xc "RecordError" (by decide +kernel)) G_KeptError___init (hr.mono (by decide)) (by rfl) (We.m "RecordError" (by decide +kernel)) b_KeptError___init .nil pass0 (pa_cons (pv 0) pa_nil)) (pa_cons (Bd.pe_mkE (We.xc "BadNotation" (by decide +kernel)) G_KeptError___init (hr.mono (by decide)) (by rfl) (We.m "BadNotation" (by decide +kernel)) b_KeptError___init .nil pass0 (pa_cons (pv 0) pa_nil)) (pa_cons (Bd.pe_mkE (We.xc "BadRecord" (by decide +kernel)) G_KeptError___init (hr.mono (by decide)) (by rfl) (We.m "BadRecord" (by decide +kernel)) b_KeptError___init .nil pass0 (pa_cons (pv 0) pa_nil)) (pa_cons (Bd.pe_mkE (We.xc "BadLine" (by decide +kernel)) G_KeptError___init (hr.mono (by decide)) (by rfl) (We.m "BadLine" (by decide +kernel)) b_KeptError___init .nil pass0 (pa_cons (pv 0) pa_nil)) pa_nil))))) (pa_cons (pe_lst (pa_cons (Bd.pe_mkE (We.xc "WalletError" (by decide +kernel)) G_KeptError___init (hr.mono (by decide)) (by rfl) (We.m "WalletError" (by decide +kernel)) b_KeptError___init .nil pass0 (pa_cons (pv 0) pa_nil)) (pa_cons (Bd.pe_mkE (We.xc "NotEnough" (by decide +kernel)) G_KeptError___init (hr.mono (by decide)) (by rfl) (We.m "NotEnough" (by decide +kernel)) b_KeptError___init .nil pass0 (pa_cons (pv 0) pa_nil)) (pa_cons (Bd.pe_mkE (We.xc "NoPledge" (by decide +kernel)) G_KeptError___init (hr.mono (by decide)) (by rfl) (We.m "NoPledge" (by decide +kernel)) b_KeptError___init .nil pass0 (pa_cons (pv 0) pa_nil)) (pa_cons (Bd.pe_mkE (We.xc "ScriptsRefuse" (by decide +kernel)) G_KeptError___init (hr.mono (by decide)) (by rfl) (We.m "ScriptsRefuse" (by decide +kernel)) b_KeptError___init .nil pass0 (pa_cons (pv 0) pa_nil)) pa_nil))))) (pa_cons (pe_lst (pa_cons (Bd.pe_mkE (We.xc "ScriptError" (by decide +kernel)) G_KeptError___init (hr.mono (by decide)) (by rfl) (We.m "ScriptError" (by decide +kernel)) b_KeptError___init .nil pass0 (pa_cons (pv 0) pa_nil)) pa_nil)) pa_nil)))))))))))))))))), ?_⟩
    try simp only [Rd.cxK]
    refine Rd.seq (Rd.asg (lstE (ns := ["ShapeError", "BadNumber", "TooMany", "NoSpends", "Repeated", "BadName", "BadText", "BadOutput"]) (j := 0) We rfl (by decide +kernel) (by decide) fun p1 e1 H1 s1 h1 q1 l1 => ?_))
    refine Rd.seq (Rd.asg (Rd.op (Rd.var rfl (lstE (ns := ["BadMint", "BadFee", "BadInterval", "BadData", "BadDraw"]) (j := 0) We rfl (by decide +kernel) (by decide) fun p2 e2 H2 s2 h2 q2 l2 => catE (s2 _ _ h1) h2 (by rw [l1, l2]; decide) fun p3 H3 s3 h3 => ?_))))
    have q3 := ((q1.keep s2).app q2).keep s3
    refine Rd.seq (Rd.asg (lstE (ns := ["RuleError", "Reused", "OutsideInterval", "UnknownOutput", "NotSigned", "NotJoined", "TooMuch"]) (j := 2) We rfl (by decide +kernel) (by decide) fun p4 e4 H4 s4 h4 q4 l4 => ?_))
    refine Rd.seq (Rd.asg (Rd.op (Rd.var rfl (lstE (ns := ["AlreadyJoined", "RewardLeft", "BadLock", "MissingData", "NeedlessData", "TooCostly"]) (j := 2) We rfl (by decide +kernel) (by decide) fun p5 e5 H5 s5 h5 q5 l5 => catE (s5 _ _ h4) h5 (by rw [l4, l5]; decide) fun p6 H6 s6 h6 => ?_))))
    have q6 := ((q4.keep s5).app q5).keep s6
    have l6 : (e4 ++ e5).length = 13 := by rw [List.length_append, l4, l5]; rfl
    refine Rd.seq (Rd.asg (Rd.op (Rd.var rfl (lstE (ns := ["FeeTooLow", "NeedlessPledge", "BadPledge", "PledgeTooSmall", "Unbalanced", "WrongClaim"]) (j := 2) We rfl (by decide +kernel) (by decide) fun p7 e7 H7 s7 h7 q7 l7 => catE (s7 _ _ h6) h7 (by rw [l6, l7]; decide) fun p8 H8 s8 h8 => ?_))))
    have q8 := ((q6.keep s7).app q7).keep s8
    refine Rd.seq (Rd.asg (lstE (ns := ["ChainError", "BadBlockNumber", "KnownBlock", "BarredBlock", "UnknownParent"]) (j := 3) We rfl (by decide +kernel) (by decide) fun p9 e9 H9 s9 h9 q9 l9 => ?_))
    refine Rd.seq (Rd.asg (Rd.op (Rd.var rfl (lstE (ns := ["TooManyTransactions", "TooDeep", "BadBlock", "BadSlot"]) (j := 3) We rfl (by decide +kernel) (by decide) fun pa ea Ha sa ha qa la => catE (sa _ _ h9) ha (by rw [l9, la]; decide) fun pb Hb sb hb => ?_))))
    have qb := ((q9.keep sa).app qa).keep sb
    refine Rd.ret (Rd.lst (Rd.cons (Rd.var rfl (Rd.cons (lstE (ns := ["StateError", "Present", "Absent", "NoPot", "NoMark"]) (j := 1) We rfl (by decide +kernel) (by decide) fun pc ec Hc sc hc qc lc => ?_))))) 
    refine Rd.cons (Rd.var rfl (Rd.cons (Rd.var rfl (Rd.cons (lstE (ns := ["PoolError", "AlreadyPending", "PoolFull"]) (j := 4) We rfl (by decide +kernel) (by decide) fun pd ed Hd sd hd qd ld => ?_)))))
    refine Rd.cons (lstE (ns := ["RecordError", "BadNotation", "BadRecord", "BadLine"]) (j := 5) We rfl (by decide +kernel) (by decide) fun pe ee He se he qe le => ?_)
    refine Rd.cons (lstE (ns := ["WalletError", "NotEnough", "NoPledge", "ScriptsRefuse"]) (j := 6) We rfl (by decide +kernel) (by decide) fun pf ef Hf sf hf qf lf => ?_)
    refine Rd.cons (lstE (ns := ["ScriptError"]) (j := 7) We rfl (by decide +kernel) (by decide) fun pg eg Hg sg hg qg lg => Rd.nil ⟨Rd.small (by simp), fun t ht => ?_⟩)
    have u := Rd.same_new (o := HO.lst [V.ref p3, V.ref pc, V.ref p8, V.ref pb, V.ref pd, V.ref pe, V.ref pf, V.ref pg]) ht
    have a7 := sg.trans u
    have a6 := sf.trans a7
    have a5 := se.trans a6
    have a4 := sd.trans a5
    have a3 := sc.trans a4
    have a2 := sa.trans (sb.trans a3)
    have a1 := s9.trans a2
    have a0 := s4.trans (s5.trans (s6.trans (s7.trans (s8.trans a1))))
    refine k t _ _ (s1.trans (s2.trans (s3.trans a0))) upd_same rfl fun i hi => ?_
    match i, hi with
    | 0, _ => exact ⟨_, _, rfl, a0 _ _ h3, q3.keep a0, by rw [List.length_append, l1, l2]; decide⟩
    | 1, _ => exact ⟨_, _, rfl, a4 _ _ hc, qc.keep a4, by rw [lc]; decide⟩
    | 2, _ => exact ⟨_, _, rfl, a1 _ _ h8, q8.keep a1, by rw [List.length_append, l6, l7]; decide⟩
    | 3, _ => exact ⟨_, _, rfl, a3 _ _ hb, qb.keep a3, by rw [List.length_append, l9, la]; decide⟩
    | 4, _ => exact ⟨_, _, rfl, a5 _ _ hd, qd.keep a5, by rw [ld]; decide⟩
    | 5, _ => exact ⟨_, _, rfl, a6 _ _ he, qe.keep a6, by rw [le]; decide⟩
    | 6, _ => exact ⟨_, _, rfl, a7 _ _ hf, qf.keep a7, by rw [lf]; decide⟩
    | 7, _ => exact ⟨_, _, rfl, u _ _ hg, qg.keep u, by rw [lg]; decide⟩
theorem ok_law_made_errors {f : Addr} {fd : FuncData} (mf : mg "_law_made_errors" = some (.ref f)) (F : FnP K "_law_made_errors" s_law_made_errors f fd) (C_KeptError___init : CalM P w K mg base (He.fAd K ("KeptError", some "__init__")) 1 ["self", "what"] [V.non] (sp_KeptError___init K))  (W_errs : EFacts K mg) : Cal P w K mg base "_law_made_errors" 3 ["x"] (sp_law_made_errors K) :=
  ⟨f, fd, mf, F.kp, F.bindsN fun _ _ _ _ _ _ us hl => match us, hl with | [_], _ => rfl, fn_law_made_errors F C_KeptError___init W_errs⟩

theorem fn_law {f : Addr} {fd : FuncData} (F : FnP K "law" s_law f fd) (C_law_stream : Cal P w K mg base "_law_stream" 2 ["script", "k", "many"] (sp_law_stream K)) (C_law_values : Cal P w K mg base "_law_values" 2 ["numbers"] (sp_law_values K)) (C_law_params_hold : Cal P w K mg base "_law_params_hold" 3 ["values", "other", "some"] (sp_law_params_hold K)) (C_law_cell : Cal P w K mg base "_law_cell" 1 ["script", "k"] (sp_law_cell K)) (C_law_made_errors : Cal P w K mg base "_law_made_errors" 3 ["x"] (sp_law_made_errors K)) (C_law_errors_hold : Cal P w K mg base "_law_errors_hold" 3 ["errors", "family", "thing"] (sp_law_errors_hold K)) (C_KeptError___init : CalM P w K mg base (He.fAd K ("KeptError", some "__init__")) 1 ["self", "what"] [V.non] (sp_KeptError___init K)) (C_law_same : Cal P w K mg base "_law_same" 2 ["actual", "expected"] (sp_law_same K 2)) (C_law_family : Cal P w K mg base "_law_family" 1 ["e"] (sp_law_family K)) (z_int : mg "int" = none) (z_abs : mg "abs" = none) (z_range : mg "range" = none) (z_isinstance : mg "isinstance" = none) (z_ValueError : mg "ValueError" = none) (z_tuple : mg "tuple" = none) (W_errs : EFacts K mg) : FnOk P w K mg base CX0 4 f fd ["script"] (sp_law K) := by
  obtain ⟨f_law_stream, fd_law_stream, m_law_stream, k_law_stream, b_law_stream, G_law_stream⟩ := C_law_stream.ex
  obtain ⟨f_law_values, fd_law_values, m_law_values, k_law_values, b_law_values, G_law_values⟩ := C_law_values.ex
  obtain ⟨f_law_params_hold, fd_law_params_hold, m_law_params_hold, k_law_params_hold, b_law_params_hold, G_law_params_hold⟩ := C_law_params_hold.ex
  obtain ⟨f_law_cell, fd_law_cell, m_law_cell, k_law_cell, b_law_cell, G_law_cell⟩ := C_law_cell.ex
  obtain ⟨f_law_made_errors, fd_law_made_errors, m_law_made_errors, k_law_made_errors, b_law_made_errors, G_law_made_errors⟩ := C_law_made_errors.ex
  obtain ⟨f_law_errors_hold, fd_law_errors_hold, m_law_errors_hold, k_law_errors_hold, b_law_errors_hold, G_law_errors_hold⟩ := C_law_errors_hold.ex
  obtain ⟨fd_KeptError___init, b_KeptError___init, G_KeptError___init, ds_KeptError___init, dr_KeptError___init, db_KeptError___init⟩ := C_KeptError___init.ex
  obtain ⟨f_law_same, fd_law_same, m_law_same, k_law_same, b_law_same, G_law_same⟩ := C_law_same.ex
  obtain ⟨f_law_family, fd_law_family, m_law_family, k_law_family, b_law_family, G_law_family⟩ := C_law_family.ex
  have We := W_errs
  refine F.ok sc_law (fun vs H Q E h => ?_) (fun cdv A outer s H vs Q E hr h => ?_)
  · obtain ⟨a, ns, rfl, _⟩ := h; rfl
  · obtain ⟨a, ns, rfl, hS, h63, k⟩ := h
    refine ⟨_, PSs.nox (pss_cons (ps_set (i := 1) sc_law.nd rfl (by first | exact Or.inl rfl | exact Or.inr rfl) (pe_call G_law_stream (hr.mono (by decide)) (by rfl) m_law_stream k_law_stream b_law_stream .nil pass0 (pa_cons (pv 0) (pa_cons pe_int (pa_cons pe_int pa_nil)))))
      (pss_cons (ps_set (i := 2) sc_law.nd rfl (by first | exact Or.inl rfl | exact Or.inr rfl) (pe_call G_law_values (hr.mono (by decide)) (by rfl) m_law_values k_law_values b_law_values .nil pass0 (pa_cons (pv 1) pa_nil)))
      (pss_cons (ps_set (i := 3) sc_law.nd rfl (by first | exact Or.inl rfl | exact Or.inr rfl) (pe_call G_law_values (hr.mono (by decide)) (by rfl) m_law_values k_law_values b_law_values .nil pass0 (pa_cons (pe_call G_law_stream (hr.mono (by decide)) (by rfl) m_law_stream k_law_stream b_law_stream .nil pass0 (pa_cons (pv 0) (pa_cons pe_int (pa_cons pe_int pa_nil)))) pa_nil)))
      (pss_cons (ps_set (i := 4) sc_law.nd rfl (by first | exact Or.inl rfl | exact Or.inr rfl) (pe_call G_law_values (hr.mono (by decide)) (by rfl) m_law_values k_law_values b_law_values .nil pass0 (pa_cons (pe_call G_law_stream (hr.mono (by decide)) (by rfl) m_law_stream k_law_stream b_law_stream .nil pass0 (pa_cons (pv 0) (pa_cons pe_int (pa_cons pe_int pa_nil)))) pa_nil)))
      (pss_cons (ps_if (pt_not (pt_val (pe_call G_law_params_hold (hr.mono (by decide)) (by rfl) m_law_params_hold k_law_params_hold b_law_params_hold .nil pass0 (pa_cons (pv 2) (pa_cons (pv 3) (pa_cons (pv 4) pa_nil)))))) (pss_one (ps_ret pe_bl)) pss_nil)
      (pss_cons (ps_set (i := 5) sc_law.nd rfl (by first | exact Or.inl rfl | exact Or.inr rfl) (pe_call G_law_cell (hr.mono (by decide)) (by rfl) m_law_cell k_law_cell b_law_cell .nil pass0 (pa_cons (pv 0) (pa_cons pe_int pa_nil))))
      (pss_cons (ps_set (i := 6) sc_law.nd rfl (by first | exact Or.inl rfl | exact Or.inr rfl) (pe_op op_mod (pe_callTy call_int1 (by rfl) z_int boot_int (pa_cons (pe_callB call_abs (by rfl) z_abs boot_abs (pa_cons (pv 5) pa_nil)) pa_nil)) (pe_op op_pow pe_int pe_int)))
      (pss_cons (ps_set (i := 7) sc_law.nd rfl (by first | exact Or.inl rfl | exact Or.inr rfl) (pe_ix ix_list (pe_lst (pa_cons pe_non (pa_cons (pv 6) (pa_cons (pe_op op_sub pe_int (pv 6)) (pa_cons (pe_op Rd.op_mulS pe_str (pe_op op_mod (pe_ix ix_list (pv 1) pe_int (fun _ _ => rfl)) pe_int)) (pa_cons (pe_tup (pa_cons (pv 6) (pa_cons pe_str pa_nil))) (pa_cons (pe_tup (pa_cons pe_str (pa_cons pe_int pa_nil))) pa_nil))))))) (pe_op op_mod (pe_ix ix_list (pv 1) pe_int (fun _ _ => rfl)) pe_int) (fun _ _ => rfl)))
      (pss_cons (ps_set (i := 8) sc_law.nd rfl (by first | exact Or.inl rfl | exact Or.inr rfl) (pe_call G_law_made_errors (hr.mono (by decide)) (by rfl) m_law_made_errors k_law_made_errors b_law_made_errors .nil pass0 (pa_cons (pv 7) pa_nil)))
      (pss_cons (ps_for PassesOwn.never rfl (pi_range1 (by rfl) z_range (pa_cons pe_int pa_nil)) (pg_name (i := 9) sc_law.nd rfl (by first | exact Or.inl rfl | exact Or.inr rfl)) (pss_one (ps_if (pt_not (pt_val (pe_call G_law_errors_hold (hr.mono (by decide)) (by rfl) m_law_errors_hold k_law_errors_hold b_law_errors_hold .nil pass0 (pa_cons (pe_ix ix_list (pv 8) (pv 9) (fun _ _ => rfl)) (pa_cons (pv 9) (pa_cons (pv 7) pa_nil)))))) (pss_one (ps_ret pe_bl)) pss_nil)))
      (pss_cons (ps_set (i := 10) sc_law.nd rfl (by first | exact Or.inl rfl | exact Or.inr rfl) (pe_lst (pa_cons (Bd.pe_mkE0 (We.xc "KeptError" (by decide +kernel)) G_KeptError___init (hr.mono (by decide)) (by rfl) (We.m "KeptError" (by decide +kernel)) db_KeptError___init dr_KeptError___init pass0) (pa_cons (Bd.pe_mkE0 (We.xc "Absent" (by decide +kernel)) G_KeptError___init (hr.mono (by decide)) (by rfl) (We.m "Absent" (by decide +kernel)) db_KeptError___init dr_KeptError___init pass0) (pa_cons (Bd.pe_mkE0 (We.xc "NoSpends" (by decide +kernel)) G_KeptError___init (hr.mono (by decide)) (by rfl) (We.m "NoSpends" (by decide +kernel)) db_KeptError___init dr_KeptError___init pass0) (pa_cons (Bd.pe_mkE0 (We.xc "NeedlessPledge" (by decide +kernel)) G_KeptError___init (hr.mono (by decide)) (by rfl) (We.m "NeedlessPledge" (by decide +kernel)) db_KeptError___init dr_KeptError___init pass0) (pa_cons (Bd.pe_mkE0 (We.xc "PoolFull" (by decide +kernel)) G_KeptError___init (hr.mono (by decide)) (by rfl) (We.m "PoolFull" (by decide +kernel)) db_KeptError___init dr_KeptError___init pass0) (pa_cons (Bd.pe_mkE0 (We.xc "BadRecord" (by decide +kernel)) G_KeptError___init (hr.mono (by decide)) (by rfl) (We.m "BadRecord" (by decide +kernel)) db_KeptError___init dr_KeptError___init pass0) (pa_cons (Bd.pe_mkE0 (We.xc "NotEnough" (by decide +kernel)) G_KeptError___init (hr.mono (by decide)) (by rfl) (We.m "NotEnough" (by decide +kernel)) db_KeptError___init dr_KeptError___init pass0) (pa_cons (Bd.pe_mkE0 (We.xc "TooDeep" (by decide +kernel)) G_KeptError___init (hr.mono (by decide)) (by rfl) (We.m "TooDeep" (by decide +kernel)) db_KeptError___init dr_KeptError___init pass0) pa_nil))))))))))
      (pss_cons (ps_for PassesOwn.never rfl (pi_list (pv 10)) (pg_name (i := 11) sc_law.nd rfl (by first | exact Or.inl rfl | exact Or.inr rfl)) (pss_one (ps_if (pt_cmpR op_notN (Bd.pe_errF (pv 11)) pe_non (nomark _)) (pss_one (ps_ret pe_bl)) pss_nil)))
      (pss_cons (ps_set (i := 12) sc_law.nd rfl (by first | exact Or.inl rfl | exact Or.inr rfl) (Bd.pe_mkE (We.xc "KeptError" (by decide +kernel)) G_KeptError___init (hr.mono (by decide)) (by rfl) (We.m "KeptError" (by decide +kernel)) b_KeptError___init .nil pass0 (pa_cons (pv 7) pa_nil)))
      (pss_cons (ps_if (PW.pt (pw_or (pt_not (pt_val (pe_call G_law_same (hr.mono (by decide)) (by rfl) m_law_same k_law_same b_law_same .nil pass0 (pa_cons (pe_call G_law_family (hr.mono (by decide)) (by rfl) m_law_family k_law_family b_law_family .nil pass0 (pa_cons (pv 12) pa_nil)) (pa_cons (pe_callTy call_tuple_of (by rfl) z_tuple boot_tuple (pa_cons (pe_lc (own := [("k", 9)]) (g := gName 9) (tt := tYes) rfl sc_law.nd (pi_range1 (by rfl) z_range (pa_cons pe_int pa_nil)) (blkOk_by (N := N_law) (sc := defScope s_law) (by decide +kernel)) (fun _ _ _ _ _ => pg_name (i := 9) sc_law.nd rfl (by first | exact Or.inl rfl | exact Or.inr rfl)) (fun _ _ _ _ _ => pts_nil) (fun _ _ _ _ _ => pe_bl)) pa_nil)) pa_nil))))) (pw_or1 (pt_not (pt_val (pe_callB Bd.call_isE (by rfl) z_isinstance boot_isinstance (pa_cons (pv 12) (pa_cons (pe_bltn (v := .ty "ValueError") (by rfl) z_ValueError boot_ValueError rfl) pa_nil)))))))) (pss_one (ps_ret pe_bl)) pss_nil)
      (pss_one (ps_ret (pe_call G_law_same (hr.mono (by decide)) (by rfl) m_law_same k_law_same b_law_same .nil pass0 (pa_cons (Bd.pe_errF (pv 12)) (pa_cons (pv 7) pa_nil))))))))))))))))))), ?_⟩
    try simp only [Rd.cxK, lit_0, lit_1, lit_2]
    walk_at "rd"
    refine ⟨a, ns, 0, 80, rfl, hS, by omega, by omega, fun p1 n1 H1 s1 hp1 h1 l1 b1 => ?_⟩
    have l1' : n1.length = 80 := l1
    walk_at "rd"
    refine ⟨p1, n1, rfl, h1, l1', b1, fun v1 vs1 H2 s2 _ hv1 lv1 => ?_⟩
    have t2 := s1.trans s2
    walk_at "rd"
    refine ⟨a, ns, 1, 80, rfl, t2.seq hS, by omega, by omega, fun p2 n2 H3 s3 hp2 h2 l2 b2 => ?_⟩
    walk_at "rd"
    refine ⟨p2, n2, rfl, h2, l2, b2, fun v2 vs2 H4 s4 _ hv2 lv2 => ?_⟩
    have t4 := (t2.trans s3).trans s4
    walk_at "rd"
    refine ⟨a, ns, 2, 80, rfl, t4.seq hS, by omega, by omega, fun p3 n3 H5 s5 hp3 h3 l3 b3 => ?_⟩
    walk_at "rd"
    refine ⟨p3, n3, rfl, h3, l3, b3, fun v3 vs3 H6 s6 _ hv3 lv3 => ?_⟩
    have t6 := (t4.trans s5).trans s6
    have m26 := ((s3.trans s4).trans s5).trans s6
    have m46 := s5.trans s6
    walk_at "rd"
    refine ⟨v1, v2, v3, vs1, vs2, vs3, rfl, m26 _ _ hv1, m46 _ _ hv2, hv3, lv1, lv2, lv3, fun H7 s7 => ?_⟩
    have t7 := t6.trans s7
    have hn7 : H7 p1 = some (.lst (n1.map V.int)) := s7 _ _ (m26 _ _ (s2 _ _ h1))
    clear hv1 hv2 hv3 h1 h2 h3 l2 l3 b2 b3 hp1 hp2 hp3
    walk_at "rd"
    refine ⟨a, ns, 3, rfl, t7.seq hS, by omega, fun z => ?_⟩
    walk_at "rd"
    rename_i near g0 g1 u1 hu1 u2 hu2 u3 hu3
    have s8 := ((Rd.same_new (o := HO.tup [V.int (near % 10000000000000000000000000000000000000000), V.str (Rd.S [110])]) hu1).trans (Rd.same_new (o := HO.tup [V.str (Rd.S [107, 101, 121]), V.int 0]) hu2))
    refine Rd.ixLmem (SqL.of upd_same) (by omega) (by show _ < ((6 : Nat) : Int); omega) fun x hx => ?_
    have hD : ∀ H8 : Hp, H8 u1 = some (HO.tup [V.int (near % 10000000000000000000000000000000000000000), V.str (Rd.S [110])]) → H8 u2 = some (HO.tup [V.str (Rd.S [107, 101, 121]), V.int 0]) → ∃ d, Dp K H8 x d ∧ flatD d = true := fun H8 e1 e2 => by
      simp only [List.mem_cons, List.not_mem_nil, or_false] at hx
      rcases hx with rfl | rfl | rfl | rfl | rfl | rfl
      · exact ⟨_, .non, rfl⟩
      · exact ⟨_, .int _, rfl⟩
      · exact ⟨_, .int _, rfl⟩
      · exact ⟨_, .str _, rfl⟩
      · exact ⟨_, .tup (SqT.of e1) (.cons (.int _) (.cons (.str _) .nil)), rfl⟩
      · exact ⟨_, .tup (SqT.of e2) (.cons (.str _) (.cons (.int _) .nil)), rfl⟩
    obtain ⟨d, hd, hf⟩ := hD _ (Rd.nh (o := HO.lst [V.non, V.int (near % 10000000000000000000000000000000000000000), V.int (0 - near % 10000000000000000000000000000000000000000), V.str (Rd.S (List.replicate (n1.getD (Int.toNat 70) 0 % 9).toNat 107)), V.ref u1, V.ref u2]) hu3 (Rd.nh hu2 upd_same)) (Rd.nh (o := HO.lst [V.non, V.int (near % 10000000000000000000000000000000000000000), V.int (0 - near % 10000000000000000000000000000000000000000), V.str (Rd.S (List.replicate (n1.getD (Int.toNat 70) 0 % 9).toNat 107)), V.ref u1, V.ref u2]) hu3 upd_same)
    clear hD hx
    walk_at "rd"
    refine ⟨x, rfl, fun pm ls H9 s9 hm lm hall => ?_⟩
    have hd9 := Rd.dp_same s9 hd
    clear hd s9 s8 hu1 hu2 hu3 hn7 s7
    walk_at "rd"
    refine Rd.rng1 (fun i σ' H' => ∃ kv : Option V, σ' = [some (.ref a), some (.ref p1), some (.ref v1), some (.ref v2), some (.ref v3), some (.int z), some (.int (near % 10000000000000000000000000000000000000000)), some x, some (.ref pm), kv, none, none, none] ∧ Same H9 H') (by omega) ⟨_, rfl, Same.refl _⟩ ?_ ?_
    · rintro i σ' H' hi ⟨kv, rfl, s⟩
      obtain ⟨l, es, e1, e2, e3, e4⟩ := hall i (by omega)
      walk_at "rd"
      refine Rd.ixL (SqL.of (s _ _ hm)) (atI_nat e1) ?_
      walk_at "rd"
      refine ⟨l, es, _, x, d, rfl, s _ _ e2, e3.keep s, by omega, e4, Rd.dp_same s hd9, hf, fun H2 s2 => ?_⟩
      walk_at "rd"
      exact ⟨_, rfl, s.trans s2⟩
    rintro σ' HA ⟨kv, rfl, sA⟩
    have hdA := Rd.dp_same sA hd9
    clear hd9 hall
    refine Rd.seq (Rd.asg (Rd.lst (errs0 (ns := [("KeptError", 8), ("Absent", 1), ("NoSpends", 0), ("NeedlessPledge", 2), ("PoolFull", 4), ("BadRecord", 5), ("NotEnough", 6), ("TooDeep", 3)]) We (by decide +kernel) fun es HB sB eB lB => ⟨Rd.small (by rw [lB]; decide), fun p hp => ?_⟩)))
    have hdB := Rd.dp_same (Rd.same_new (o := HO.lst es) hp) (Rd.dp_same sB hdA)
    walk_at "rd"
    refine Rd.forL (fun i σ' H' => ∃ kv ev : Option V, σ' = [some (.ref a), some (.ref p1), some (.ref v1), some (.ref v2), some (.ref v3), some (.int z), some (.int (near % 10000000000000000000000000000000000000000)), some x, some (.ref pm), kv, some (.ref p), ev, none] ∧ H' = upd HB p (.lst es)) (SqL.of upd_same) ⟨_, _, rfl, rfl⟩ (fun i σ' H' _ ⟨_, _, _, e⟩ => by rw [e]; exact SqL.of upd_same) ?_ ?_
    · rintro i v σ' H' hi ⟨kv, ev, rfl, rfl⟩
      obtain ⟨b, n, j, rfl, hj, he⟩ := eB v (List.mem_of_getElem? hi)
      have he2 := ErrAt.keep (Rd.same_new (o := HO.lst es) hp) he
      have xc := (We.all hj).1
      show tIfS _ _ _ _ _ _
      walk_at "rd"
      refine whatF (Rd.var rfl ⟨b, _, .non, rfl, he2, xc.x, xc.nw, ?_⟩)
      walk_at "rd"
      all_goals first | exact ⟨_, _, rfl, rfl⟩ | exact absurd rfl ‹_›
    rintro σ' H' ⟨kv, ev, rfl, rfl⟩
    refine Rd.seq (Rd.asg (mk1 (j := 8) We (by decide +kernel) rfl fun aw HC sC eC => ?_))
    have hdC := Rd.dp_same sC hdB
    have xc := (We.all (p := ("KeptError", 8)) (by decide +kernel)).1
    walk_at "rd"
    refine ⟨aw, "KeptError", 8, x, rfl, by decide +kernel, eC, fun p H2 s2 hp => ?_⟩
    walk_at "rd"
    refine Rd.lcR1 (fun D i acc H' => acc = List.replicate i (V.bl false)) (by omega) (fun D H' _ _ _ => rfl) ?_ ?_
    · rintro i acc D H3 hD s3 hi hl hDl rfl
      walk_at "rd"
      refine Rd.lcE hD hDl s3 hl (by omega) ?_
      rw [List.replicate_succ']
    rintro D acc H3 hD s3 hDl hal rfl
    walk_at "rd"
    refine Rd.tupL (SqL.of hDl) fun t ht => ?_
    have ht2 : upd H3 t (.tup (List.replicate 8 (V.bl false))) t = some (.tup (famV 8)) := upd_same
    walk_at "rd"
    refine ⟨_, _, famD 8, rfl, famD_ok (Rd.nh ht (s3 _ _ hp)), famD_ok ht2, famD_flat 8, rk2 _, ?_⟩
    have eD := ErrAt.keep ((s2.trans s3).trans (Rd.same_new (o := HO.tup (List.replicate 8 (V.bl false))) ht)) eC
    have hdD := Rd.dp_same ((s2.trans s3).trans (Rd.same_new (o := HO.tup (List.replicate 8 (V.bl false))) ht)) hdC
    walk_at "rd"
    refine isV (j := 8) We (by decide +kernel) eD ?_
    walk_at "rd"
    refine whatF (Rd.var rfl ⟨aw, _, x, rfl, eD, xc.x, xc.nw, ?_⟩)
    walk_at "rd"
    refine ⟨_, _, d, rfl, hdD, hdD, hf, rk2 d, ?_⟩
    exact k _
theorem ok_law {f : Addr} {fd : FuncData} (mf : mg "law" = some (.ref f)) (F : FnP K "law" s_law f fd) (C_law_stream : Cal P w K mg base "_law_stream" 2 ["script", "k", "many"] (sp_law_stream K)) (C_law_values : Cal P w K mg base "_law_values" 2 ["numbers"] (sp_law_values K)) (C_law_params_hold : Cal P w K mg base "_law_params_hold" 3 ["values", "other", "some"] (sp_law_params_hold K)) (C_law_cell : Cal P w K mg base "_law_cell" 1 ["script", "k"] (sp_law_cell K)) (C_law_made_errors : Cal P w K mg base "_law_made_errors" 3 ["x"] (sp_law_made_errors K)) (C_law_errors_hold : Cal P w K mg base "_law_errors_hold" 3 ["errors", "family", "thing"] (sp_law_errors_hold K)) (C_KeptError___init : CalM P w K mg base (He.fAd K ("KeptError", some "__init__")) 1 ["self", "what"] [V.non] (sp_KeptError___init K)) (C_law_same : Cal P w K mg base "_law_same" 2 ["actual", "expected"] (sp_law_same K 2)) (C_law_family : Cal P w K mg base "_law_family" 1 ["e"] (sp_law_family K)) (z_int : mg "int" = none) (z_abs : mg "abs" = none) (z_range : mg "range" = none) (z_isinstance : mg "isinstance" = none) (z_ValueError : mg "ValueError" = none) (z_tuple : mg "tuple" = none) (W_errs : EFacts K mg) : Cal P w K mg base "law" 4 ["script"] (sp_law K) :=
  ⟨f, fd, mf, F.kp, F.bindsN fun _ _ _ _ _ _ us hl => match us, hl with | [_], _ => rfl, fn_law F C_law_stream C_law_values C_law_params_hold C_law_cell C_law_made_errors C_law_errors_hold C_KeptError___init C_law_same C_law_family z_int z_abs z_range z_isinstance z_ValueError z_tuple W_errs⟩

end
theorem facts {P : Program} {w : World} {K : PySem.W.Frag} {h : Heap} {mg : Str → Option Value} {f : Addr} (X : K.In h) (G : h.Ns mainGlobals mg) (hfa : mg ("law" : Str) = some (.ref f)) (cx : ex K = true) (c : He.SaysD fa fn K) :
    ∃ fd : FuncData, (∀ (s : Shared) (v : Value), BindsTo s fd ⟨[v], []⟩ [("script", v)]) ∧ ∀ base : Heap, K.In base → base.Ns mainGlobals mg → FnOk P w K mg base CX0 4 f fd ["script"] (sp_law K) := by
  obtain ⟨fd_Params___init, F_Params___init⟩ := c.def_ 0 (d := d_Params___init) rfl
  obtain ⟨fd_KeptError___init, F_KeptError___init⟩ := c.def_ 1 (d := d_KeptError___init) rfl
  obtain ⟨fd_law_cell, F_law_cell⟩ := c.def_ 2 (d := d_law_cell) rfl
  have m_law_cell := He.glo_ok X G (c.fact 0 (f := .glo "_law_cell") rfl)
  obtain ⟨fd_law_numbers, F_law_numbers⟩ := c.def_ 3 (d := d_law_numbers) rfl
  have m_law_numbers := He.glo_ok X G (c.fact 1 (f := .glo "_law_numbers") rfl)
  obtain ⟨fd_law_between, F_law_between⟩ := c.def_ 4 (d := d_law_between) rfl
  have m_law_between := He.glo_ok X G (c.fact 2 (f := .glo "_law_between") rfl)
  obtain ⟨fd_law_shown, F_law_shown⟩ := c.def_ 5 (d := d_law_shown) rfl
  have m_law_shown := He.glo_ok X G (c.fact 3 (f := .glo "_law_shown") rfl)
  obtain ⟨fd_law_family, F_law_family⟩ := c.def_ 6 (d := d_law_family) rfl
  have m_law_family := He.glo_ok X G (c.fact 4 (f := .glo "_law_family") rfl)
  obtain ⟨fd_law_stream, F_law_stream⟩ := c.def_ 7 (d := d_law_stream) rfl
  have m_law_stream := He.glo_ok X G (c.fact 5 (f := .glo "_law_stream") rfl)
  obtain ⟨fd_law_same, F_law_same⟩ := c.def_ 8 (d := d_law_same) rfl
  have m_law_same := He.glo_ok X G (c.fact 6 (f := .glo "_law_same") rfl)
  obtain ⟨fd_law_values, F_law_values⟩ := c.def_ 9 (d := d_law_values) rfl
  have m_law_values := He.glo_ok X G (c.fact 7 (f := .glo "_law_values") rfl)
  obtain ⟨fd_law_params_hold, F_law_params_hold⟩ := c.def_ 10 (d := d_law_params_hold) rfl
  have m_law_params_hold := He.glo_ok X G (c.fact 8 (f := .glo "_law_params_hold") rfl)
  obtain ⟨fd_law_errors_hold, F_law_errors_hold⟩ := c.def_ 11 (d := d_law_errors_hold) rfl
  have m_law_errors_hold := He.glo_ok X G (c.fact 9 (f := .glo "_law_errors_hold") rfl)
  obtain ⟨fd_law_made_errors, F_law_made_errors⟩ := c.def_ 12 (d := d_law_made_errors) rfl
  have m_law_made_errors := He.glo_ok X G (c.fact 10 (f := .glo "_law_made_errors") rfl)
  obtain ⟨fd_law, F_law⟩ := c.def_ 13 (d := d_law) rfl
  have m_law := He.glo_ok X G (c.fact 11 (f := .glo "law") rfl)
  have z_ValueError := He.free_ok X G (c.fact 12 (f := .free "ValueError") rfl)
  have z_abs := He.free_ok X G (c.fact 13 (f := .free "abs") rfl)
  have z_bool := He.free_ok X G (c.fact 14 (f := .free "bool") rfl)
  have z_int := He.free_ok X G (c.fact 15 (f := .free "int") rfl)
  have z_isinstance := He.free_ok X G (c.fact 16 (f := .free "isinstance") rfl)
  have z_len := He.free_ok X G (c.fact 17 (f := .free "len") rfl)
  have z_min := He.free_ok X G (c.fact 18 (f := .free "min") rfl)
  have z_range := He.free_ok X G (c.fact 19 (f := .free "range") rfl)
  have z_str := He.free_ok X G (c.fact 20 (f := .free "str") rfl)
  have z_tuple := He.free_ok X G (c.fact 21 (f := .free "tuple") rfl)
  have W_Params : PFacts K mg := ⟨He.glo_ok X G (c.fact 22 (f := .glo "Params") rfl), He.cls_ok (c.fact 23 (f := .cls "Params") rfl), He.mkr_ok (c.fact 24 (f := .mkr "Params") rfl), He.noat_ok (c.fact 25 (f := .noat "Params" "deposit") rfl), He.noat_ok (c.fact 26 (f := .noat "Params" "fee_base") rfl), He.noat_ok (c.fact 27 (f := .noat "Params" "fee_weight") rfl), He.noat_ok (c.fact 28 (f := .noat "Params" "fee_step") rfl), He.noat_ok (c.fact 29 (f := .noat "Params" "pledge_rate") rfl), He.noat_ok (c.fact 30 (f := .noat "Params" "coin_base") rfl), He.noat_ok (c.fact 31 (f := .noat "Params" "epoch_length") rfl), He.noat_ok (c.fact 32 (f := .noat "Params" "share") rfl), He.noat_ok (c.fact 33 (f := .noat "Params" "depth") rfl), He.noat_ok (c.fact 34 (f := .noat "Params" "most_steps") rfl)⟩
  have W_errs : EFacts K mg := ⟨glo_all (And.intro (He.glo_ok X G (c.fact 35 (f := .glo "KeptError") rfl)) (And.intro (He.glo_ok X G (c.fact 36 (f := .glo "ShapeError") rfl)) (And.intro (He.glo_ok X G (c.fact 37 (f := .glo "StateError") rfl)) (And.intro (He.glo_ok X G (c.fact 38 (f := .glo "RuleError") rfl)) (And.intro (He.glo_ok X G (c.fact 39 (f := .glo "ChainError") rfl)) (And.intro (He.glo_ok X G (c.fact 40 (f := .glo "PoolError") rfl)) (And.intro (He.glo_ok X G (c.fact 41 (f := .glo "RecordError") rfl)) (And.intro (He.glo_ok X G (c.fact 42 (f := .glo "WalletError") rfl)) (And.intro (He.glo_ok X G (c.fact 43 (f := .glo "ScriptError") rfl)) (And.intro (He.glo_ok X G (c.fact 44 (f := .glo "BadNumber") rfl)) (And.intro (He.glo_ok X G (c.fact 45 (f := .glo "TooMany") rfl)) (And.intro (He.glo_ok X G (c.fact 46 (f := .glo "NoSpends") rfl)) (And.intro (He.glo_ok X G (c.fact 47 (f := .glo "Repeated") rfl)) (And.intro (He.glo_ok X G (c.fact 48 (f := .glo "BadName") rfl)) (And.intro (He.glo_ok X G (c.fact 49 (f := .glo "BadText") rfl)) (And.intro (He.glo_ok X G (c.fact 50 (f := .glo "BadOutput") rfl)) (And.intro (He.glo_ok X G (c.fact 51 (f := .glo "BadMint") rfl)) (And.intro (He.glo_ok X G (c.fact 52 (f := .glo "BadFee") rfl)) (And.intro (He.glo_ok X G (c.fact 53 (f := .glo "BadInterval") rfl)) (And.intro (He.glo_ok X G (c.fact 54 (f := .glo "BadData") rfl)) (And.intro (He.glo_ok X G (c.fact 55 (f := .glo "BadDraw") rfl)) (And.intro (He.glo_ok X G (c.fact 56 (f := .glo "Present") rfl)) (And.intro (He.glo_ok X G (c.fact 57 (f := .glo "Absent") rfl)) (And.intro (He.glo_ok X G (c.fact 58 (f := .glo "NoPot") rfl)) (And.intro (He.glo_ok X G (c.fact 59 (f := .glo "NoMark") rfl)) (And.intro (He.glo_ok X G (c.fact 60 (f := .glo "Reused") rfl)) (And.intro (He.glo_ok X G (c.fact 61 (f := .glo "OutsideInterval") rfl)) (And.intro (He.glo_ok X G (c.fact 62 (f := .glo "UnknownOutput") rfl)) (And.intro (He.glo_ok X G (c.fact 63 (f := .glo "NotSigned") rfl)) (And.intro (He.glo_ok X G (c.fact 64 (f := .glo "NotJoined") rfl)) (And.intro (He.glo_ok X G (c.fact 65 (f := .glo "TooMuch") rfl)) (And.intro (He.glo_ok X G (c.fact 66 (f := .glo "AlreadyJoined") rfl)) (And.intro (He.glo_ok X G (c.fact 67 (f := .glo "RewardLeft") rfl)) (And.intro (He.glo_ok X G (c.fact 68 (f := .glo "BadLock") rfl)) (And.intro (He.glo_ok X G (c.fact 69 (f := .glo "MissingData") rfl)) (And.intro (He.glo_ok X G (c.fact 70 (f := .glo "NeedlessData") rfl)) (And.intro (He.glo_ok X G (c.fact 71 (f := .glo "TooCostly") rfl)) (And.intro (He.glo_ok X G (c.fact 72 (f := .glo "FeeTooLow") rfl)) (And.intro (He.glo_ok X G (c.fact 73 (f := .glo "NeedlessPledge") rfl)) (And.intro (He.glo_ok X G (c.fact 74 (f := .glo "BadPledge") rfl)) (And.intro (He.glo_ok X G (c.fact 75 (f := .glo "PledgeTooSmall") rfl)) (And.intro (He.glo_ok X G (c.fact 76 (f := .glo "Unbalanced") rfl)) (And.intro (He.glo_ok X G (c.fact 77 (f := .glo "WrongClaim") rfl)) (And.intro (He.glo_ok X G (c.fact 78 (f := .glo "BadBlockNumber") rfl)) (And.intro (He.glo_ok X G (c.fact 79 (f := .glo "KnownBlock") rfl)) (And.intro (He.glo_ok X G (c.fact 80 (f := .glo "BarredBlock") rfl)) (And.intro (He.glo_ok X G (c.fact 81 (f := .glo "UnknownParent") rfl)) (And.intro (He.glo_ok X G (c.fact 82 (f := .glo "TooManyTransactions") rfl)) (And.intro (He.glo_ok X G (c.fact 83 (f := .glo "TooDeep") rfl)) (And.intro (He.glo_ok X G (c.fact 84 (f := .glo "BadBlock") rfl)) (And.intro (He.glo_ok X G (c.fact 85 (f := .glo "BadSlot") rfl)) (And.intro (He.glo_ok X G (c.fact 86 (f := .glo "AlreadyPending") rfl)) (And.intro (He.glo_ok X G (c.fact 87 (f := .glo "PoolFull") rfl)) (And.intro (He.glo_ok X G (c.fact 88 (f := .glo "BadNotation") rfl)) (And.intro (He.glo_ok X G (c.fact 89 (f := .glo "BadRecord") rfl)) (And.intro (He.glo_ok X G (c.fact 90 (f := .glo "BadLine") rfl)) (And.intro (He.glo_ok X G (c.fact 91 (f := .glo "NotEnough") rfl)) (And.intro (He.glo_ok X G (c.fact 92 (f := .glo "NoPledge") rfl)) (And.intro (He.glo_ok X G (c.fact 93 (f := .glo "ScriptsRefuse") rfl)) (True.intro)))))))))))))))))))))))))))))))))))))))))))))))))))))))))))), cx⟩
  have e := hfa.symm.trans m_law
  cases e
  have b := FunD.bindsA (ps := ["script"]) F_law fun _ _ _ _ _ _ us hl => match us, hl with | [_], _ => rfl
  refine ⟨fd_law, fun s v => b s [v] rfl, fun base _ _ => ?_⟩
  have C_Params___init := ok_Params___init (P := P) (w := w) (mg := mg) (base := base) F_Params___init W_Params
  have C_KeptError___init := ok_KeptError___init (P := P) (w := w) (mg := mg) (base := base) F_KeptError___init 
  have C_law_cell := ok_law_cell (P := P) (w := w) (mg := mg) (base := base) m_law_cell F_law_cell z_len
  have C_law_numbers := ok_law_numbers (P := P) (w := w) (mg := mg) (base := base) m_law_numbers F_law_numbers z_abs z_range z_int
  have C_law_between := ok_law_between (P := P) (w := w) (mg := mg) (base := base) m_law_between F_law_between z_int z_len z_range z_min
  have C_law_shown := ok_law_shown (P := P) (w := w) (mg := mg) (base := base) m_law_shown F_law_shown W_Params
  have C_law_family := ok_law_family (P := P) (w := w) (mg := mg) (base := base) m_law_family F_law_family z_isinstance W_errs
  have C_law_stream := ok_law_stream (P := P) (w := w) (mg := mg) (base := base) m_law_stream F_law_stream C_law_numbers C_law_cell z_len z_int z_abs
  have C_law_same := ok_law_same (P := P) (w := w) (mg := mg) (base := base) m_law_same F_law_same z_isinstance z_tuple z_len z_range z_bool z_int z_str
  have C_law_values := ok_law_values (P := P) (w := w) (mg := mg) (base := base) m_law_values F_law_values C_law_between z_range z_int
  have C_law_params_hold := ok_law_params_hold (P := P) (w := w) (mg := mg) (base := base) m_law_params_hold F_law_params_hold C_Params___init C_law_same C_law_shown z_range z_tuple W_Params
  have C_law_errors_hold := ok_law_errors_hold (P := P) (w := w) (mg := mg) (base := base) m_law_errors_hold F_law_errors_hold C_law_same C_law_family z_isinstance z_ValueError z_tuple z_range W_errs
  have C_law_made_errors := ok_law_made_errors (P := P) (w := w) (mg := mg) (base := base) m_law_made_errors F_law_made_errors C_KeptError___init W_errs
  exact fn_law (P := P) (w := w) (mg := mg) (base := base) F_law C_law_stream C_law_values C_law_params_hold C_law_cell C_law_made_errors C_law_errors_hold C_KeptError___init C_law_same C_law_family z_int z_abs z_range z_isinstance z_ValueError z_tuple W_errs
end NK42
open PySem PySem.W PySem.Calls PyProof.Rows
set_option maxRecDepth 100000 in
set_option maxHeartbeats 0 in
theorem PySem.Challenge.cw_keptcoin_k42_parameters_and_errors_holds : PySem.Challenge.rw_keptcoin_k42_parameters_and_errors.Holds := by
  w_on; o_law
  refine HandSHeadRun.head_any (r := OpenLaw.row PySem.Challenge.rw_keptcoin_k42_parameters_and_errors) (q := view (OpenLaw.row PySem.Challenge.rw_keptcoin_k42_parameters_and_errors).prog [75]) (H := NK42.hk) (ob := NK42.ob) (M := 50000) (loose := [("Params" : PySem.Str), ("KeptError" : PySem.Str), ("ShapeError" : PySem.Str), ("StateError" : PySem.Str), ("RuleError" : PySem.Str), ("ChainError" : PySem.Str), ("PoolError" : PySem.Str), ("RecordError" : PySem.Str), ("WalletError" : PySem.Str), ("ScriptError" : PySem.Str), ("BadNumber" : PySem.Str), ("TooMany" : PySem.Str), ("NoSpends" : PySem.Str), ("Repeated" : PySem.Str), ("BadName" : PySem.Str), ("BadText" : PySem.Str), ("BadOutput" : PySem.Str), ("BadMint" : PySem.Str), ("BadFee" : PySem.Str), ("BadInterval" : PySem.Str), ("BadData" : PySem.Str), ("BadDraw" : PySem.Str), ("Present" : PySem.Str), ("Absent" : PySem.Str), ("NoPot" : PySem.Str), ("NoMark" : PySem.Str), ("Reused" : PySem.Str), ("OutsideInterval" : PySem.Str), ("UnknownOutput" : PySem.Str), ("NotSigned" : PySem.Str), ("NotJoined" : PySem.Str), ("TooMuch" : PySem.Str), ("AlreadyJoined" : PySem.Str), ("RewardLeft" : PySem.Str), ("BadLock" : PySem.Str), ("MissingData" : PySem.Str), ("NeedlessData" : PySem.Str), ("TooCostly" : PySem.Str), ("FeeTooLow" : PySem.Str), ("NeedlessPledge" : PySem.Str), ("BadPledge" : PySem.Str), ("PledgeTooSmall" : PySem.Str), ("Unbalanced" : PySem.Str), ("WrongClaim" : PySem.Str), ("BadBlockNumber" : PySem.Str), ("KnownBlock" : PySem.Str), ("BarredBlock" : PySem.Str), ("UnknownParent" : PySem.Str), ("TooManyTransactions" : PySem.Str), ("TooDeep" : PySem.Str), ("BadBlock" : PySem.Str), ("BadSlot" : PySem.Str), ("AlreadyPending" : PySem.Str), ("PoolFull" : PySem.Str), ("BadNotation" : PySem.Str), ("BadRecord" : PySem.Str), ("BadLine" : PySem.Str), ("NotEnough" : PySem.Str), ("NoPledge" : PySem.Str), ("ScriptsRefuse" : PySem.Str), ("_law_cell" : PySem.Str), ("_law_numbers" : PySem.Str), ("_law_stream" : PySem.Str), ("_law_count" : PySem.Str), ("_law_between" : PySem.Str), ("_law_same" : PySem.Str), ("_law_values" : PySem.Str), ("_law_shown" : PySem.Str), ("_law_params_hold" : PySem.Str), ("_law_family" : PySem.Str), ("_law_errors_hold" : PySem.Str), ("_law_made_errors" : PySem.Str)]) (d := HandSHeadRun.topDef (OpenLaw.row PySem.Challenge.rw_keptcoin_k42_parameters_and_errors).prog 75) (kwd := []) NK42.ob_eq
    (by kernel_rfl) (fun s => by kernel_rfl) NK42.run (by kernel_rfl) (by kernel_rfl) (by kernel_rfl) (by rfl) (by first | assumption | decide +kernel) (by decide +kernel) ⟨rfl, rfl, rfl, rfl, rfl, by decide +kernel⟩ ?hw ?hc
  case hw => w_witness2
  case hc =>
    refine L2.walk_ofE (l := PySem.Challenge.rw_keptcoin_k42_parameters_and_errors) (n := 63) (k := 4) (x := "script") (CX := L2.CX0) rfl (by decide) (by kernel_rfl) ⟨rfl, by decide, by decide⟩ ?F (fun _ _ _ _ z => z)
    intro w mg fa h Y G hmg0
    obtain ⟨K, KX, c⟩ := Y
    have hmg : mg ("law" : PySem.Str) = some (.ref fa) := by
      have e : (HandSHeadRun.topDef (OpenLaw.row PySem.Challenge.rw_keptcoin_k42_parameters_and_errors).prog 75).name = ("law" : PySem.Str) := by kernel_rfl
      rw [← e]
      exact hmg0
    obtain ⟨fd, hb, hF⟩ := NK42.facts (P := (PySem.Challenge.rw_keptcoin_k42_parameters_and_errors).prog) (w := w) KX G hmg c.more c.t.d
    exact ⟨K, fd, NK42.sp_law K, KX, hb, fun H a ns hl _ hS => ⟨a, ns, rfl, hS, hl, fun _ => rfl⟩, hF⟩

